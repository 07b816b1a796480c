import PyProof.Rows.All
import Wide.All
import OpenK.AllK
import Wide.FinOn
import Lean
import PyProof.EqAt
import PyProof.EqKinds
import PyProof.NeKinds
import PyProof.TupleCall
import PyProof.ExcBaseAll.ValueError
import KE.KDictList
import KE.KTryMore
import PyProof.EnumMake
import PyProof.Rows.EnumRows
import PyProof.Rows.FactsT2
import KE.KRevIter
import PyProof.DictItems
import PyProof.FactsAll.dict_3
import PyProof.FactsAll.dict_itemiterator_1
import OpenK.KOwn
import PyProof.StrBlock2
import KE.IntText
import PyProof.Rows.TupDisplay
import PySem.Challenge.RW_halfask_k04_whole_stamps
set_option Elab.async false
set_option linter.all false
set_option maxRecDepth 100000
set_option maxHeartbeats 4000000
def qA_:=@List.getElem?_eq_getElem
def qB_:=@List.getElem?_eq_some_iff
def qC_:=@Bool.false_ne_true
def qD_:=@List.mem_of_getElem?
def qE_:=@List.mem_append_right
def qF_:=@List.mem_append_left
def qG_:=@List.mem_append
def qH_:=@List.mem_map
def qI_:=@List.mem_cons_self
def qJ_:=@List.getElem?_set
def qK_:=@List.getElem?_append_left
def qL_:=@List.getElem?_append_right
def qM_:=@List.length_map
def qN_:=@List.length_append
def qO_:=@Nat.le_refl
def qP_:=@Nat.le_of_ble_eq_true
def qQ_:=@List.getElem?_map
def qR_:=@List.mem_cons_of_mem
def qS_:=@List.mem_cons
def qT_:=@List.map_append
def qU_:=@List.getElem?_set_self
def qV_:=@List.getElem?_set_ne
def qW_:=@List.size_toArray
def qX_:=@List.length_set
def qY_:=@List.append_nil
def qZ_:=@decide_eq_true
def qa_:=@decide_eq_false
def qb_:=@List.map_map
def qc_:=@List.nil_append
def qd_:=@Nat.lt_of_lt_of_le
def qe_:=@Nat.lt_irrefl
def qf_:=@Nat.zero_le
namespace L2
open PySem PySem.Spec PyProof.Rows
abbrev Key:=Sum Int Str
def o8:Key->Value->Bool
 | .inl k,v=>Value.isInt k v
 | .inr x,v=>Value.isStrOf x v
def IJ(w:World):Key->Int
 | .inl k=>hashInt k
 | .inr x=>hashStr w x
def bS:∀{k:Key} {v:Value},o8 k v=true->(∃i t,k=Sum.inl i/\v=Value.int i t)\/(∃x t,k=Sum.inr x/\v=Value.str x t)
 | .inl i,v,h=>by
   obtain⟨t,e⟩:=Value.isInt_shape (k:=i) (v:=v) h
   exact .inl ⟨i,t,rfl,e⟩
 | .inr x,v,h=>by
   obtain⟨t,e⟩:=Value.isStrOf_shape (x:=x) (v:=v) h
   exact .inr ⟨x,t,rfl,e⟩
def yd(i:Int)(t:Tok):o8 (.inl i) (.int i t)=true:=by simp [o8,Value.isInt]
def x6(x:Str)(t:Tok):o8 (.inr x) (.str x t)=true:=by simp [o8,Value.isStrOf]
def DQ(a b:Int):decide ((Sum.inl a:Key)=Sum.inl b)=(a==b):=by
 by_cases e:a=b
 · subst e;simp
 · have h:¬(Sum.inl a:Key)=Sum.inl b:=fun q=>e (Sum.inl.inj q)
   rw[qa_ h]
   exact(beq_eq_false_iff_ne.mpr e).symm
def Ez(a b:Str):decide ((Sum.inr a:Key)=Sum.inr b)=decide (a=b):=by
 by_cases e:a=b
 · subst e;simp
 · have h:¬(Sum.inr a:Key)=Sum.inr b:=fun q=>e (Sum.inr.inj q)
   rw[qa_ h,qa_ e]
def FK(a:Int)(b:Str):decide ((Sum.inl a:Key)=Sum.inr b)=false:=qa_ (fun q=>nomatch q)
def Fh(a:Str)(b:Int):decide ((Sum.inr a:Key)=Sum.inl b)=false:=qa_ (fun q=>nomatch q)
def bO(prog:Program)(w:World):PySem.KeyKind prog w Key where
 is:=o8
 hash:=IJ w
 inj:=fun v a b ha hb=>by
  rcases bS ha with ⟨i,t,rfl,rfl⟩ |⟨x,t,rfl,rfl⟩
  · rcases bS hb with ⟨j,u,rfl,e⟩ |⟨y,u,rfl,e⟩
    · injection e with e1 _;rw[e1]
    · exact nomatch e
  · rcases bS hb with ⟨j,u,rfl,e⟩ |⟨y,u,rfl,e⟩
    · exact nomatch e
    · injection e with e1 _;rw[e1]
 byValue:=fun k v h=>by
  rcases bS h with ⟨i,t,rfl,rfl⟩ |⟨x,t,rfl,rfl⟩ <;> rfl
 pyHash:=fun hv h=>by
  rcases bS hv with ⟨i,t,rfl,rfl⟩ |⟨x,t,rfl,rfl⟩
  · exact wpAny_pyHash_int h
  · exact wpAny_pyHash_str h
 eqBool:=fun hu hv h=>by
  rcases bS hu with ⟨i,t,rfl,rfl⟩ |⟨x,t,rfl,rfl⟩
  · rcases bS hv with ⟨j,u,rfl,rfl⟩ |⟨y,u,rfl,rfl⟩
    · rw[DQ]at h;exact wpAny_eqBool_int h
    · rw[FK]at h;exact SeqAt.EqAt.int_str i t y u _ _ _ _ h
  · rcases bS hv with ⟨j,u,rfl,rfl⟩ |⟨y,u,rfl,rfl⟩
    · rw[Fh]at h;exact SeqAt.EqAt.str_int x t j u _ _ _ _ h
    · rw[Ez]at h;exact wpAny_eqBool_str h
 «strs»:=fun k x t v h=>by
  rcases bS h with ⟨i,u,rfl,e⟩ |⟨y,u,rfl,e⟩
  · exact nomatch e
  · injection e with e1 _
    subst e1
    cases v <;> rfl
def tR(prog:Program)(w:World)(i:Int)(t:Tok):(bO prog w).is (.inl i) (.int i t)=true:=yd i t
def ud(prog:Program)(w:World)(x:Str)(t:Tok):(bO prog w).is (.inr x) (.str x t)=true:=x6 x t
inductive V where
 |non |bl (b:Bool) |int (i:Int) |str (x:Str) |byt (b:Array UInt8) |flt (b:UInt64) |ref (a:Addr) |ty (n:String)
 deriving DecidableEq
def RelV:V->Value->Prop
 | .non,u=>u=Value.none
 | .bl b,u=>u=Value.bool b
 | .int i,u=>∃t,u=Value.int i t
 | .str x,u=>∃t,u=Value.str x t
 | .byt b,u=>∃t,u=Value.bytes b t
 | .flt b,u=>∃t,u=Value.float b t
 | .ref a,u=>u=Value.ref a
 | .ty n,u=>u=Value.type n
abbrev Vals:List V->List Value->Prop:=Paired RelV
theorem Vals.length{xs:List V}{us:List Value}(r:Vals xs us):xs.length=us.length:=Paired.length r
theorem Vals.get:∀{xs:List V} {us:List Value} {i:Nat} {x:V},Vals xs us->xs[i]? =some x->∃u,us[i]? =some u/\RelV x u
 |_,_,_,_,.nil,e=>by simp at e
 |_,_,0,_,.cons r _,e=>by simp at e;subst e;exact⟨_,rfl,r⟩
 |_,_,i+1,x,.cons _ t,e=>by
  obtain⟨u,h1,h2⟩:=Vals.get (i:=i) (x:=x) t (by simpa using e)
  exact⟨u,by simpa using h1,h2⟩
theorem Vals.set{x:V}{u:Value}(r:RelV x u):∀{xs:List V} {us:List Value} (i:Nat),Vals xs us->Vals (xs.set i x) (us.set i u)
 |_,_,_,.nil=>.nil
 |_,_,0,.cons _ t=>.cons r t
 |_,_,i+1,.cons q t=>.cons q (Vals.set r i t)
theorem Vals.append:∀{xs ys:List V} {us ws:List Value},Vals xs us->Vals ys ws->Vals (xs++ys) (us++ws)
 |_,_,_,_,.nil,s=>s
 |_,_,_,_,.cons r t,s=>.cons r (Vals.append t s)
theorem Vals.take:∀{xs:List V} {us:List Value} (n:Nat),Vals xs us->Vals (xs.take n) (us.take n)
 |_,_,0,_=>.nil
 |_,_,_+1,.nil=>.nil
 |_,_,n+1,.cons r t=>.cons r (Vals.take n t)
theorem Vals.drop:∀{xs:List V} {us:List Value} (n:Nat),Vals xs us->Vals (xs.drop n) (us.drop n)
 |_,_,0,r=>r
 |_,_,_+1,.nil=>.nil
 |_,_,n+1,.cons _ t=>Vals.drop n t
def kR:Option V->Option Value->Prop
 |some v,some u=>RelV v u
 |none,none=>True
 |_,_=>False
def KV{κ:Type}:List (κ×V)->List (κ×Value)->Prop:=Paired fun(p:κ×V) (q:κ×Value)=>p.1=q.1/\RelV p.2 q.2
def kV:Key->V
 | .inl i=>.int i
 | .inr x=>.str x
inductive HO where
 /-- a list -/
 |lst (xs:List V)
 /-- a tuple (never changes) -/
 |tup (xs:List V)
 /-- a dict whose keys are ints and texts;one whose keys are tuples of ints and texts (the empty one is both) -/
 |dK (kvs:List (Key×V)) |dT (kvs:List (List Key×V))
 /-- a set of ints:its members,its size -/
 |set (S:Int->Bool) (n:Nat)
 /-- an instance of the class at C,its dict at dx,its attributes -/
 |ins (C dx:Addr) (fs:List (Str×V))
 /-- the dict of the instance at x -/
 |own (x:Addr)
 /-- the dict of an exception -/
 |xd (fs:List (Str×V))
 /-- a bound method,f of x -/
 |met (f x:Addr)
 /-- a range object lo,lo+1,.. below hi -/
 |rng (lo hi:Int)
 /-- a thing that is known to the object (the script;a dict while a loop walks it):read,never written while it is so -/
 |frz (o:Obj) (u:HO)
 /-- a code object's table -/
 |tbl (ps:Array Value)
 /-- any other thing,by what is true of its one object (a def of one's own:SetO a S n:=HO.ext fun h=>..) -/
 |ext (φ:Heap->Prop)
abbrev Hp:=Addr->Option HO
def upd(H:Hp)(a:Addr)(o:HO):Hp:=fun b=>if b=a then some o else H b
def aK{H:Hp}{a:Addr}{o:HO}:upd H a o a=some o:=by unfold upd;rw[if_pos rfl]
def aI{H:Hp}{a b:Addr}{o:HO}(h:b≠a):upd H a o b=H b:=by unfold upd;rw[if_neg h]
def yL{H:Hp}{a b:Addr}{o u:HO}(h:H a=some o)(h':H b=some u)(d:o≠u):a≠b:=by
 intro e;subst e;rw[h]at h';exact d (Option.some.inj h')
def cp{H:Hp}{a b:Addr}{o:HO}(h:H a=some o)(h':H b=none):a≠b:=by
 intro e;subst e;rw[h]at h';cases h'
section
variable(P:Program)(w:World)
def bR(H:Hp)(h:Heap)(a:Addr):HO->Prop
 | .lst xs=>xs.length<=sizeLine/\∃(its:List Value) (n:Nat),Vals xs its/\h.get? a=some {cls:= .type "list",data:= .seq its.toArray n}
 | .tup xs=>xs.length<=sizeLine/\∃its:List Value,Vals xs its/\IsTup h a its.toArray
 | .dK kvs=>kvs.length<=sizeLine/\(a==sysModules)=false/\∃vs,KV kvs vs/\h.DictOf (bO P w) a vs
 | .dT kvs=>kvs.length<=sizeLine/\(a==sysModules)=false/\∃xs:List (List Key×Addr×Value),
    Paired (fun(p:List Key×V) (q:List Key×Addr×Value)=>p.1=q.1/\H q.2.1=some (.tup (p.1.map kV))/\RelV p.2 q.2.2) kvs xs/\
    ∃o es ep,h.get? a=some o/\o.ExactDict/\o.data= .dict es ep/\es.toList=xs.map (entryOfKey (tupleKind (bO P w)))/\(xs.map (·.1)).Nodup
 | .set S n=>h.SetOf (intKind P w) a S n
 | .ins C dx fs=>H dx=some (.own a)/\fs.length<=1000/\dx≠a/\h.get? a=some (PySem.W.instObj C dx)/\
    ∃mA,h.Ns1 dx mA/\(∀f,kR (fs.lookup f) (mA f))/\PySem.Within mA (fs.map (·.1))
 | .own _=>∃o,h.get? a=some o
 | .xd fs=>∃mA,h.Ns1 a mA/\∀f,kR (fs.lookup f) (mA f)
 | .rng lo hi=>∃t u v,h.get? a=some {cls:= .type "range",data:= .fields #[.int lo t,.int hi u,.int 1 v]}
 | .frz o u=>h.get? a=some o/\bR H h a u
 | .tbl ps=>h.get? a=some {cls:= .none,data:= .fields ps}
 | .met f x=>h.get? a=some (PySem.W.methodObj (.ref f) (.ref x))
 | .ext φ=>φ h/\(∃o,h.get? a=some o)/\∀h1 h2:Heap,φ h1->(∀o,h1.get? a=some o->h2.get? a=some o)->φ h2
def HOk(H:Hp)(h:Heap):Prop:=∀a o,H a=some o->bR P w H h a o
end
section
variable{P:Program}{w:World}{H H':Hp}{h h':Heap}{a:Addr}{o:HO}
theorem bR.lt(x:bR P w H h a o):a < h.objs.size:=by
 cases o with
 |lst xs=>obtain⟨_,_,_,_,e⟩:=x;exact Heap.lt_size e
 |tup xs=>obtain⟨_,_,_,p⟩:=x;exact p.lt
 |dK kvs=>obtain⟨_,_,_,_,o,_,_,e,_⟩:=x;exact Heap.lt_size e
 |dT kvs=>obtain⟨_,_,_,_,o,_,_,e,_⟩:=x;exact Heap.lt_size e
 |set S n=>obtain⟨o,_,_,_,e,_⟩:=x;exact Heap.lt_size e
 |ins C dx fs=>obtain⟨_,_,_,e,_⟩:=x;exact Heap.lt_size e
 |own y=>obtain⟨_,e⟩:=x;exact Heap.lt_size e
 |xd fs=>obtain⟨_,⟨_,_,_,e,_⟩,_⟩:=x;exact Heap.lt_size e
 |rng lo hi=>obtain⟨_,_,_,e⟩:=x;exact Heap.lt_size e
 |frz ob u=>obtain⟨e,_⟩:=x;exact Heap.lt_size e
 |tbl ps=>exact Heap.lt_size (show h.get? a=some _ from x)
 |met f y=>exact Heap.lt_size (show h.get? a=some _ from x)
 |ext φ=>obtain⟨_,⟨_,e⟩,_⟩:=x;exact Heap.lt_size e
theorem Paired.Ct{α β:Type}{F G:α->β->Prop}:∀{l₁:List α} {l₂:List β},Paired F l₁ l₂->(∀a b,F a b->G a b)->Paired G l₁ l₂
 |_,_,.nil,_=>.nil
 |_,_,.cons r t,f=>.cons (f _ _ r) (Paired.Ct t f)
def Paired.imp'{α β:Type}{F G:α->β->Prop}(f:∀a b,F a b->G a b){l₁:List α}{l₂:List β}(r:Paired F l₁ l₂):Paired G l₁ l₂:=Paired.Ct r f
def bR.gH(x:bR P w H h a o)(k:∀b u,(b=a\/H b=some (.own a))->h.get? b=some u->h'.get? b=some u)
 (ho:∀b,H b=some (.own a)->H' b=some (.own a)) (ht:∀b xs,H b=some (.tup xs)->H' b=some (.tup xs)):bR P w H' h' a o:=by
 induction o with
 |lst xs=>obtain⟨z,its,n,r,e⟩:=x;exact⟨z,its,n,r,k _ _ (.inl rfl) e⟩
 |tup xs=>obtain⟨z,its,r,ob,e,c⟩:=x;exact⟨z,its,r,ob,k _ _ (.inl rfl) e,c⟩
 |dK kvs=>obtain⟨z,y,vs,r,ob,es,ep,e,c⟩:=x;exact⟨z,y,vs,r,ob,es,ep,k _ _ (.inl rfl) e,c⟩
 |dT kvs=>
  obtain⟨z,y,xs,r,ob,es,ep,e,c⟩:=x
  exact⟨z,y,xs,Paired.Ct r fun p q z=>⟨z.1,ht _ _ z.2.1,z.2.2⟩,ob,es,ep,k _ _ (.inl rfl) e,c⟩
 |set S n=>obtain⟨ob,es,ep,t,e,c⟩:=x;exact⟨ob,es,ep,t,k _ _ (.inl rfl) e,c⟩
 |ins C dx fs=>
  obtain⟨d,z,ne,e,mA,⟨od,es,ep,e2,c⟩,r⟩:=x
  exact⟨ho _ d,z,ne,k _ _ (.inl rfl) e,mA,⟨od,es,ep,k _ _ (.inr d) e2,c⟩,r⟩
 |own y=>obtain⟨ob,e⟩:=x;exact⟨ob,k _ _ (.inl rfl) e⟩
 |xd fs=>obtain⟨mA,⟨od,es,ep,e,c⟩,r⟩:=x;exact⟨mA,⟨od,es,ep,k _ _ (.inl rfl) e,c⟩,r⟩
 |rng lo hi=>obtain⟨t,u,v,e⟩:=x;exact⟨t,u,v,k _ _ (.inl rfl) e⟩
 |frz ob u ih=>obtain⟨e,q⟩:=x;exact⟨k _ _ (.inl rfl) e,ih q⟩
 |tbl ps=>
  have e:h.get? a=some {cls:= .none,data:= .fields ps}:=x
  show h'.get? a=some {cls:= .none,data:= .fields ps}
  exact k a _ (.inl rfl) e
 |met f y=>
  have e:h.get? a=some (PySem.W.methodObj (.ref f) (.ref y)):=x
  show h'.get? a=some (PySem.W.methodObj (.ref f) (.ref y))
  exact k a _ (.inl rfl) e
 |ext φ=>obtain⟨p,⟨o,e⟩,st⟩:=x;exact⟨st _ _ p fun o q=>k _ _ (.inl rfl) q,⟨o,k _ _ (.inl rfl) e⟩,st⟩
theorem HOk.lt(x:HOk P w H h)(e:H a=some o):a < h.objs.size:=(x a o e).lt
def HOk.fresh(x:HOk P w H h)(e:h.objs.size<=a):H a=none:=by
 cases q:H a with
 |none=>rfl
 |some u=>exact absurd (qd_ (x.lt q) e) (qe_ _)
def HOk.kept(x:HOk P w H h)(k:∀b u,h.get? b=some u->h'.get? b=some u):HOk P w H h':=fun a o e=>
 (x a o e).gH (fun b u _ q=>k b u q) (fun _ q=>q) fun _ _ q=>q
def HOk.laid(x:HOk P w H h)(k:∀b u,h.get? b=some u->h'.get? b=some u)(hp:h.objs.size<=a)(new:bR P w (upd H a o) h' a o):HOk P w (upd H a o) h':=fun b u e=>by
 have hn:=x.fresh hp
 by_cases hb:b=a
 · subst hb;rw[aK]at e;cases e;exact new
 · rw[aI hb]at e
   exact(x b u e).gH (fun c v _ q=>k c v q) (fun c q=>by rw[aI (cp q hn)];exact q) fun c xs q=>by rw[aI (cp q hn)];exact q
end
def Rd(H:Hp)(a:Addr)(u:HO):Prop:=H a=some u\/∃o,H a=some (.frz o u)
def Rd.ok{P:Program}{w:World}{H:Hp}{h:Heap}{a:Addr}{u:HO}(r:Rd H a u)(x:HOk P w H h):bR P w H h a u:=by
 rcases r with r |⟨o,r⟩
 · exact x a u r
 · obtain⟨_,q⟩:=x a _ r
   exact q
def Mut:Option HO->Prop
 |some (.lst _)=>True
 |some (.dK _)=>True
 |some (.dT _)=>True
 |some (.set _ _)=>True
 |some (.ins _ _ _)=>True
 |some (.ext _)=>True
 |_=>False
section
variable{P:Program}{w:World}{H:Hp}{h h':Heap}{x e:Addr}{o':HO}
def HOk.write(ok:HOk P w H h)(mu:Mut (H x))(he:e=x\/H e=some (.own x))(k:∀b u,b≠e->h.get? b=some u->h'.get? b=some u)(heo:∃u,h'.get? e=some u)
 (new:bR P w (upd H x o') h' x o'):HOk P w (upd H x o') h':=fun b u q=>by
 have nown:∀c y,H c=some (.own y)->c≠x:=fun c y r z=>by subst z;rw[r]at mu;exact mu
 have ntup:∀c xs,H c=some (.tup xs)->c≠x:=fun c xs r z=>by subst z;rw[r]at mu;exact mu
 by_cases hb:b=x
 · subst hb;rw[aK]at q;cases q;exact new
 · rw[aI hb]at q
   by_cases hbe:b=e
   · have q':H b=some (.own x):=by
      rcases he with z |z
      · exact absurd (hbe.trans z) hb
      · rw[hbe];exact z
     rw[q]at q';cases q'
     obtain⟨v,hv⟩:=heo
     exact⟨v,by rw[hbe];exact hv⟩
   · refine(ok b u q).gH (fun c v hc r=>k c v ?_ r) (fun c r=>by rw[aI (nown c b r)];exact r) fun c xs r=>by rw[aI (ntup c xs r)];exact r
     rcases hc with rfl |hc
     · exact hbe
     · rintro rfl
       rcases he with z |z
       · exact nown c b hc z
       · rw[hc]at z;cases z;exact hb rfl
end
structure Un (fs ex:List Addr) (H H':Hp) (h h':Heap):Prop where
 keep:∀b o,h.get? b=some o->H b=none->b∉fs->b∉ex->h'.get? b=some o
 slot:∀b o,h.get? b=some o->H b=none->b∈fs->b∉ex->∃sl,h'.get? b=some {o with slots:=sl}
 free:∀b o,h.get? b=some o->H b=none->b∉ex->H' b=none
 there:∀b o,h.get? b=some o->b∉ex->∃o',h'.get? b=some o'
 pN:∀b xs,H b=some (.tup xs)->H' b=some (.tup xs)
 mR:∀b o u,H b=some (.frz o u)->H' b=some (.frz o u)
 pT:∀b ps,H b=some (.tbl ps)->∃more,H' b=some (.tbl (ps++more))
section
variable{fs fs' ex ex':List Addr}{H H1 H2:Hp}{h h1 h2 h':Heap}{a x e:Addr}{o:HO}
def Un.any(u:Un fs ex H H1 h h1){b:Addr}{ob:Obj}(q:h.get? b=some ob)(n:H b=none)(hx:b∉ex):∃sl,h1.get? b=some {ob with slots:=sl}:=by
 by_cases hb:b∈fs
 · exact u.slot b ob q n hb hx
 · exact⟨ob.slots,u.keep b ob q n hb hx⟩
def Un.kept(k:∀b u,h.get? b=some u->h'.get? b=some u):Un fs ex H H h h':=
 ⟨fun b ob q _ _ _=>k b ob q,fun b ob q _ _ _=>⟨ob.slots,k b ob q⟩,fun _ _ _ n _=>n,fun b ob q _=>⟨ob,k b ob q⟩,fun _ _ q=>q,fun _ _ _ q=>q,fun _ ps q=>⟨#[],by rw[q];simp⟩⟩
def Un.refl:Un fs ex H H h h:=Un.kept fun _ _ q=>q
def Un.laid(k:∀b u,h.get? b=some u->h'.get? b=some u)(hp:h.objs.size<=a)(hn:H a=none):Un fs ex H (upd H a o) h h' where
 keep:=fun b u q _ _ _=>k b u q
 slot:=fun b u q _ _ _=>⟨u.slots,k b u q⟩
 free:=fun b u q n _=>by rw[aI (Nat.ne_of_lt (qd_ (Heap.lt_size q) hp))];exact n
 there:=fun b u q _=>⟨u,k b u q⟩
 pN:=fun b xs q=>by rw[aI (cp q hn)];exact q
 mR:=fun b u xs q=>by rw[aI (cp q hn)];exact q
 pT:=fun b ps q=>⟨#[],by rw[aI (cp q hn),q];simp⟩
def Un.write(mu:Mut (H x))(he:e=x\/H e=some (.own x))(k:∀b u,b≠e->h.get? b=some u->h'.get? b=some u)(heo:∃u,h'.get? e=some u):Un fs ex H (upd H x o) h h':=by
 have hx:∀b,H b=none->b≠x:=fun b n z=>by subst z;rw[n]at mu;exact mu
 have hb:∀b,H b=none->b≠e:=fun b n z=>by
  subst z
  rcases he with r |r
  · exact hx b n r
  · rw[n]at r;cases r
 have hm:∀b u,H b=some u->¬Mut (some u)->b≠x:=fun b u q nm z=>by subst z;rw[q]at mu;exact nm mu
 refine⟨fun b u q n _ _=>k b u (hb b n) q,fun b u q n _ _=>⟨u.slots,k b u (hb b n) q⟩,fun b u q n _=>by rw[aI (hx b n)];exact n,fun b u q _=>?_,
  fun b xs q=>by rw[aI (hm b _ q fun z=>z)];exact q,fun b u xs q=>by rw[aI (hm b _ q fun z=>z)];exact q,fun b ps q=>⟨#[],by rw[aI (hm b _ q fun z=>z),q];simp⟩⟩
 by_cases hbe:b=e
 · subst hbe;exact heo
 · exact⟨u,k b u hbe q⟩
end
def trk(h:Heap)(H:Hp):List Addr:=(List.range h.objs.size).filter fun a=>(H a).isSome
def sT(h:Heap)(H:Hp):Heap:=PySem.W.hideAll h (trk h H)
def yB(h:Heap)(H:Hp):(sT h H).objs.size=h.objs.size:=PySem.W.hideAll_size _ _
def AQ{h:Heap}{H:Hp}{b:Addr}{o:Obj}(e:h.get? b=some o)(n:H b=none):(sT h H).get? b=some o:=
 PySem.W.hideAll_get _ e fun hm=>by
  have q:(H b).isSome=true:=(List.mem_filter.mp hm).2
  rw[n]at q;simp at q
def CJ{h:Heap}{H:Hp}{b:Addr}{o:Obj}(e:(sT h H).get? b=some o):h.get? b=some o/\H b=none:=by
 have e':h.get? b=some o:=PySem.W.of_hideAll (trk h H) e
 refine⟨e',?_⟩
 cases q:H b with
 |none=>rfl
 |some x=>
  have hm:b∈trk h H:=List.mem_filter.mpr ⟨List.mem_range.mpr (Heap.lt_size e'),by simp [q]⟩
  have z:(sT h H).get? b=none:=PySem.W.hideAll_none (trk h H) hm
  rw[z]at e;cases e
structure Mod (K:PySem.W.Frag) (mg:Str->Option Value) (base:Heap):Prop where
 kin:K.In base
 glob:base.Ns mainGlobals mg
 blt:∃mb,base.Ns builtinsNs mb/\∀x:Str,x≠"__name__"->mb x=bootBuiltins x
 nolimit:base.NoLimit
structure Cx where
 prog:Program
 w:World
 K:PySem.W.Frag
 mg:Str->Option Value
 base:Heap
 A:Around
 N:List Str
 s₀:Shared
 H₀:Hp
 env:Env
 outer:List Env
 stack:List Env
 ex:List Addr
 fn:Str->Bool
 calm:Bool
 pn:List (Addr×Obj)
 xe:Value->Shared->Prop
def frs(l:List Env):List Addr:=l.filterMap (·.frame)
abbrev Cx.fs(X:Cx):List Addr:=frs X.outer
def Vis(sc:Scope)(x:Str):Prop:=sc.names.lookup x=some .local\/sc.names.lookup x=some .cell\/sc.names.lookup x=some .free
def Loc(sc:Scope)(x:Str):Prop:=sc.names.lookup x=some .local\/sc.names.lookup x=some .cell
def Look(env:Env)(h:Heap)(m:Str->Option Value)(x:Str)(u:Value):Prop:=
 (env.kindOf x=some .local/\m x=some u)\/((env.kindOf x=some .cell\/env.kindOf x=some .free)/\∃c,env.cells.lookup x=some c/\h.IsCell c (some u))
structure Cx.Ok (X:Cx):Prop where
 mod:Mod X.K X.mg X.base
 kind:X.env.scope.kind= .function
 glob:X.env.globals=mainGlobals
 blt:X.env.builtins=builtinsNs
 above:X.s₀.heap.objs.size<=X.env.locals
 inj:∀x y c,X.env.cells.lookup x=some c->X.env.cells.lookup y=some c->x=y
 has:∀x,(X.env.kindOf x=some .cell\/X.env.kindOf x=some .free)->∃c,X.env.cells.lookup x=some c
 cab:∀x c,X.fn x=true->X.env.cells.lookup x=some c->X.s₀.heap.objs.size<=c
 hd:X.calm=true->X.A.handled=none
 frames:X.A.frames=some X.stack
 stk:X.stack=X.outer\/(X.stack=X.env :: X.outer/\X.env.frame=some X.env.locals)
 exf:∀b∈X.ex,b≠X.env.locals/\∀x c,X.env.cells.lookup x=some c->c≠b
 bs:∀b o,X.base.get? b=some o->X.s₀.heap.get? b=some o/\X.H₀ b=none
 bsz:X.base.objs.size<=X.s₀.heap.objs.size
 vA:∀b o,X.base.get? b=some o->b∉X.ex
 xP:∀b∈X.ex,b∉X.fs
 mf:X.s₀.heap.FunFrames X.base X.outer
 frf:∀b∈X.fs,X.H₀ b=none
structure Inv (X:Cx) (pins:List (Addr×Obj)) (σ:List (Option V)) (H:Hp) (s:Shared):Prop where
 ok:X.Ok
 os:s.os=X.s₀.os
 bare:AllBare s.gens
 base:Un X.fs X.ex X.H₀ H X.s₀.heap s.heap
 loc:∃m,s.heap.Ns X.env.locals m/\∀(i:Nat) (x:Str) (v:V),X.N[i]? =some x->σ[i]? =some (some v)->Vis X.env.scope x->∃u,RelV v u/\Look X.env s.heap m x u
 cell:∀x c,X.env.cells.lookup x=some c->∃v,s.heap.IsCell c v
 free:H X.env.locals=none
 fR:∀x c,X.env.cells.lookup x=some c->H c=none
 pin:∀p∈X.pn++pins,s.heap.get? p.1=some p.2/\H p.1=none/\p.1≠X.env.locals/\p.1∉X.fs/\∀v,p.2.data≠.cell v
 hok:HOk X.prog X.w H s.heap
 len:σ.length=X.N.length
section
variable{X:Cx}{pins:List (Addr×Obj)}{σ:List (Option V)}{H H':Hp}{s:Shared}{h':Heap}
def Cx.Ok.IF(ok:X.Ok){b:Addr}{o:Obj}(e:X.base.get? b=some o):b∉X.fs:=fun hb=>by
 have:=(ok.mf.mem hb).1
 rw[e]at this;cases this
theorem Inv.bs(I:Inv X pins σ H s):∀b o,X.base.get? b=some o->s.heap.get? b=some o/\H b=none:=fun b o e=>
 ⟨I.base.keep b o (I.ok.bs b o e).1 (I.ok.bs b o e).2 (I.ok.IF e) (I.ok.vA b o e),I.base.free b o (I.ok.bs b o e).1 (I.ok.bs b o e).2 (I.ok.vA b o e)⟩
def Inv.bk(I:Inv X pins σ H s):∀b o,X.base.get? b=some o->s.heap.get? b=some o:=fun b o e=>(I.bs b o e).1
theorem Inv.mod(I:Inv X pins σ H s):Mod X.K X.mg X.base:=I.ok.mod
def Inv.kIn(I:Inv X pins σ H s):X.K.In s.heap:=I.ok.mod.kin.keeps I.bk
theorem Inv.lt(I:Inv X pins σ H s):X.env.locals < s.heap.objs.size:=let ⟨_,hn,_⟩:=I.loc;hn.lt
def Inv.sz(I:Inv X pins σ H s):X.s₀.heap.objs.size<=s.heap.objs.size:=Nat.le_trans I.ok.above (Nat.le_of_lt I.lt)
def Inv.Jb(I:Inv X pins σ H s){a:Addr}(h:s.heap.objs.size<=a):a∉X.fs:=fun hb=>by
 obtain⟨_,o,ho,_⟩:=I.ok.mf.mem hb
 exact absurd (qd_ (Heap.lt_size ho) (Nat.le_trans I.sz h)) (qe_ _)
def Inv.cne(I:Inv X pins σ H s):∀x c,X.env.cells.lookup x=some c->c≠X.env.locals:=fun x c e z=>by
 obtain⟨v,o,ho,hd⟩:=I.cell x c e
 obtain⟨m,⟨o',es,ep,ho',hd',_⟩,_⟩:=I.loc
 rw[z,ho']at ho;cases ho;rw[hd']at hd;cases hd
theorem Inv.mf(I:Inv X pins σ H s):s.heap.FunFrames X.base X.outer:=by
 have all:∀(l:List Env),(∀b∈frs l,b∈X.fs)->X.s₀.heap.FunFrames X.base l->s.heap.FunFrames X.base l:=by
  intro l
  induction l with
  |nil=>intro _ _;trivial
  |cons env r ih=>
   intro hs hl
   obtain⟨hk,⟨L,o,hf,hn,ho,hd⟩,hr⟩:=hl
   have hL:L∈X.fs:=hs L (by unfold frs;rw[List.filterMap_cons,hf];exact qI_)
   obtain⟨sl,e⟩:=I.base.slot L o ho (I.ok.frf L hL) hL fun z=>I.ok.xP L z hL
   exact⟨hk,⟨L,_,hf,hn,e,hd⟩,ih (fun b hb=>hs b (by unfold frs;rw[List.filterMap_cons,hf];exact qR_ _ hb)) hr⟩
 exact all X.outer (fun _ hb=>hb) I.ok.mf
theorem Inv.stack(I:Inv X pins σ H s):s.heap.FunFrames X.base X.stack:=by
 rcases I.ok.stk with e |⟨e,hf⟩
 · rw[e];exact I.mf
 · rw[e]
   obtain⟨m,hn,_⟩:=I.loc
   refine .cons (by rw[I.ok.kind];decide) hf hn ?_ I.mf
   exact Heap.get?_none_of_le (Nat.le_trans I.ok.bsz I.ok.above)
def Inv.jw(I:Inv X pins σ H s):∀b∈frs X.stack,b∈X.env.locals :: X.fs:=fun b hb=>by
 rcases I.ok.stk with e |⟨e,hf⟩
 · rw[e]at hb;exact qR_ _ hb
 · rw[e]at hb
   unfold frs at hb
   rw[List.filterMap_cons,hf]at hb
   exact hb
def Inv.oz(I:Inv X pins σ H s):∀b∈frs X.stack,H b=none:=fun b hb=>by
 rcases qS_.mp (I.jw b hb)with e |hb
 · rw[e];exact I.free
 · obtain⟨_,o,ho,_⟩:=I.ok.mf.mem hb
   exact I.base.free b o ho (I.ok.frf b hb) fun z=>I.ok.xP b z hb
def Inv.step{g':Array GenState}{t':Nat}{d':Drawn}{ch:List Addr}(I:Inv X pins σ H s)
 (hch:∀b∈ch,(b∈X.ex\/X.s₀.heap.objs.size<=b)/\b≠X.env.locals/\(∀x c,X.env.cells.lookup x=some c->c≠b)/\∀p∈X.pn++pins,p.1≠b)
 (keep:∀b o,b≠X.env.locals->b∉X.fs->b∉ch->s.heap.get? b=some o->H b=none->h'.get? b=some o)
 (slot:∀b o,b≠X.env.locals->b∈X.fs->b∉ch->s.heap.get? b=some o->H b=none->∃sl,h'.get? b=some {o with slots:=sl}) (free:∀b o,b∉ch->s.heap.get? b=some o->H b=none->H' b=none)
 (there:∀b o,b∉ch->s.heap.get? b=some o->∃o',h'.get? b=some o')
 (pN:∀b xs,H b=some (.tup xs)->H' b=some (.tup xs)) (mR:∀b o u,H b=some (.frz o u)->H' b=some (.frz o u)) (pT:∀b ps,H b=some (.tbl ps)->∃more,H' b=some (.tbl (ps++more)))
 (ns:∀m,s.heap.Ns X.env.locals m->h'.Ns X.env.locals m) (hok:HOk X.prog X.w H' h') (hg:AllBare g'):
 Inv X pins σ H' {s with heap:=h',gens:=g',drawn:=d',toks:=t'}:=by
 have neL:∀b o,X.s₀.heap.get? b=some o->b≠X.env.locals:=fun b o e=>Nat.ne_of_lt (qd_ (Heap.lt_size e) I.ok.above)
 have neC:∀b o,X.s₀.heap.get? b=some o->b∉X.ex->b∉ch:=fun b o e hx hb=>by
  rcases (hch b hb).1 with z |z
  · exact hx z
  · exact absurd (qd_ (Heap.lt_size e) z) (qe_ _)
 have cellK:∀x c,X.env.cells.lookup x=some c->∀v,s.heap.IsCell c v->h'.IsCell c v:=fun x c e v ⟨o,ho,hd⟩=>by
  have nch:c∉ch:=fun z=>(hch c z).2.2.1 x c e rfl
  by_cases hc:c∈X.fs
  · obtain⟨sl,q⟩:=slot c o (I.cne x c e) hc nch ho (I.fR x c e)
    exact⟨_,q,hd⟩
  · exact⟨o,keep c o (I.cne x c e) hc nch ho (I.fR x c e),hd⟩
 refine⟨I.ok,I.os,hg,⟨fun b o e n hb hx=>?_,fun b o e n hb hx=>?_,fun b o e n hx=>?_,fun b o e hx=>?_,fun b xs e=>pN b xs (I.base.pN b xs e),fun b o xs e=>mR b o xs (I.base.mR b o xs e),fun b ps e=>?_⟩,?_,fun x c e=>?_,?_,fun x c e=>?_,fun p hp=>?_,hok,I.len⟩
 · exact keep b o (neL b o e) hb (neC b o e hx) (I.base.keep b o e n hb hx) (I.base.free b o e n hx)
 · obtain⟨sl,e1⟩:=I.base.slot b o e n hb hx
   obtain⟨sl',e2⟩:=slot b _ (neL b o e) hb (neC b o e hx) e1 (I.base.free b o e n hx)
   exact⟨sl',e2⟩
 · obtain⟨o',e1⟩:=I.base.there b o e hx
   exact free b o' (neC b o e hx) e1 (I.base.free b o e n hx)
 · obtain⟨o',e1⟩:=I.base.there b o e hx
   exact there b o' (neC b o e hx) e1
 · obtain⟨m1,e1⟩:=I.base.pT b ps e
   obtain⟨m2,e2⟩:=pT b _ e1
   exact⟨m1++m2,by rw[e2,Array.append_assoc]⟩
 · obtain⟨m,hn,hl⟩:=I.loc
   refine⟨m,ns m hn,fun i x v e1 e2 e3=>?_⟩
   obtain⟨u,r,l⟩:=hl i x v e1 e2 e3
   refine⟨u,r,?_⟩
   rcases l with l |⟨k,c,e,z⟩
   · exact .inl l
   · exact .inr ⟨k,c,e,cellK x c e _ z⟩
 · obtain⟨v,z⟩:=I.cell x c e
   exact⟨v,cellK x c e v z⟩
 · obtain⟨m,⟨o,_,_,ho,_⟩,_⟩:=I.loc
   exact free _ o (fun z=>(hch _ z).2.1 rfl) ho I.free
 · obtain⟨v,o,ho,hd⟩:=I.cell x c e
   exact free c o (fun z=>(hch c z).2.2.1 x c e rfl) ho (I.fR x c e)
 · obtain⟨e,n,ne,nf,d⟩:=I.pin p hp
   have nch:p.1∉ch:=fun z=>(hch p.1 z).2.2.2 p hp rfl
   exact⟨keep p.1 p.2 ne nf nch e n,free p.1 p.2 nch e n,ne,nf,d⟩
def Inv.un{t':Nat}(I:Inv X pins σ H s)(u:Un X.fs [] H H' s.heap h')(hok:HOk X.prog X.w H' h'):Inv X pins σ H' {s with heap:=h',toks:=t'}:=by
 obtain⟨m,⟨o,es,ep,ho,r⟩,_⟩:=id I.loc
 obtain⟨sl,hL⟩:=u.any ho I.free (by simp)
 exact I.step (g':=s.gens) (d':=s.drawn) (ch:=[]) (fun _ z=>nomatch z) (fun b o _ hb _ e n=>u.keep b o e n hb (by simp)) (fun b o _ hb _ e n=>u.slot b o e n hb (by simp)) (fun b o _ e n=>u.free b o e n (by simp)) (fun b o _ e=>u.there b o e (by simp)) u.pN u.mR u.pT (fun m' hm=>by
  obtain⟨o',es',ep',ho',r'⟩:=hm
  rw[ho]at ho';cases ho'
  exact⟨_,es',ep',hL,r'⟩) hok I.bare
def Inv.call{g':Array GenState}{t':Nat}{d':Drawn}{ch:List Addr}(I:Inv X pins σ H s)(u:Un (frs X.stack) ch H H' s.heap h')(hok:HOk X.prog X.w H' h')(hg:AllBare g')
 (hch:∀b∈ch,(b∈X.ex\/X.s₀.heap.objs.size<=b)/\b≠X.env.locals/\(∀x c,X.env.cells.lookup x=some c->c≠b)/\∀p∈X.pn++pins,p.1≠b):
 Inv X pins σ H' {s with heap:=h',gens:=g',drawn:=d',toks:=t'}:=by
 obtain⟨m,⟨o,es,ep,ho,r⟩,_⟩:=id I.loc
 obtain⟨sl,hL⟩:=u.any ho I.free fun z=>(hch _ z).2.1 rfl
 exact I.step (ch:=ch) hch (fun b o hL hb hc e n=>u.keep b o e n (fun z=>(qS_.mp (I.jw b z)).elim hL hb) hc) (fun b o _ _ hc e n=>u.any e n hc) (fun b o hc e n=>u.free b o e n hc) (fun b o hc e=>u.there b o e hc) u.pN u.mR u.pT (fun m' hm=>by
  obtain⟨o',es',ep',ho',r'⟩:=hm
  rw[ho]at ho';cases ho'
  exact⟨_,es',ep',hL,r'⟩) hok hg
def Inv.turned{t':Nat}{it:Addr}(I:Inv X pins σ H s)(k:∀b o,b≠it->s.heap.get? b=some o->h'.get? b=some o)(hn:H it=none)(hL:it≠X.env.locals)
 (h1:it∈X.ex\/X.s₀.heap.objs.size<=it) (h2:∀x c,X.env.cells.lookup x=some c->c≠it) (h3:∀p∈X.pn++pins,p.1≠it):Inv X pins σ H {s with heap:=h',toks:=t'}:=by
 have nit:∀b u,H b=some u->b≠it:=fun b u e z=>by rw[z,hn]at e;cases e
 refine I.step (g':=s.gens) (d':=s.drawn) (ch:=[it]) (fun b hb=>?_) (fun b o _ _ hc e _=>k b o (fun z=>hc (by simp [z])) e) (fun b o _ _ hc e _=>⟨o.slots,k b o (fun z=>hc (by simp [z])) e⟩) (fun _ _ _ _ n=>n)
  (fun b o hc e=>⟨o,k b o (fun z=>hc (by simp [z])) e⟩) (fun _ _ e=>e) (fun _ _ _ e=>e) (fun b ps e=>⟨#[],by rw[e];simp⟩) (fun m hm=>?_) (fun b u e=>?_) I.bare
 · have e:b=it:=by simpa using hb
   subst e
   exact⟨h1,hL,h2,h3⟩
 · obtain⟨o,es,ep,ho,r⟩:=hm
   exact⟨o,es,ep,k _ o (Ne.symm hL) ho,r⟩
 · refine(I.hok b u e).gH (fun c v hc q=>k c v ?_ q) (fun _ q=>q) fun _ _ q=>q
   rcases hc with z |z
   · rw[z];exact nit b u e
   · exact nit c _ z
def Inv.tok(I:Inv X pins σ H s)(t:Nat):Inv X pins σ H {s with toks:=t}:=I.un (h':=s.heap) (t':=t) Un.refl I.hok
theorem Inv.kept{t':Nat}(I:Inv X pins σ H s)(k:∀b u,s.heap.get? b=some u->h'.get? b=some u):Inv X pins σ H {s with heap:=h',toks:=t'}:=I.un (Un.kept k) (I.hok.kept k)
theorem Inv.laid{a:Addr}{o:HO}{t':Nat}(I:Inv X pins σ H s)(k:∀b u,s.heap.get? b=some u->h'.get? b=some u)(hp:s.heap.objs.size<=a)(new:bR X.prog X.w (upd H a o) h' a o):
 Inv X pins σ (upd H a o) {s with heap:=h',toks:=t'}:=I.un (Un.laid k hp (I.hok.fresh hp)) (I.hok.laid k hp new)
theorem Inv.write{x e:Addr}{o:HO}{t':Nat}(I:Inv X pins σ H s)(mu:Mut (H x))(he:e=x\/H e=some (.own x))(k:∀b u,b≠e->s.heap.get? b=some u->h'.get? b=some u)(heo:∃u,h'.get? e=some u)
 (new:bR X.prog X.w (upd H x o) h' x o):Inv X pins σ (upd H x o) {s with heap:=h',toks:=t'}:=I.un (Un.write mu he k heo) (I.hok.write mu he k heo new)
def Inv.ou{pins':List (Addr×Obj)}(I:Inv X pins σ H s)(h:∀p∈pins',s.heap.get? p.1=some p.2/\H p.1=none/\p.1≠X.env.locals/\p.1∉X.fs/\∀v,p.2.data≠.cell v):Inv X pins' σ H s:=
 ⟨I.ok,I.os,I.bare,I.base,I.loc,I.cell,I.free,I.fR,fun p hp=>(qG_.mp hp).elim (fun z=>I.pin p (qF_ _ z)) (h p),I.hok,I.len⟩
def uq{N:List Str}(hN:N.Nodup){i j:Nat}{x:Str}(a:N[i]? =some x)(b:N[j]? =some x):i=j:=by
 obtain⟨h1,e1⟩:=qB_.mp a
 obtain⟨h2,e2⟩:=qB_.mp b
 exact(List.getElem_inj hN).mp (e1.trans e2.symm)
def qR{M:Model}{A:Around}{E:Value->Shared->Prop}{i:Nat}{x:Str}{v:V}{u:Value}{Q:Unit->Shared->Prop}(I:Inv X pins σ H s)(hN:X.N.Nodup)(hi:X.N[i]? =some x)(hx:Loc X.env.scope x)(r:RelV v u)
 (h:∀s',Inv X pins (σ.set i (some v)) H s'->(∃a,Heap.SameBut a s.heap s'.heap/\(a=X.env.locals\/X.env.cells.lookup x=some a))->Q () s') (hf:X.fn x=true\/X.env.scope.names.lookup x=some .local:=by first |exact .inl rfl |exact .inr rfl |assumption):wpAny M A (storeName X.env x u) Q E s:=by
 obtain⟨m,hn,hl⟩:=id I.loc
 have hcls:(X.env.scope.kind== .class||(X.env.scope.kind== .module&&X.env.locals !=X.env.globals))=false:=by rw[I.ok.kind];rfl
 have hiσ:i < σ.length:=by rw[I.len];exact(qB_.mp hi).1
 have cne:=I.cne
 have tracked:∀{a:Addr} {h':Heap},(∃o,s.heap.get? a=some o/\H a=none)->Heap.SameBut a s.heap h'->HOk X.prog X.w H h':=fun {a h'} ha hs b ob e=>by
  obtain⟨_,_,hfree⟩:=ha
  refine(I.hok b ob e).gH (fun c w' hc q=>(hs.2 c ?_).trans q) (fun _ q=>q) fun _ _ q=>q
  rintro rfl
  rcases hc with rfl |hc
  · rw[hfree]at e;cases e
  · rw[hfree]at hc;cases hc
 rcases hx with hk |hk
 · refine wpAny_storeName_local hk hn (fun h' hn' hs=>?_) hcls
   obtain⟨oL,_,_,hoL,_⟩:=id hn
   refine h _ ⟨I.ok,I.os,I.bare,⟨fun b o e n hb hx=>?_,fun b o e n hb hx=>?_,I.base.free,fun b o e hx=>?_,I.base.pN,I.base.mR,I.base.pT⟩,⟨_,hn',fun j y v' e1 e2 e3=>?_⟩,fun y c e=>?_,I.free,I.fR,fun p hp=>?_,tracked ⟨oL,hoL,I.free⟩ hs,by simpa using I.len⟩ ⟨_,hs,.inl rfl⟩
   · exact(hs.2 b (Nat.ne_of_lt (qd_ (Heap.lt_size e) I.ok.above))).trans (I.base.keep b o e n hb hx)
   · obtain⟨sl,e1⟩:=I.base.slot b o e n hb hx
     exact⟨sl,(hs.2 b (Nat.ne_of_lt (qd_ (Heap.lt_size e) I.ok.above))).trans e1⟩
   · obtain⟨o',e1⟩:=I.base.there b o e hx
     exact⟨o',(hs.2 b (Nat.ne_of_lt (qd_ (Heap.lt_size e) I.ok.above))).trans e1⟩
   · by_cases hj:j=i
     · subst hj
       rw[hi]at e1;cases e1
       rw[qU_ hiσ]at e2
       cases e2
       exact⟨u,r,.inl ⟨hk,by simp⟩⟩
     · rw[qV_ (Ne.symm hj)]at e2
       obtain⟨u',r',q⟩:=hl j y v' e1 e2 e3
       refine⟨u',r',?_⟩
       rcases q with ⟨k,e⟩ |⟨k,c,e,z⟩
       · refine .inl ⟨k,?_⟩
         have:y≠x:=fun e=>hj (uq hN e1 (e ▸ hi))
         simp [this,e]
       · exact .inr ⟨k,c,e,z.sameBut hs (cne y c e)⟩
   · obtain⟨w',z⟩:=I.cell y c e
     exact⟨w',z.sameBut hs (cne y c e)⟩
   · obtain⟨e,n,ne,nf,d⟩:=I.pin p hp
     exact⟨(hs.2 p.1 ne).trans e,n,ne,nf,d⟩
 · have hfn:X.fn x=true:=by
    rcases hf with z |z
    · exact z
    · rw[z]at hk;cases hk
   obtain⟨c,hc⟩:=I.ok.has x (.inl hk)
   obtain⟨w',z⟩:=I.cell x c hc
   refine wpAny_storeName_cell I.ok.kind hk hc z (fun h' hc' hs=>?_)
   obtain⟨oc,hoc,hocd⟩:=id z
   refine h {s with heap:=h'} ⟨I.ok,I.os,I.bare,⟨fun b o e n hb hx=>?_,fun b o e n hb hx=>?_,I.base.free,fun b o e hx=>?_,I.base.pN,I.base.mR,I.base.pT⟩,⟨m,hn.sameBut hs (Ne.symm (cne x c hc)),fun j y v' e1 e2 e3=>?_⟩,fun y c' e=>?_,I.free,I.fR,fun p hp=>?_,tracked ⟨oc,hoc,I.fR x c hc⟩ hs,by simpa using I.len⟩ ⟨c,hs,.inr hc⟩
   · exact(hs.2 b (Nat.ne_of_lt (qd_ (Heap.lt_size e) (I.ok.cab x c hfn hc)))).trans (I.base.keep b o e n hb hx)
   · obtain⟨sl,e1⟩:=I.base.slot b o e n hb hx
     exact⟨sl,(hs.2 b (Nat.ne_of_lt (qd_ (Heap.lt_size e) (I.ok.cab x c hfn hc)))).trans e1⟩
   · obtain⟨o',e1⟩:=I.base.there b o e hx
     exact⟨o',(hs.2 b (Nat.ne_of_lt (qd_ (Heap.lt_size e) (I.ok.cab x c hfn hc)))).trans e1⟩
   · by_cases hj:j=i
     · subst hj
       rw[hi]at e1;cases e1
       rw[qU_ hiσ]at e2
       cases e2
       exact⟨u,r,.inr ⟨.inl hk,c,hc,hc'⟩⟩
     · rw[qV_ (Ne.symm hj)]at e2
       obtain⟨u',r',q⟩:=hl j y v' e1 e2 e3
       refine⟨u',r',?_⟩
       rcases q with q |⟨k,c',e,z'⟩
       · exact .inl q
       · refine .inr ⟨k,c',e,z'.sameBut hs ?_⟩
         rintro rfl
         exact hj (uq hN e1 (I.ok.inj _ _ _ e hc ▸ hi))
   · by_cases hcc:c'=c
     · subst hcc;exact⟨_,hc'⟩
     · obtain⟨w2,z2⟩:=I.cell y c' e
       exact⟨w2,z2.sameBut hs hcc⟩
   · obtain⟨e,n,ne,nf,d⟩:=I.pin p hp
     refine⟨(hs.2 p.1 ?_).trans e,n,ne,nf,d⟩
     intro q
     rw[q,hoc]at e
     have q':oc=p.2:=Option.some.inj e
     exact d w' (by rw[<-q'];exact hocd)
def tq{M:Model}{A:Around}{E:Value->Shared->Prop}{i:Nat}{x:Str}{v:V}{u:Value}{Q:Unit->Shared->Prop}(I:Inv X pins σ H s)(hN:X.N.Nodup)(hi:X.N[i]? =some x)(hx:Loc X.env.scope x)(r:RelV v u)
 (h:∀s',Inv X pins (σ.set i (some v)) H s'->Q () s') (hf:X.fn x=true\/X.env.scope.names.lookup x=some .local:=by first |exact .inl rfl |exact .inr rfl |assumption):wpAny M A (storeName X.env x u) Q E s:=
 qR I hN hi hx r (fun s' I' _=>h s' I') hf
def Inv.zy{s':Shared}{ch:List Addr}(I:Inv X pins σ H s)(ho:s'.os=s.os)(u:Un (frs X.stack) ch H H' s.heap s'.heap)(hok:HOk X.prog X.w H' s'.heap)(hg:AllBare s'.gens)
 (hch:∀b∈ch,(b∈X.ex\/X.s₀.heap.objs.size<=b)/\b≠X.env.locals/\(∀x c,X.env.cells.lookup x=some c->c≠b)/\∀p∈X.pn++pins,p.1≠b):Inv X pins σ H' s':=by
 obtain⟨h',g',d',t',o'⟩:=s'
 have e:o'=s.os:=ho
 subst e
 exact I.call (g':=g') (t':=t') (d':=d') u hok hg hch
end
abbrev XK:=Value->Option Addr->Hp->Prop
abbrev St:=List (Option V)
abbrev VK:=V->Hp->Prop
abbrev TE:=St->Hp->VK->Prop
abbrev TT:=St->Hp->(Bool->Hp->Prop)->Prop
abbrev TA:=St->Hp->(List V->Hp->Prop)->Prop
structure Ends where
 nx:St->Hp->Prop
 rt:VK
 bk:St->Hp->Prop:=fun _ _=>False
 ct:St->Hp->Prop:=fun _ _=>False
abbrev TS:=Ends->St->Hp->Prop
def EP(X:Cx)(pins:List (Addr×Obj))(σ:St)(Q:VK)(u:Value)(s':Shared):Prop:=∃v H',Inv X pins σ H' s'/\RelV v u/\Q v H'
def TP(X:Cx)(pins:List (Addr×Obj))(σ:St)(Q:Bool->Hp->Prop)(b:Bool)(s':Shared):Prop:=∃H',Inv X pins σ H' s'/\Q b H'
def AP(X:Cx)(pins:List (Addr×Obj))(σ:St)(Q:List V->Hp->Prop)(us:List Value)(s':Shared):Prop:=∃vs H',Inv X pins σ H' s'/\Vals vs us/\Q vs H'
def SP(X:Cx)(pins:List (Addr×Obj))(D:Ends)(f:Flow)(s':Shared):Prop:=
 match f with
 | .next=>∃σ' H',Inv X pins σ' H' s'/\D.nx σ' H'
 | .brk=>∃σ' H',Inv X pins σ' H' s'/\D.bk σ' H'
 | .cont=>∃σ' H',Inv X pins σ' H' s'/\D.ct σ' H'
 | .ret u=>∃v σ' H',Inv X pins σ' H' s'/\RelV v u/\D.rt v H'
def PE(X:Cx)(e:Expr)(t:TE):Prop:=
 ∀(pins:List (Addr×Obj)) (s:Shared) (σ:St) (H:Hp) (Q:VK),Inv X pins σ H s->t σ H Q->wpAny (model X.prog X.w) X.A (eval e X.env) (EP X pins σ Q) X.xe s
def PT(X:Cx)(e:Expr)(t:TT):Prop:=
 ∀(pins:List (Addr×Obj)) (s:Shared) (σ:St) (H:Hp) (Q:Bool->Hp->Prop),Inv X pins σ H s->t σ H Q->wpAny (model X.prog X.w) X.A (isTrue e X.env (eval e X.env)) (TP X pins σ Q) X.xe s
def PW(X:Cx)(e:Expr)(t:TT):Prop:=
 ∀(whole:Sem Value) (pins:List (Addr×Obj)) (s:Shared) (σ:St) (H:Hp) (Q:Bool->Hp->Prop),Inv X pins σ H s->t σ H Q->wpAny (model X.prog X.w) X.A (isTrue e X.env whole) (TP X pins σ Q) X.xe s
def PW.pt{X:Cx}{e:Expr}{t:TT}(h:PW X e t):PT X e t:=h _
def PA(X:Cx)(es:List Expr)(t:TA):Prop:=
 ∀(pos:Pos) (pins:List (Addr×Obj)) (s:Shared) (σ:St) (H:Hp) (Q:List V->Hp->Prop),Inv X pins σ H s->t σ H Q->wpAny (model X.prog X.w) X.A (spliced (backTo pos (starEach es X.env))) (AP X pins σ Q) X.xe s
def PS(X:Cx)(st:Stmt)(t:TS):Prop:=
 ∀(pins:List (Addr×Obj)) (s:Shared) (σ:St) (H:Hp) (D:Ends),Inv X pins σ H s->t D σ H->wpAny (model X.prog X.w) X.A (exec st X.env) (SP X pins D) X.xe s
def PSs(X:Cx)(st:List Stmt)(t:TS):Prop:=
 ∀(pins:List (Addr×Obj)) (s:Shared) (σ:St) (H:Hp) (D:Ends),Inv X pins σ H s->t D σ H->wpAny (model X.prog X.w) X.A (execs st X.env) (SP X pins D) X.xe s
def thn{α:Type}{t:Sem α}{Q Q':α->Shared->Prop}{M:Model}{A:Around}{E:Value->Shared->Prop}{s:Shared}(h:wpAny M A t Q E s)(hQ:∀a s,Q a s->Q' a s):wpAny M A t Q' E s:=wpAny_mono h hQ fun _ _ x=>x
section
variable{X:Cx}
def Iz(i:Nat):TE:=fun σ H Q=>∃v,σ[i]? =some (some v)/\Q v H
def tC(v:V):TE:=fun _ H Q=>Q v H
def Fp{i:Nat}{x:Str}{pos:Pos}(hN:X.N[i]? =some x)(hv:Vis X.env.scope x)(hd:(x==("__debug__":Str))=false:=by decide)(hcd:(x==("__classdict__":Str))=false:=by decide):PE X (.Name x pos) (Iz i):=by
 intro pins s σ H Q I h
 obtain⟨v,e,h⟩:=h
 obtain⟨m,hn,hl⟩:=I.loc
 obtain⟨u,r,l⟩:=hl i x v hN e hv
 have fin:EP X pins σ Q u s:=⟨v,H,I,r,h⟩
 rcases l with ⟨hk,hm⟩ |⟨hk,c,hc,hcell⟩
 · exact wpAny_Name (wpAny_loadName_local I.ok.kind hk hn hm fin) hd
 · rcases hk with hk |hk
   · exact wpAny_Name (wpAny_loadName_cell I.ok.kind hk hc hcell fin) hd
   · exact wpAny_Name (wpAny_loadName_free I.ok.kind hk hc hcell fin hcd) hd
def DT{i j pos}:PE X (.Constant (.int i) j pos) (tC (.int i)):=fun _ _ _ H _ I h=>wpAny_Constant_int ⟨.int i,H,I.tok _,⟨_,rfl⟩,h⟩
def GB{b j pos}:PE X (.Constant (.bool b) j pos) (tC (.bl b)):=fun _ _ _ H _ I h=>Constant_bool ⟨.bl b,H,I,rfl,h⟩
def F3{j pos}:PE X (.Constant .none j pos) (tC .non):=fun _ _ _ H _ I h=>Constant_none ⟨.non,H,I,rfl,h⟩
def EN{x j pos}:PE X (.Constant (.str x) j pos) (tC (.str x)):=fun _ _ _ H _ I h=>Calls.Constant_str ⟨.str x,H,I.tok _,⟨_,rfl⟩,h⟩
def Gl(X:Cx)(x:Str):Prop:=X.env.kindOf x=some .globalImplicit
def ku{E:Value->Shared->Prop}{pins:List (Addr×Obj)}{s:Shared}{σ:St}{H:Hp}{x:Str}{u:Value}{pos:Pos}{Q:Value->Shared->Prop}(I:Inv X pins σ H s)(hg:Gl X x)(hm:X.mg x=some u)(h:Q u s)
 (hd:(x==("__debug__":Str))=false:=by decide):wpAny (model X.prog X.w) X.A (eval (.Name x pos) X.env) Q E s:=
 Calls.Name_function_global I.ok.kind hg (Calls.loadGlobal_global (by rw[I.ok.glob];exact I.mod.glob.keeps I.bk) hm h) hd
def nu{E:Value->Shared->Prop}{pins:List (Addr×Obj)}{s:Shared}{σ:St}{H:Hp}{x:Str}{u:Value}{pos:Pos}{Q:Value->Shared->Prop}(I:Inv X pins σ H s)(hg:Gl X x)(hm:X.mg x=none)(hv:bootBuiltins x=some u)(h:Q u s)
 (hn:x≠"__name__":=by decide) (hd:(x==("__debug__":Str))=false:=by decide):wpAny (model X.prog X.w) X.A (eval (.Name x pos) X.env) Q E s:=by
 obtain⟨mb,h1,h2⟩:=I.mod.blt
 exact Calls.Name_function_global I.ok.kind hg (Calls.loadGlobal_builtin (by rw[I.ok.glob];exact I.mod.glob.keeps I.bk) hm (by rw[I.ok.blt];exact h1.keeps I.bk) ((h2 x hn).trans hv) h) hd
def Cy{x:Str}{v:V}{u:Value}{pos:Pos}(hg:Gl X x)(hm:X.mg x=some u)(r:RelV v u)(hd:(x==("__debug__":Str))=false:=by decide):PE X (.Name x pos) (tC v):=
 fun _ _ _ H _ I h=>ku I hg hm ⟨v,H,I,r,h⟩ hd
def Cu{x:Str}{v:V}{u:Value}{pos:Pos}(hg:Gl X x)(hm:X.mg x=none)(hv:bootBuiltins x=some u)(r:RelV v u)(hn:x≠"__name__":=by decide)(hd:(x==("__debug__":Str))=false:=by decide):PE X (.Name x pos) (tC v):=
 fun _ _ _ H _ I h=>nu I hg hm hv ⟨v,H,I,r,h⟩ hn hd
variable{a b:Expr}{ta tb:TE}{pos:Pos}
def PC(X:Cx)(op:CmpOp)(a b:Expr)(t:TE):Prop:=
 ∀(pins:List (Addr×Obj)) (s:Shared) (σ:St) (H:Hp) (Q:VK),Inv X pins σ H s->t σ H Q->
  wpAny (model X.prog X.w) X.A (eval a X.env) (fun v s₁=>wpAny (model X.prog X.w) X.A (eval b X.env) (fun u s₂=>wpAny (model X.prog X.w) X.A (compareOp op v u) (EP X pins σ Q) X.xe s₂) X.xe s₁) X.xe s
def uy(b:Expr){op:CmpOp}(h:op≠.In)(h2:op≠.NotIn):behindInMarks op b=false:=by
 have e1:(op==CmpOp.In)=false:=by cases op <;> first |rfl |exact absurd rfl h
 have e2:(op==CmpOp.NotIn)=false:=by cases op <;> first |rfl |exact absurd rfl h2
 cases b <;> simp [behindInMarks,e1,e2]
def IT(ta:TE):TE:=fun σ H Q=>ta σ H fun x H1=>Q (.bl (decide (x= .non))) H1
def Gs(ta:TE):TE:=fun σ H Q=>ta σ H fun x H1=>Q (.bl (!decide (x= .non))) H1
def RelV.t7{x:V}{v:Value}(r:RelV x v):(v==Value.none)=decide (x= .non):=by
 cases x with
 |non=>cases r;rfl
 |bl _=>cases r;rfl
 |int _=>obtain⟨t,rfl⟩:=r;rfl
 |str _=>obtain⟨t,rfl⟩:=r;rfl
 |byt _=>obtain⟨t,rfl⟩:=r;rfl
 |flt _=>obtain⟨t,rfl⟩:=r;rfl
 |ref _=>cases r;rfl
 |ty _=>cases r;rfl
def A5{j pos'}(ha:PE X a ta):PC X .Is a (.Constant .none j pos') (IT ta):=by
 intro pins s σ H Q I h
 refine thn (ha pins s σ H _ I h) fun v s1 ⟨x,H1,I1,r1,q1⟩=>?_
 exact Constant_none (is_none_gen ⟨.bl _,H1,I1,by rw[r1.t7];rfl,q1⟩)
def wz{j pos'}(ha:PE X a ta):PC X .IsNot a (.Constant .none j pos') (Gs ta):=by
 intro pins s σ H Q I h
 refine thn (ha pins s σ H _ I h) fun v s1 ⟨x,H1,I1,r1,q1⟩=>?_
 exact Constant_none (isnot_none_gen ⟨.bl _,H1,I1,by rw[r1.t7];rfl,q1⟩)
def tB(t:TE):TT:=fun σ H Q=>t σ H fun x H1=>∃c,x= .bl c/\Q c H1
def zx{op:CmpOp}{t:TE}(h:PC X op a b t)(h1:behindInMarks op b=false:=by first |exact uy _ (by decide) (by decide) |rfl):PE X (.Compare a [op] [b] pos) t:=fun pins s σ H Q I hw=>wpAny_Compare1 (h pins s σ H Q I hw) h1
def zZ{op:CmpOp}{t:TE}(h:PC X op a b t)(h1:behindInMarks op b=false:=by first |exact uy _ (by decide) (by decide) |rfl):PT X (.Compare a [op] [b] pos) (tB t):=by
 intro pins s σ H Q I hw
 refine wpAny_isTrue_Compare1 (thn (h pins s σ H _ I hw) fun v s1 h1=>thn h1 fun u s2 h2=>thn h2 fun c s3 ⟨x,H1,I1,r1,q1⟩=>?_) h1
 obtain⟨d,rfl,q⟩:=q1
 cases r1
 exact wpAny_truthy_bool ⟨H1,I1,q⟩
variable{tA tB':TT}{rest:List Expr}
def lF(t u:TT):TT:=fun σ H Q=>t σ H fun c H1=>if c=true then u σ H1 Q else Q false H1
def tOr(t u:TT):TT:=fun σ H Q=>t σ H fun c H1=>if c=true then Q true H1 else u σ H1 Q
def fO(t:TT):TT:=fun σ H Q=>t σ H fun c H1=>Q (!c) H1
def B2(ha:PT X a tA):PW X (.BoolOp .And [a] pos) tA:=by
 intro wh pins s σ H Q I h
 refine isTrue_and (thn (ha pins s σ H Q I h) fun c s1 e=>?_)
 cases c with
 |true=>exact isTrue_and_nil e
 |false=>exact e
def En(ha:PT X a tA):PW X (.BoolOp .Or [a] pos) tA:=by
 intro wh pins s σ H Q I h
 refine isTrue_or (thn (ha pins s σ H Q I h) fun c s1 e=>?_)
 cases c with
 |false=>exact isTrue_or_nil e
 |true=>exact e
def D1(ha:PT X a tA)(hb:PW X (.BoolOp .And (b :: rest) pos) tB'):PW X (.BoolOp .And (a :: b :: rest) pos) (lF tA tB'):=by
 intro wh pins s σ H Q I h
 refine isTrue_and (thn (ha pins s σ H _ I h) fun c s1 ⟨H1,I1,q1⟩=>?_)
 cases c with
 |true=>exact hb wh pins s1 σ H1 Q I1 q1
 |false=>exact⟨H1,I1,q1⟩
def GN(ha:PT X a tA)(hb:PW X (.BoolOp .Or (b :: rest) pos) tB'):PW X (.BoolOp .Or (a :: b :: rest) pos) (tOr tA tB'):=by
 intro wh pins s σ H Q I h
 refine isTrue_or (thn (ha pins s σ H _ I h) fun c s1 ⟨H1,I1,q1⟩=>?_)
 cases c with
 |true=>exact⟨H1,I1,q1⟩
 |false=>exact hb wh pins s1 σ H1 Q I1 q1
def EV(ha:PT X a tA):PT X (.UnaryOp .Not a pos) (fO tA):=by
 intro pins s σ H Q I h
 exact isTrue_not (ha pins s σ H (fun c H1=>Q (!c) H1) I h)
def GQ(ta tb:TE):TE:=fun σ H Q=>ta σ H fun x H1=>∃c,x= .bl c/\if c=true then tb σ H1 Q else Q (.bl false) H1
def Jd(ta tb:TE):TE:=fun σ H Q=>ta σ H fun x H1=>∃c,x= .bl c/\if c=true then Q (.bl true) H1 else tb σ H1 Q
def Ig(ta:TE):TE:=fun σ H Q=>ta σ H fun x H1=>∃c,x= .bl c/\Q (.bl (!c)) H1
def EY{op}{t:TE}(h:PE X a t):PE X (.BoolOp op [a] pos) t:=fun pins s σ H Q I hw=>BoolOp_one (h pins s σ H Q I hw)
def DR(ha:PE X a ta)(hb:PE X (.BoolOp .And (b :: rest) pos) tb):PE X (.BoolOp .And (a :: b :: rest) pos) (GQ ta tb):=by
 intro pins s σ H Q I h
 refine BoolOp_and (thn (ha pins s σ H _ I h) fun v s1 ⟨x,H1,I1,r1,q1⟩=>?_)
 obtain⟨c,rfl,q1⟩:=q1
 cases r1
 refine wpAny_truthy_bool ?_
 cases c with
 |true=>exact hb pins s1 σ H1 Q I1 q1
 |false=>exact⟨.bl false,H1,I1,rfl,q1⟩
def HR(ha:PE X a ta)(hb:PE X (.BoolOp .Or (b :: rest) pos) tb):PE X (.BoolOp .Or (a :: b :: rest) pos) (Jd ta tb):=by
 intro pins s σ H Q I h
 refine BoolOp_or (thn (ha pins s σ H _ I h) fun v s1 ⟨x,H1,I1,r1,q1⟩=>?_)
 obtain⟨c,rfl,q1⟩:=q1
 cases r1
 refine wpAny_truthy_bool ?_
 cases c with
 |false=>exact hb pins s1 σ H1 Q I1 q1
 |true=>exact⟨.bl true,H1,I1,rfl,q1⟩
def Et(ha:PE X a ta):PE X (.UnaryOp .Not a pos) (Ig ta):=by
 intro pins s σ H Q I h
 refine UnaryOp_ (thn (ha pins s σ H _ I h) fun v s1 ⟨x,H1,I1,r1,q1⟩=>?_)
 obtain⟨c,rfl,q1⟩:=q1
 cases r1
 exact not_of (wpAny_truthy_bool ⟨.bl (!c),H1,I1,rfl,q1⟩)
def tIf(t:TT)(ta tb:TE):TE:=fun σ H Q=>t σ H fun c H1=>if c=true then ta σ H1 Q else tb σ H1 Q
def yS{c:Expr}(hc:PT X c tA)(ha:PE X a ta)(hb:PE X b tb):PE X (.IfExp c a b pos) (tIf tA ta tb):=by
 intro pins s σ H Q I h
 refine wpAny_IfExp (thn (hc pins s σ H _ I h) fun d s1 ⟨H1,I1,q1⟩=>?_)
 cases d with
 |true=>exact ha pins s1 σ H1 Q I1 q1
 |false=>exact hb pins s1 σ H1 Q I1 q1
end
def SqL(K:PySem.W.Frag)(H:Hp)(a:Addr)(xs:List V):Prop:=
 Rd H a (.lst xs)\/
  ∃(o:Obj) (its:Array Value) (n:Nat),K.lookup a=some o/\o.cls= .type "list"/\o.dict=none/\o.data= .seq its n/\its.size<=sizeLine/\Vals xs its.toList
def SqT(K:PySem.W.Frag)(H:Hp)(a:Addr)(xs:List V):Prop:=
 Rd H a (.tup xs)\/
  ∃(o:Obj) (its:Array Value) (n:Nat),K.lookup a=some o/\o.cls= .type "tuple"/\o.data= .seq its n/\its.size<=sizeLine/\Vals xs its.toList
def Ij:Value->Option V
 | .none=>some .non
 | .bool b=>some (.bl b)
 | .int i _=>some (.int i)
 | .str x _=>some (.str x)
 | .bytes b _=>some (.byt b)
 | .float b _=>some (.flt b)
 | .ref a=>some (.ref a)
 | .type n=>some (.ty n)
 |_=>none
def RelV.abs{x:V}{u:Value}(r:RelV x u):Ij u=some x:=by
 cases x with
 |non=>cases r;rfl
 |bl _=>cases r;rfl
 |int _=>obtain⟨t,rfl⟩:=r;rfl
 |str _=>obtain⟨t,rfl⟩:=r;rfl
 |byt _=>obtain⟨t,rfl⟩:=r;rfl
 |flt _=>obtain⟨t,rfl⟩:=r;rfl
 |ref _=>cases r;rfl
 |ty _=>cases r;rfl
theorem RelV.inj{x y:V}{u:Value}(r:RelV x u)(q:RelV y u):x=y:=Option.some.inj (r.abs.symm.trans q.abs)
theorem Vals.inj:∀{xs ys:List V} {us:List Value},Vals xs us->Vals ys us->xs=ys
 |_,_,_,.nil,.nil=>rfl
 |_,_,_,.cons r t,.cons r' t'=>by rw[r.inj r',Vals.inj t t']
section
variable{X:Cx}{pins:List (Addr×Obj)}{σ:St}{H:Hp}{s:Shared}{a:Addr}{xs ys:List V}
def SqL.of{K:PySem.W.Frag}(h:H a=some (.lst xs)):SqL K H a xs:= .inl (.inl h)
def SqT.of{K:PySem.W.Frag}(h:H a=some (.tup xs)):SqT K H a xs:= .inl (.inl h)
def Inv.list(I:Inv X pins σ H s)(h:SqL X.K H a xs):∃its:List Value,Vals xs its/\PlainL s.heap a its.toArray/\xs.length<=sizeLine:=by
 rcases h with h |⟨o,its,n,hk,hc,hd,hs,hz,r⟩
 · obtain⟨z,its,n,r,e⟩:=h.ok I.hok
   exact⟨its,r,⟨_,n,e,rfl,rfl,rfl⟩,z⟩
 · refine⟨its.toList,r,⟨o,n,I.kIn a o hk,hc,hd,by simpa using hs⟩,?_⟩
   have e:=r.length
   simp only[Array.length_toList]at e
   omega
def Inv.tuple(I:Inv X pins σ H s)(h:SqT X.K H a xs):∃its:List Value,Vals xs its/\IsTup s.heap a its.toArray/\xs.length<=sizeLine:=by
 rcases h with h |⟨o,its,n,hk,hc,hs,hz,r⟩
 · obtain⟨z,its,r,p⟩:=h.ok I.hok
   exact⟨its,r,p,z⟩
 · refine⟨its.toList,r,⟨o,I.kIn a o hk,hc,n,by simpa using hs⟩,?_⟩
   have e:=r.length
   simp only[Array.length_toList]at e
   omega
def Inv.jL(I:Inv X pins σ H s)(h:SqL X.K H a xs)(h':SqL X.K H a ys):xs=ys:=by
 obtain⟨its,r,⟨o,n,e,_,_,d⟩,_⟩:=I.list h
 obtain⟨its',r',⟨o',n',e',_,_,d'⟩,_⟩:=I.list h'
 rw[e]at e';cases e'
 rw[d]at d'
 injection d' with d1 _
 have:its=its':=by simpa using congrArg Array.toList d1
 subst this
 exact r.inj r'
def Inv.kC(I:Inv X pins σ H s)(h:SqT X.K H a xs)(h':SqT X.K H a ys):xs=ys:=by
 obtain⟨its,r,⟨o,e,_,n,d⟩,_⟩:=I.tuple h
 obtain⟨its',r',⟨o',e',_,n',d'⟩,_⟩:=I.tuple h'
 rw[e]at e';cases e'
 rw[d]at d'
 injection d' with d1 _
 have:its=its':=by simpa using congrArg Array.toList d1
 subst this
 exact r.inj r'
end
abbrev Cx.pe(X:Cx)(E:Value->Shared->Prop):Cx:={X with xe:=E}
abbrev Cx.nox(X:Cx):Cx:=X.pe fun _ _=>False
theorem Cx.Ok.pe{X:Cx}(ok:X.Ok)(E:Value->Shared->Prop):(X.pe E).Ok:=
 ⟨ok.mod,ok.kind,ok.glob,ok.blt,ok.above,ok.inj,ok.has,ok.cab,ok.hd,ok.frames,ok.stk,ok.exf,ok.bs,ok.bsz,ok.vA,ok.xP,ok.mf,ok.frf⟩
def Cx.Ok.gE{X:Cx}{E:Value->Shared->Prop}(ok:(X.pe E).Ok):X.Ok:=
 ⟨ok.mod,ok.kind,ok.glob,ok.blt,ok.above,ok.inj,ok.has,ok.cab,ok.hd,ok.frames,ok.stk,ok.exf,ok.bs,ok.bsz,ok.vA,ok.xP,ok.mf,ok.frf⟩
section
variable{X:Cx}{pins:List (Addr×Obj)}{σ:St}{H:Hp}{s:Shared}{E:Value->Shared->Prop}
theorem Inv.pe(I:Inv X pins σ H s)(E:Value->Shared->Prop):Inv (X.pe E) pins σ H s:=⟨I.ok.pe E,I.os,I.bare,I.base,I.loc,I.cell,I.free,I.fR,I.pin,I.hok,I.len⟩
theorem Inv.gE(I:Inv (X.pe E) pins σ H s):Inv X pins σ H s:=⟨I.ok.gE,I.os,I.bare,I.base,I.loc,I.cell,I.free,I.fR,I.pin,I.hok,I.len⟩
theorem SP.gE{D:Ends}{f:Flow}{s':Shared}(h:SP (X.pe E) pins D f s'):SP X pins D f s':=by
 cases f with
 |next=>obtain⟨σ',H',I,q⟩:=h;exact⟨σ',H',I.gE,q⟩
 |brk=>obtain⟨σ',H',I,q⟩:=h;exact⟨σ',H',I.gE,q⟩
 |cont=>obtain⟨σ',H',I,q⟩:=h;exact⟨σ',H',I.gE,q⟩
 |ret u=>obtain⟨v,σ',H',I,r,q⟩:=h;exact⟨v,σ',H',I.gE,r,q⟩
theorem PSs.nox{st:List Stmt}{t:TS}(h:PSs X.nox st t):PSs X st t:=fun pins s σ H D I hw=>
 wpAny_mono (h pins s σ H D (I.pe _) hw) (fun _ _ q=>q.gE) fun _ _ z=>False.elim z
end
section
variable{X:Cx}{st:Stmt}{rest:List Stmt}{t u:TS}{e:Expr}{te:TE}{pos:Pos}
def Gn:TS:=fun D σ H=>D.nx σ H
def IS(t u:TS):TS:=fun D σ H=>t {D with nx:=u D} σ H
def BB:PSs X [] Gn:=fun _ _ σ H _ I h=>wpAny_execs_nil ⟨σ,H,I,h⟩
def zD(h1:PS X st t)(h2:PSs X rest u):PSs X (st :: rest) (IS t u):=by
 intro pins s σ H D I h
 refine wpAny_execs_cons (thn (h1 pins s σ H {D with nx:=u D} I h) fun f s1 q=>?_)
 cases f with
 |next=>
  obtain⟨σ',H',I',q⟩:=q
  exact h2 pins s1 σ' H' D I' q
 |ret v=>exact q
 |brk=>exact q
 |cont=>exact q
def BA(h1:PS X st t):PSs X [st] t:=by
 intro pins s σ H D I h
 refine wpAny_execs_cons (thn (h1 pins s σ H D I h) fun f s1 q=>?_)
 cases f with
 |next=>exact wpAny_execs_nil q
 |ret v=>exact q
 |brk=>exact q
 |cont=>exact q
def Inv.quiet{pins:List (Addr×Obj)}{σ:St}{H:Hp}{s:Shared}(I:Inv X pins σ H s):interactive X.env=false:=by simp [interactive,I.ok.kind]
def HF(te:TE):TS:=fun D σ H=>te σ H fun _ H1=>D.nx σ H1
def CF(he:PE X e te)(hs:swapsWith e none pos.line X.env=pure false:=by rfl):PS X (.Expr e pos) (HF te):=by
 intro pins s σ H D I h
 exact wpAny_Expr_any (thn (he pins s σ H _ I h) fun v s1 ⟨x,H1,I1,r1,q1⟩=>⟨σ,H1,I1,q1⟩) I.quiet hs
def Ip(te:TE):TS:=fun D σ H=>te σ H D.rt
def DJ(he:PE X e te):PS X (.Return (some e) pos) (Ip te):=by
 intro pins s σ H D I h
 exact wpAny_Return_some (thn (he pins s σ H _ I h) fun v s1 ⟨x,H1,I1,r1,q1⟩=>⟨x,σ,H1,I1,r1,q1⟩)
def IP(c:TT)(t u:TS):TS:=fun D σ H=>c σ H fun b H1=>if b=true then t D σ H1 else u D σ H1
def Hg{c:Expr}{a b:List Stmt}{tc:TT}(hc:PT X c tc)(ha:PSs X a t)(hb:PSs X b u):PS X (.If c a b pos) (IP tc t u):=by
 intro pins s σ H D I h
 refine wpAny_If (thn (hc pins s σ H _ I h) fun d s1 ⟨H1,I1,q1⟩=>?_)
 cases d with
 |true=>exact ha pins s1 σ H1 D I1 q1
 |false=>exact hb pins s1 σ H1 D I1 q1
end
abbrev TG:=V->St->Hp->(St->Hp->Prop)->Prop
abbrev TGs:=List V->St->Hp->(St->Hp->Prop)->Prop
def PG(X:Cx)(target:Expr)(t:TG):Prop:=
 ∀(pins:List (Addr×Obj)) (s:Shared) (σ:St) (H:Hp) (v:V) (u:Value) (Q:St->Hp->Prop),Inv X pins σ H s->RelV v u->t v σ H Q->
  wpAny (model X.prog X.w) X.A (assign target X.env u) (fun _ s'=>∃σ' H',Inv X pins σ' H' s'/\Q σ' H') X.xe s
def PGs(X:Cx)(ts:List Expr)(t:TGs):Prop:=
 ∀(pins:List (Addr×Obj)) (s:Shared) (σ:St) (H:Hp) (vs:List V) (us:List Value) (Q:St->Hp->Prop),Inv X pins σ H s->Vals vs us->t vs σ H Q->
  wpAny (model X.prog X.w) X.A (assignInOrder ((assignEach ts X.env).map (·.2)) us) (fun _ s'=>∃σ' H',Inv X pins σ' H' s'/\Q σ' H') X.xe s
abbrev AN:=V->V->V->Hp->(Hp->Prop)->Prop
def sV(X:Cx)(t:AN):Prop:=
 ∀(pins:List (Addr×Obj)) (s:Shared) (σ:St) (H:Hp) (o i v:V) (ov iv u:Value) (Q:Hp->Prop),Inv X pins σ H s->RelV o ov->RelV i iv->RelV v u->t o i v H Q->
  wpAny (model X.prog X.w) X.A (setItem ov iv u) (fun _ s'=>∃H',Inv X pins σ H' s'/\Q H') X.xe s
section
variable{X:Cx}{pos:Pos}
def Dc(i:Nat):TG:=fun v σ H Q=>Q (σ.set i (some v)) H
def r9{i:Nat}{x:Str}(hN:X.N.Nodup)(hi:X.N[i]? =some x)(hx:Loc X.env.scope x)(hf:X.fn x=true\/X.env.scope.names.lookup x=some .local:=by first |exact .inl rfl |exact .inr rfl |assumption):PG X (.Name x pos) (Dc i):=by
 intro pins s σ H v u Q I r h
 exact wpAny_assign_Name (tq I hN hi hx r (fun s' I'=>⟨_,H,I',h⟩) hf)
def Iu:TGs:=fun vs σ H Q=>vs=[]/\Q σ H
def H4(t:TG)(u:TGs):TGs:=fun vs σ H Q=>∃v r,vs=v :: r/\t v σ H fun σ' H'=>u r σ' H' Q
def Cb:PGs X [] Iu:=by
 intro pins s σ H vs us Q I r h
 obtain⟨e,h⟩:=h
 subst e
 cases r
 exact assignInOrder_nil ⟨σ,H,I,h⟩
def AR{e:Expr}{es:List Expr}{t:TG}{u:TGs}(h1:PG X e t)(h2:PGs X es u)
 (hs:(assignEach (e :: es) X.env).map (·.2)=assign e X.env :: (assignEach es X.env).map (·.2):=by rfl):PGs X (e :: es) (H4 t u):=by
 intro pins s σ H vs us Q I r h
 obtain⟨v,vr,e1,h⟩:=h
 subst e1
 cases r with
 |cons r rr=>
  rw[hs]
  refine assignInOrder_cons (thn (h1 pins s σ H _ _ _ I r h) fun _ s1 ⟨σ1,H1,I1,q1⟩=>?_)
  exact h2 pins s1 σ1 H1 _ _ Q I1 rr q1
def IU(K:PySem.W.Frag)(n:Nat)(t:TGs):TG:=fun v σ H Q=>∃a xs,v= .ref a/\SqT K H a xs/\xs.length=n/\t xs σ H Q
def ER{es:List Expr}{k:Nat}{t:TGs}{n:Nat}(hc:X.calm=true)(h:PGs X es t)
 (hn:(assignEach es X.env).length=n:=by rfl) (hst:(assignEach es X.env).findIdx? (·.1)=none:=by rfl):PG X (.Tuple es k pos) (IU X.K n t):=by
 intro pins s σ H v u Q I r hw
 obtain⟨a,xs,e1,hq,hl,hw⟩:=hw
 subst e1
 cases r
 obtain⟨its,rv,ht,hz⟩:=I.tuple hq
 refine assign_Tuple_tuple (I.ok.hd hc) ht (by simp [hn,<-hl,rv.length]) hst fun h' hx=>?_
 have I1:Inv X pins σ H {s with heap:=h'}:=I.kept (t':=s.toks) fun b o e=>hx b o (Nat.ne_of_lt (Heap.lt_size e)) e
 exact h pins _ σ H xs _ Q I1 (by simpa using rv) hw
def IV(to ti:TE)(t:AN):TG:=fun v σ H Q=>to σ H fun o H1=>ti σ H1 fun i H2=>t o i v H2 fun H3=>Q σ H3
def zj{o i:Expr}{to ti:TE}{t:AN}(ho:PE X o to)(hi:PE X i ti)(hs:sV X t)
 (ha:∀v,assign (.Subscript o i pos) X.env v=(do
   let ov <-holding [v] (eval o X.env)
   let iv <-holding [v,ov] (eval i X.env)
   standAt pos
   holding [v,ov,iv] (setItem ov iv v)
   release [v,ov,iv] []):=by intro _;rfl):PG X (.Subscript o i pos) (IV to ti t):=by
 intro pins s σ H v u Q I r h
 rw[ha]
 refine wpAny_bind (wpAny_holding (thn (ho pins s σ H _ I h) fun ov s1 ⟨x,H1,I1,r1,q1⟩=>?_))
 refine wpAny_bind (wpAny_holding (thn (hi pins s1 σ H1 _ I1 q1) fun iv s2 ⟨y,H2,I2,r2,q2⟩=>?_))
 refine wpAny_bind (wpAny_standAt (wpAny_bind (wpAny_holding (thn (hs pins s2 σ H2 x y v ov iv u _ I2 r1 r2 r q2) fun _ s3 ⟨H3,I3,q3⟩=>?_))))
 exact wpAny_release ⟨σ,H3,I3,q3⟩
def HK(te:TE)(g:TG):TS:=fun D σ H=>te σ H fun x H1=>g x σ H1 D.nx
def v7{tg e:Expr}{te:TE}{g:TG}(he:PE X e te)(hg:PG X tg g)(hs:swapsWithSole [tg] e pos.line X.env=pure false:=by rfl)(hw:swappedStores [tg] e X.env=pure none:=by rfl)
 (h1:(assignEach [tg] X.env).map (·.2)=[assign tg X.env]:=by rfl):PS X (.Assign [tg] e pos) (HK te g):=by
 intro pins s σ H D I h
 refine wpAny_Assign_stores (thn (he pins s σ H _ I h) fun v s1 ⟨x,H1,I1,r1,q1⟩=>?_) hs hw
 rw[h1]
 exact thn (hg pins s1 σ H1 x v _ I1 r1 q1) fun _ s2 q=>q
def Fw{i:Nat}{x:Str}{e:Expr}{te:TE}{pos':Pos}(hN:X.N.Nodup)(hi:X.N[i]? =some x)(hx:Loc X.env.scope x)(he:PE X e te)(hs:swapsWith e (some (.Name x pos')) pos.line X.env=pure false:=by rfl)(hf:X.fn x=true\/X.env.scope.names.lookup x=some .local:=by first |exact .inl rfl |exact .inr rfl |assumption):
 PS X (.Assign [.Name x pos'] e pos) (HK te (Dc i)):=by
 intro pins s σ H D I h
 refine wpAny_Assign_Name (thn (he pins s σ H _ I h) fun v s1 ⟨y,H1,I1,r1,q1⟩=>?_) hs
 exact tq I1 hN hi hx r1 (fun s2 I2=>⟨_,H1,I2,q1⟩) hf
def Fg(c:TT)(tb:TS):TS:=fun D σ H=>∃W:Nat->St->Hp->Prop,(∃m,W m σ H)/\∀m σ H,W m σ H->
 c σ H fun b H1=>if b=true then ∃N:St->Hp->Prop,(∀σ' H',N σ' H'->∃m',m' < m/\W m' σ' H')/\tb {D with nx:=N,ct:=N,bk:=D.nx} σ H1 else D.nx σ H1
def Bi{c:Expr}{body:List Stmt}{tc:TT}{tb:TS}(hp:PassesOwn (model X.prog X.w) X.A X.env X.xe)(hc:PT X c tc)(hb:PSs X body tb):PS X (.While c body [] pos) (Fg tc tb):=by
 intro pins s σ H D I h
 obtain⟨W,⟨m0,w0⟩,turn⟩:=h
 refine wpAny_While (codeAny_whileLoop (fun n s'=>∃σ' H',Inv X pins σ' H' s'/\W n σ' H') ?_ m0 ⟨σ,H,I,w0⟩)
 rintro n s1 ⟨σ1,H1,I1,w1⟩
 refine wpAny_passesOwn hp (thn (hc pins s1 σ1 H1 _ I1 (turn n σ1 H1 w1)) fun b s2 ⟨H2,I2,q2⟩=>?_)
 cases b with
 |true=>
  obtain⟨N,hN,q2⟩:=q2
  rw[if_pos rfl]
  refine wpAny_passesOwn hp (thn (hb pins s2 σ1 H2 _ I2 q2) fun f s3 q3=>?_)
  cases f with
  |next=>
   obtain⟨σ3,H3,I3,n3⟩:=q3
   obtain⟨m',hm,w3⟩:=hN σ3 H3 n3
   exact⟨m',hm,σ3,H3,I3,w3⟩
  |cont=>
   obtain⟨σ3,H3,I3,n3⟩:=q3
   obtain⟨m',hm,w3⟩:=hN σ3 H3 n3
   exact⟨m',hm,σ3,H3,I3,w3⟩
  |brk=>exact q3
  |ret v=>exact q3
 |false=>
  rw[if_neg qC_]
  exact wpAny_execs_nil ⟨σ1,H2,I2,q2⟩
end
structure It where
 go:Nat->Hp->Prop
 yld:Nat->Hp->V->Hp->Prop
 stop:Nat->Hp->Prop
def m3(X:Cx)(pins:List (Addr×Obj))(H:Hp)(b:Addr):Prop:=
 H b=none/\b≠X.env.locals/\b∉X.fs/\(b∈X.ex\/X.s₀.heap.objs.size<=b)/\(∀x c,X.env.cells.lookup x=some c->c≠b)/\∀p∈X.pn++pins,p.1≠b
def Inv.yN{X:Cx}{pins:List (Addr×Obj)}{σ:St}{H H':Hp}{s:Shared}{b:Addr}(I:Inv X pins σ H s)(hb:s.heap.objs.size<=b)(hn:H' b=none):m3 X pins H' b:=by
 refine⟨hn,Nat.ne_of_gt (qd_ I.lt hb),I.Jb hb,.inr (Nat.le_trans I.sz hb),fun x c e z=>?_,fun p hp z=>?_⟩
 · obtain⟨v,q⟩:=I.cell x c e
   exact absurd (qd_ q.lt (by rw[z];exact hb)) (qe_ _)
 · exact absurd (qd_ (Heap.lt_size (I.pin p hp).1) (by rw[z];exact hb)) (qe_ _)
structure Turn (P:Program) (w:World) (K:PySem.W.Frag) (tg:Expr) (J:It) (fp:List Addr) (it:Addr) (tn:Nat->Heap->Prop):Prop where
 mem:it∈fp
 obj:∀i h,tn i h->∀b∈fp,∃o,h.get? b=some o/\∀v,o.data≠.cell v
 keep:∀i h h',tn i h->(∀b∈fp,∀o,h.get? b=some o->h'.get? b=some o)->tn i h'
 item:∀(X:Cx),X.prog=P->X.w=w->X.K=K->X.calm=true->∀(i:Nat) (pins:List (Addr×Obj)) (s:Shared) (σ:St) (H:Hp) (E:Value->Shared->Prop),Inv X pins σ H s->(∀b∈fp,m3 X pins H b)->tn i s.heap->J.go i H->
  wpAny (model P w) X.A (pyNext (.ref it)) (fun r s1=>∃u,r=some u/\
   wpAny (model P w) X.A (letOwnedTupleGo tg (.ref it) u) (fun _ s2=>∃x H',Inv X pins σ H' s2/\RelV x u/\J.yld i H x H'/\tn (i+1) s2.heap/\∀b∈fp,H' b=none) E s1) E s
 done:∀(X:Cx),X.prog=P->X.w=w->X.K=K->X.calm=true->∀(i:Nat) (pins:List (Addr×Obj)) (s:Shared) (σ:St) (H:Hp) (E:Value->Shared->Prop),Inv X pins σ H s->(∀b∈fp,m3 X pins H b)->tn i s.heap->J.stop i H->
  wpAny (model P w) X.A (pyNext (.ref it)) (fun r s1=>r=none/\Inv X pins σ H s1) E s
 self:∀(A:Around) (i:Nat) (s:Shared) (Q:Value->Shared->Prop) (E:Value->Shared->Prop),tn i s.heap->Q (.ref it) s->wpAny (model P w) A (pyIter (.ref it)) Q E s
abbrev TI:=St->Hp->(It->Hp->Prop)->Prop
def PIE(X:Cx)(pins:List (Addr×Obj))(σ:St)(tg:Expr)(R:It->Hp->Prop)(itv:Value)(s2:Shared):Prop:=
 ∃(it:Addr) (fp:List Addr) (tn:Nat->Heap->Prop) (J:It) (H':Hp),itv= .ref it/\Inv X pins σ H' s2/\Turn X.prog X.w X.K tg J fp it tn/\tn 0 s2.heap/\(∀b∈fp,m3 X pins H' b)/\R J H'
def PI(X:Cx)(tg iter:Expr)(wi:TI):Prop:=
 ∀(pins:List (Addr×Obj)) (s:Shared) (σ:St) (H:Hp) (R:It->Hp->Prop),Inv X pins σ H s->wi σ H R->
  wpAny (model X.prog X.w) X.A (eval iter X.env) (fun v s1=>wpAny (model X.prog X.w) X.A (pyIter v) (PIE X pins σ tg R) X.xe s1) X.xe s
def yO{M:Model}{A:Around}{E:Value->Shared->Prop}{s:Shared}{tg:Expr}{it:Addr}{u:Value}{o:Obj}{n:String}{vs:Array Value}{Q:Unit->Shared->Prop}(ho:s.heap.get? it=some o)(hc:o.cls= .type n)(hd:o.data= .fields vs)
 (hn:["enumerate","zip","dict_itemiterator","dict_reverseitemiterator","odict_iterator","itertools.zip_longest","itertools.pairwise"].contains n=false) (hQ:Q () s):wpAny M A (letOwnedTupleGo tg (.ref it) u) Q E s:=by
 unfold letOwnedTupleGo
 cases tg <;> first
  |exact wpAny_pure hQ
  |(cases u <;> first
     |exact wpAny_pure hQ
     |(refine wpAny_bind (wpAny_load ho ?_)
       rw[hc,hd]
       show wpAny M A (if (["enumerate","zip","dict_itemiterator","dict_reverseitemiterator","odict_iterator","itertools.zip_longest","itertools.pairwise"].contains n&&vs[0]? ==some (rawInt _))=true then _ else _) Q E s
       rw[if_neg (by intro h;rw[hn,Bool.false_and]at h;cases h)]
       exact wpAny_pure hQ))
def Itl(K:PySem.W.Frag)(a:Addr):It:=
 ⟨fun i H=>∃xs x,SqL K H a xs/\xs[i]? =some x,fun i H x H'=>H'=H/\∀xs,SqL K H a xs->xs[i]? =some x,fun i H=>∃xs,SqL K H a xs/\xs.length<=i⟩
def Itt(K:PySem.W.Frag)(a:Addr):It:=
 ⟨fun i H=>∃xs x,SqT K H a xs/\xs[i]? =some x,fun i H x H'=>H'=H/\∀xs,SqT K H a xs->xs[i]? =some x,fun i H=>∃xs,SqT K H a xs/\xs.length<=i⟩
def Itr(lo:Int)(n:Nat):It:=⟨fun i _=>i < n,fun i H x H'=>H'=H/\x= .int (lo+i),fun i _=>n<=i⟩
def xt{P:Program}{w:World}{K:PySem.W.Frag}{tg:Expr}(a it:Addr):Turn P w K tg (Itl K a) [it] it (fun i h=>h.IsListIter it a i) where
 mem:=by simp
 obj:=fun i h st b hb=>by
  have e:b=it:=by simpa using hb
  subst e
  obtain⟨o,e,c,d⟩:=st
  exact⟨o,e,fun v z=>by rw[d]at z;cases z⟩
 keep:=fun i h h' st k=>st.at fun o e=>k it (by simp) o e
 item:=by
  intro X hP hw hK hc i pins s σ H E I hf st hg
  subst hP hw hK
  obtain⟨xs,x,hq,hx⟩:=hg
  obtain⟨its,rv,p,hz⟩:=I.list hq
  obtain⟨u,hu,ru⟩:=rv.get hx
  obtain⟨f0,f1,f2,f3,f4,f5⟩:=hf it (by simp)
  refine wpAny_pyNext_list_item st p.isList (x:=u) (by simpa using hu) fun h' st' sb=>?_
  have I1:Inv X pins σ H {s with heap:=h'}:=I.turned (t':=s.toks) (fun b o hb e=>(sb.2 b hb).trans e) f0 f1 f3 f4 f5
  obtain⟨o,e,c,d⟩:=id st'
  exact⟨u,rfl,yO (s:={s with heap:=h'}) e c d (by decide) ⟨x,H,I1,ru,⟨rfl,fun ys hy=>by rw[I.jL hy hq];exact hx⟩,st',fun b hb=>(hf b hb).1⟩⟩
 done:=by
  intro X hP hw hK hc i pins s σ H E I hf st hg
  subst hP hw hK
  obtain⟨xs,hq,hx⟩:=hg
  obtain⟨its,rv,p,hz⟩:=I.list hq
  obtain⟨f0,f1,f2,f3,f4,f5⟩:=hf it (by simp)
  have hl:=rv.length
  exact wpAny_pyNext_list_end (I.ok.hd hc) st p.isList (by simp;omega) fun h' eb=>⟨rfl,I.turned (t':=s.toks) (fun b o hb e=>eb b o hb e) f0 f1 f3 f4 f5⟩
 self:=fun _ _ _ _ _ st h=>wpAny_pyIter_listiter st h
def v8{P:Program}{w:World}{K:PySem.W.Frag}{tg:Expr}(a it:Addr):Turn P w K tg (Itt K a) [it] it (fun i h=>h.IsTupleIter it a i) where
 mem:=by simp
 obj:=fun i h st b hb=>by
  have e:b=it:=by simpa using hb
  subst e
  obtain⟨o,e,c,d⟩:=st
  exact⟨o,e,fun v z=>by rw[d]at z;cases z⟩
 keep:=fun i h h' st k=>st.at fun o e=>k it (by simp) o e
 item:=by
  intro X hP hw hK hc i pins s σ H E I hf st hg
  subst hP hw hK
  obtain⟨xs,x,hq,hx⟩:=hg
  obtain⟨its,rv,p,hz⟩:=I.tuple hq
  obtain⟨u,hu,ru⟩:=rv.get hx
  obtain⟨f0,f1,f2,f3,f4,f5⟩:=hf it (by simp)
  refine wpAny_pyNext_tuple_item st (show s.heap.IsTuple a its.toArray from p) (x:=u) (by simpa using hu) fun h' st' sb=>?_
  have I1:Inv X pins σ H {s with heap:=h'}:=I.turned (t':=s.toks) (fun b o hb e=>(sb.2 b hb).trans e) f0 f1 f3 f4 f5
  obtain⟨o,e,c,d⟩:=id st'
  exact⟨u,rfl,yO (s:={s with heap:=h'}) e c d (by decide) ⟨x,H,I1,ru,⟨rfl,fun ys hy=>by rw[I.kC hy hq];exact hx⟩,st',fun b hb=>(hf b hb).1⟩⟩
 done:=by
  intro X hP hw hK hc i pins s σ H E I hf st hg
  subst hP hw hK
  obtain⟨xs,hq,hx⟩:=hg
  obtain⟨its,rv,p,hz⟩:=I.tuple hq
  obtain⟨f0,f1,f2,f3,f4,f5⟩:=hf it (by simp)
  have hl:=rv.length
  exact wpAny_pyNext_tuple_end (I.ok.hd hc) st (show s.heap.IsTuple a its.toArray from p) (by simp;omega) fun h' eb=>⟨rfl,I.turned (t':=s.toks) (fun b o hb e=>eb b o hb e) f0 f1 f3 f4 f5⟩
 self:=fun _ _ _ _ _ st h=>wpAny_pyIter_tupleiter st h
def vG{P:Program}{w:World}{K:PySem.W.Frag}{tg:Expr}(it:Addr)(lo:Int)(n:Nat):Turn P w K tg (Itr lo n) [it] it (fun i h=>IsRangeIter h it (lo+(i:Nat)*1) ((n:Int) - (i:Nat)) 1) where
 mem:=by simp
 obj:=fun i h st b hb=>by
  have e:b=it:=by simpa using hb
  subst e
  exact⟨_,st,fun v z=>by
   have z':Data.fields _=Data.cell v:=z
   cases z'⟩
 keep:=fun i h h' st k=>k it (by simp) _ st
 item:=by
  intro X hP hw hK hc i pins s σ H E I hf st hg
  subst hP hw hK
  obtain⟨f0,f1,f2,f3,f4,f5⟩:=hf it (by simp)
  have W:=Walks.range (prog:=X.prog) (w:=X.w) (I.ok.hd hc) it lo 1 n
  refine W.item i s _ _ hg st fun v h' tk hv st' kk=>?_
  obtain⟨t,rfl⟩:=hv
  have I1:Inv X pins σ H {s with heap:=h',toks:=tk}:=I.turned (fun b o hb e=>kk b o (by simpa using hb) e) f0 f1 f3 f4 f5
  refine⟨_,rfl,yO (s:={s with heap:=h',toks:=tk}) (n:="range_iterator") st' rfl rfl (by decide) ⟨.int (lo+i),H,I1,⟨t,?_⟩,⟨rfl,rfl⟩,st',fun b hb=>(hf b hb).1⟩⟩
  rw[Int.mul_one]
 done:=by
  intro X hP hw hK hc i pins s σ H E I hf st hg
  subst hP hw hK
  obtain⟨f0,f1,f2,f3,f4,f5⟩:=hf it (by simp)
  exact wpAny_pyNext_range_end (I.ok.hd hc) st (by have:n<=i:=hg;omega) fun h' eb=>⟨rfl,I.turned (t':=s.toks) (fun b o hb e=>eb b o hb e) f0 f1 f3 f4 f5⟩
 self:=fun _ _ _ _ _ st h=>wpAny_pyIter_rangeiter st h
section
variable{X:Cx}{tg:Expr}
def zc{pins:List (Addr×Obj)}{σ:St}{H:Hp}{s:Shared}{R:It->Hp->Prop}{E:Value->Shared->Prop}{lo hi:Int}{t u v:Tok}{tk:Nat}(I:Inv X pins σ H s)(h1:-(2 ^ 62)<=lo)(h2:lo < 2 ^ 62)(h3:-(2 ^ 62)<=hi)(h4:hi < 2 ^ 62)
 (q:R (Itr lo (hi - lo).toNat) H):wpAny (model X.prog X.w) X.A (pyIter (.ref s.heap.objs.size)) (PIE X pins σ tg R) E {s with heap:=s.heap.push {cls:= .type "range",data:= .fields #[.int lo t,.int hi u,.int 1 v]},toks:=tk}:=by
 refine wpAny_pyIter_range (IsRange.new ..) (small_one h1 h2 h3 h4) ?_
 have I1:Inv X pins σ H {s with heap:=s.heap.push {cls:= .type "range",data:= .fields #[.int lo t,.int hi u,.int 1 v]},toks:=tk}:=I.kept fun b o e=>Heap.get?_push_of_some _ e
 refine⟨(s.heap.push {cls:= .type "range",data:= .fields #[.int lo t,.int hi u,.int 1 v]}).objs.size,[(s.heap.push {cls:= .type "range",data:= .fields #[.int lo t,.int hi u,.int 1 v]}).objs.size],_,_,H,rfl,
  I1.kept (t':=tk) fun b o e=>Heap.get?_push_of_some _ e,vG _ lo (hi - lo).toNat,?_,fun b hb=>?_,q⟩
 · have e1:lo+((0:Nat):Int)*1=lo:=by simp
   have e2:(((hi - lo).toNat:Nat):Int) - ((0:Nat):Int)=Builtin.Range.rangeSize lo hi 1:=by rw[rangeSize_one];split <;> omega
   show IsRangeIter _ _ (lo+((0:Nat):Int)*1) ((((hi - lo).toNat:Nat):Int) - ((0:Nat):Int)) 1
   rw[e1,e2]
   exact Heap.get?_push_size _ rfl
 · have e:b=(s.heap.push {cls:= .type "range",data:= .fields #[.int lo t,.int hi u,.int 1 v]}).objs.size:=by simpa using hb
   subst e
   exact I1.yN (qO_ _) (I1.hok.fresh (qO_ _))
def gK(ta:TA):TI:=fun σ H R=>ta σ H fun vs H1=>∃j:Int,vs=[.int j]/\-(2 ^ 62)<=j/\j < 2 ^ 62/\R (Itr 0 j.toNat) H1
def ya{a:Expr}{ta:TA}{p pos:Pos}(hg:Gl X "range")(hm:X.mg "range"=none)(ha:PA X [a] ta)(hs:starEach [a] X.env=[(false,eval a X.env)]:=by rfl):PI X tg (.Call (.Name "range" p) [a] [] pos) (gK ta):=by
 intro pins s σ H R I h
 refine Call_ (nu I hg hm boot_range (PyProof.Rows.callWith_type1 (thn (ha pos pins s σ H _ I h) fun us s1 ⟨vs,H1,I1,r1,q1⟩=>?_) hs rfl))
 obtain⟨j,e,q1,q2,q⟩:=q1
 subst e
 cases r1 with
 |cons r rr=>
  cases rr
  obtain⟨t,rfl⟩:=r
  exact call_range_1 (zc I1 (by omega) (by omega) q1 q2 (by simpa using q))
def IG(wi:TI)(g:TG)(tb:TS):TS:=fun D σ H=>wi σ H fun J H1=>∃W:Nat->Nat->St->Hp->Prop,(∃m,W 0 m σ H1)/\∀i m σ H,W i m σ H->
 (J.stop i H/\D.nx σ H)\/(J.go i H/\∃N:St->Hp->Prop,(∀σ' H',N σ' H'->∃m',m' < m/\W (i+1) m' σ' H')/\∀x H',J.yld i H x H'->g x σ H' fun σ2 H2=>tb {D with nx:=N,ct:=N,bk:=D.nx} σ2 H2)
def pq(fp:List Addr)(h:Heap):List (Addr×Obj):=fp.filterMap fun b=>(h.get? b).map fun o=>(b,o)
def iK{fp:List Addr}{h:Heap}{b:Addr}{o:Obj}(hb:b∈fp)(e:h.get? b=some o):(b,o)∈pq fp h:=List.mem_filterMap.mpr ⟨b,hb,by rw[e];rfl⟩
def xN{fp:List Addr}{h:Heap}{p:Addr×Obj}(hp:p∈pq fp h):p.1∈fp/\h.get? p.1=some p.2:=by
 obtain⟨b,hb,e⟩:=List.mem_filterMap.mp hp
 cases q:h.get? b with
 |none=>rw[q]at e;cases e
 |some o=>
  rw[q]at e
  have e':(b,o)=p:=Option.some.inj e
  subst e'
  exact⟨hb,q⟩
def Inv.pinned{pins:List (Addr×Obj)}{σ:St}{H:Hp}{s:Shared}{fp:List Addr}(I:Inv X pins σ H s)(hf:∀b∈fp,m3 X pins H b)(ho:∀b∈fp,∃o,s.heap.get? b=some o/\∀v,o.data≠.cell v):Inv X (pins++pq fp s.heap) σ H s:=
 I.ou fun p hp=>(qG_.mp hp).elim (fun z=>I.pin p (qE_ _ z)) fun z=>by
   obtain⟨hb,e⟩:=xN z
   obtain⟨f0,f1,f2,_⟩:=hf p.1 hb
   obtain⟨o,e',d⟩:=ho p.1 hb
   rw[e]at e';cases e'
   exact⟨e,f0,f1,f2,d⟩
def Inv.jY{pins pl:List (Addr×Obj)}{σ:St}{H:Hp}{s:Shared}(I:Inv X (pins++pl) σ H s):Inv X pins σ H s:=I.ou fun p hp=>I.pin p (qE_ _ (qF_ _ hp))
def zL{iter:Expr}{body:List Stmt}{wi:TI}{g:TG}{tb:TS}{pos:Pos}(hp:PassesOwn (model X.prog X.w) X.A X.env X.xe)(hc:X.calm=true)(hi:PI X tg iter wi)(hg:PG X tg g)(hb:PSs X body tb)
 (hs:∀x,foldedSetIterable iter X.env x=pure x:=by intro _;rfl):PS X (.For tg iter body [] pos) (IG wi g tb):=by
 intro pins s σ H D I h
 refine wpAny_For (thn (hi pins s σ H _ I h) fun v s1 h1=>thn h1 fun itv s2 h2=>?_) hs
 obtain⟨it,fp,tn,J,H2,e,I2,T,st2,f2,W,⟨m0,w0⟩,turn⟩:=h2
 subst e
 have stat:∀{H':Hp},(∀b∈fp,H' b=none)->∀b∈fp,m3 X pins H' b:=fun hn b hb=>⟨hn b hb,(f2 b hb).2⟩
 refine codeAny_forLoop_any (fun n s'=>∃i σ' H',Inv X pins σ' H' s'/\tn i s'.heap/\(∀b∈fp,H' b=none)/\W i n σ' H') ?_ m0 ⟨0,σ,H2,I2,st2,fun b hb=>(f2 b hb).1,w0⟩
 rintro n s3 ⟨i,σ3,H3,I3,st3,fr3,w3⟩
 rcases turn i n σ3 H3 w3 with ⟨stop,qn⟩ |⟨go,N,hN,step⟩
 · refine wpAny_passesOwn hp (thn (T.done X rfl rfl rfl hc i pins s3 σ3 H3 X.xe I3 (stat fr3) st3 stop) fun r s4 ⟨hr,I4⟩=>?_)
   subst hr
   exact wpAny_execs_nil ⟨σ3,H3,I4,qn⟩
 · refine wpAny_passesOwn hp (thn (T.item X rfl rfl rfl hc i pins s3 σ3 H3 X.xe I3 (stat fr3) st3 go) fun r s4 ⟨u,hr,h4⟩=>?_)
   subst hr
   refine wpAny_passesOwn hp (thn h4 fun _ s5 ⟨x,H5,I5,r5,y5,st5,fr5⟩=>?_)
   have I5':=I5.pinned (stat fr5) (T.obj _ _ st5)
   refine wpAny_passesOwn hp (thn (hg _ s5 σ3 H5 x u _ I5' r5 (step x H5 y5)) fun _ s6 ⟨σ6,H6,I6,q6⟩=>?_)
   refine wpAny_passesOwn hp (thn (hb _ s6 σ6 H6 _ I6 q6) fun f s7 q7=>?_)
   have again:∀{σ7:St} {H7:Hp},Inv X (pins++pq fp s5.heap) σ7 H7 s7->N σ7 H7->∃m,m < n/\∃i σ' H',Inv X pins σ' H' s7/\tn i s7.heap/\(∀b∈fp,H' b=none)/\W i m σ' H':=fun {σ7 H7} I7 n7=>by
    obtain⟨m',hm,w7⟩:=hN σ7 H7 n7
    refine⟨m',hm,i+1,σ7,H7,I7.jY,T.keep _ _ _ st5 fun b hb o e=>(I7.pin (b,o) (qE_ _ (qE_ _ (iK hb e)))).1,fun b hb=>?_,w7⟩
    obtain⟨o,e,d⟩:=T.obj _ _ st5 b hb
    exact(I7.pin (b,o) (qE_ _ (qE_ _ (iK hb e)))).2.1
   cases f with
   |next=>obtain⟨σ7,H7,I7,n7⟩:=q7;exact again I7 n7
   |cont=>obtain⟨σ7,H7,I7,n7⟩:=q7;exact again I7 n7
   |brk=>obtain⟨σ7,H7,I7,q7⟩:=q7;exact⟨σ7,H7,I7.jY,q7⟩
   |ret v=>obtain⟨x7,σ7,H7,I7,r7,q7⟩:=q7;exact⟨x7,σ7,H7,I7.jY,r7,q7⟩
end
abbrev R2:=V->V->Hp->VK->Prop
def OpR(X:Cx)(f:Value->Value->Sem Value)(r:R2):Prop:=
 ∀(pins:List (Addr×Obj)) (s:Shared) (σ:St) (H:Hp) (x y:V) (v u:Value) (Q:VK),Inv X pins σ H s->RelV x v->RelV y u->r x y H Q->
  wpAny (model X.prog X.w) X.A (f v u) (EP X pins σ Q) X.xe s
def fS(X:Cx)(f:Value)(r:List V->Hp->VK->Prop):Prop:=
 ∀(pins:List (Addr×Obj)) (s:Shared) (σ:St) (H:Hp) (xs:List V) (us:List Value) (Q:VK),Inv X pins σ H s->Vals xs us->r xs H Q->
  wpAny (model X.prog X.w) X.A (call f us) (EP X pins σ Q) X.xe s
def Io(X:Cx)(r:V->Hp->(Bool->Hp->Prop)->Prop):Prop:=
 ∀(pins:List (Addr×Obj)) (s:Shared) (σ:St) (H:Hp) (x:V) (v:Value) (Q:Bool->Hp->Prop),Inv X pins σ H s->RelV x v->r x H Q->
  wpAny (model X.prog X.w) X.A (truthy v) (TP X pins σ Q) X.xe s
def tOp(r:R2)(ta tb:TE):TE:=fun σ H Q=>ta σ H fun x H1=>tb σ H1 fun y H2=>r x y H2 Q
def rI(C:Int->Int->Prop)(g:Int->Int->V):R2:=fun x y H Q=>∃i j,x= .int i/\y= .int j/\C i j/\Q (g i j) H
def rI0(g:Int->Int->V):R2:=fun x y H Q=>∃i j,x= .int i/\y= .int j/\Q (g i j) H
section
variable{X:Cx}{a b c:Expr}{ta tb tc:TE}{pos:Pos}
def Fi(ha:PE X a ta)(hb:PE X b tb){pins:List (Addr×Obj)}{s:Shared}{σ:St}{H:Hp}{R:V->V->Hp->Prop}(I:Inv X pins σ H s)
 (h:ta σ H fun x H1=>tb σ H1 fun y H2=>R x y H2) {Q:Value->Shared->Prop} {f:Value->Value->Sem Value}
 (hf:∀v u s2 x y H2,Inv X pins σ H2 s2->RelV x v->RelV y u->R x y H2->wpAny (model X.prog X.w) X.A (f v u) Q X.xe s2):
 wpAny (model X.prog X.w) X.A (eval a X.env) (fun v s₁=>wpAny (model X.prog X.w) X.A (eval b X.env) (fun u s₂=>wpAny (model X.prog X.w) X.A (f v u) Q X.xe s₂) X.xe s₁) X.xe s:=by
 refine thn (ha pins s σ H _ I h) fun v s1 ⟨x,H1,I1,r1,q1⟩=>?_
 refine thn (hb pins s1 σ H1 _ I1 q1) fun u s2 ⟨y,H2,I2,r2,q2⟩=>?_
 exact hf v u s2 x y H2 I2 r1 r2 q2
def GY{op:Operator}{r:R2}(ho:OpR X (binaryOp op) r)(ha:PE X a ta)(hb:PE X b tb):PE X (.BinOp a op b pos) (tOp r ta tb):=by
 intro pins s σ H Q I h
 exact wpAny_BinOp (Fi ha hb I h fun v u s2 x y H2 I2 rx ry q=>ho pins s2 σ H2 x y v u Q I2 rx ry q)
def opI{f:Value->Value->Sem Value}{C:Int->Int->Prop}{g:Int->Int->Int}
 (rule:∀(i j:Int) (t u:Tok) (s:Shared) (Q:Value->Shared->Prop) (E:Value->Shared->Prop),C i j->Q (.int (g i j) s.toks) {s with toks:=s.toks+1}->wpAny (model X.prog X.w) X.A (f (.int i t) (.int j u)) Q E s):
 OpR X f (rI C fun i j=>.int (g i j)):=by
 intro pins s σ H x y v u Q I rx ry h
 obtain⟨i,j,rfl,rfl,hc,q⟩:=h
 obtain⟨t,rfl⟩:=rx
 obtain⟨t',rfl⟩:=ry
 exact rule i j t t' s _ _ hc ⟨.int (g i j),H,I.tok _,⟨_,rfl⟩,q⟩
def Hj{f:Value->Value->Sem Value}{g:Int->Int->Int}
 (rule:∀(i j:Int) (t u:Tok) (s:Shared) (Q:Value->Shared->Prop) (E:Value->Shared->Prop),Q (.int (g i j) s.toks) {s with toks:=s.toks+1}->wpAny (model X.prog X.w) X.A (f (.int i t) (.int j u)) Q E s):
 OpR X f (rI0 fun i j=>.int (g i j)):=by
 intro pins s σ H x y v u Q I rx ry h
 obtain⟨i,j,rfl,rfl,q⟩:=h
 obtain⟨t,rfl⟩:=rx
 obtain⟨t',rfl⟩:=ry
 exact rule i j t t' s _ _ ⟨.int (g i j),H,I.tok _,⟨_,rfl⟩,q⟩
def CM{f:Value->Value->Sem Value}{g:Int->Int->Bool}
 (rule:∀(i j:Int) (t u:Tok) (s:Shared) (Q:Value->Shared->Prop) (E:Value->Shared->Prop),Q (.bool (g i j)) s->wpAny (model X.prog X.w) X.A (f (.int i t) (.int j u)) Q E s):
 OpR X f (rI0 fun i j=>.bl (g i j)):=by
 intro pins s σ H x y v u Q I rx ry h
 obtain⟨i,j,rfl,rfl,q⟩:=h
 obtain⟨t,rfl⟩:=rx
 obtain⟨t',rfl⟩:=ry
 exact rule i j t t' s _ _ ⟨.bl (g i j),H,I,rfl,q⟩
def CW(i j:Int):Prop:=(-(2 ^ 64) < i/\i < 2 ^ 64)\/(-(2 ^ 64) < j/\j < 2 ^ 64)
def CW.ok{i j:Int}(h:CW i j):IntMulOk i j:=by
 rcases h with ⟨h1,h2⟩ |⟨h1,h2⟩
 · exact .of_left (intBits_le_64 h1 h2)
 · exact .of_right (intBits_le_64 h1 h2)
def EF:OpR X (binaryOp .Add) (rI0 fun i j=>.int (i+j)):=Hj fun _ _ _ _ _ _ _ q=>add_int q
def Er:OpR X (binaryOp .Sub) (rI0 fun i j=>.int (i - j)):=Hj fun _ _ _ _ _ _ _ q=>sub_int q
def FY:OpR X (binaryOp .Mult) (rI CW fun i j=>.int (i*j)):=opI fun _ _ _ _ _ _ _ hc q=>mul_int q hc.ok
def DN:OpR X (binaryOp .Mod) (rI (fun _ j=>0 < j) fun i j=>.int (i % j)):=opI fun i j _ _ _ _ _ hc q=>by
 have h1:(0:Int) < j:=hc
 exact mod_int' (by omega) (by rw[Int.fmod_eq_emod_of_nonneg i (by omega)];exact q)
def Gr:OpR X (compareOp .Lt) (rI0 fun i j=>.bl (decide (i < j))):=CM fun _ _ _ _ _ _ _ q=>lt_int q
def GG:OpR X (compareOp .LtE) (rI0 fun i j=>.bl (decide (i<=j))):=CM fun _ _ _ _ _ _ _ q=>le_int q
def HV:OpR X (compareOp .Gt) (rI0 fun i j=>.bl (decide (j < i))):=CM fun _ _ _ _ _ _ _ q=>gt_int q
def Ii:OpR X (compareOp .GtE) (rI0 fun i j=>.bl (decide (j<=i))):=CM fun _ _ _ _ _ _ _ q=>ge_int q
def OpR.or{f:Value->Value->Sem Value}{r r':R2}(h:OpR X f r)(h':OpR X f r'):OpR X f (fun x y H Q=>r x y H Q\/r' x y H Q):=by
 intro pins s σ H x y v u Q I rx ry q
 rcases q with q |q
 · exact h pins s σ H x y v u Q I rx ry q
 · exact h' pins s σ H x y v u Q I rx ry q
def hW(b:Expr){op:CmpOp}(h:op≠.In:=by decide)(h2:op≠.NotIn:=by decide):behindInMarks op b=false:=by
 have e1:(op==CmpOp.In)=false:=by cases op <;> first |rfl |exact absurd rfl h
 have e2:(op==CmpOp.NotIn)=false:=by cases op <;> first |rfl |exact absurd rfl h2
 cases b <;> simp [behindInMarks,e1,e2]
def BH{op:CmpOp}{r:R2}(ho:OpR X (compareOp op) r)(ha:PE X a ta)(hb:PE X b tb)(hm:behindInMarks op b=false):PE X (.Compare a [op] [b] pos) (tOp r ta tb):=by
 intro pins s σ H Q I h
 exact wpAny_Compare1 (Fi ha hb I h fun v u s2 x y H2 I2 rx ry q=>ho pins s2 σ H2 x y v u Q I2 rx ry q) hm
def Dp(t:TE):TT:=fun σ H Q=>t σ H fun x H'=>∃k,x= .bl k/\Q k H'
def Bn{op:CmpOp}{r:R2}(ho:OpR X (compareOp op) r)(ha:PE X a ta)(hb:PE X b tb)(hm:behindInMarks op b=false):PT X (.Compare a [op] [b] pos) (Dp (tOp r ta tb)):=by
 intro pins s σ H Q I h
 refine wpAny_isTrue_Compare1 (thn (ha pins s σ H _ I h) fun v s1 ⟨x,H1,I1,r1,q1⟩=>thn (hb pins s1 σ H1 _ I1 q1) fun u s2 ⟨y,H2,I2,r2,q2⟩=>
  thn (ho pins s2 σ H2 x y v u _ I2 r1 r2 q2) fun c s3 ⟨z,H3,I3,r3,k,e,q3⟩=>?_) hm
 subst e
 cases r3
 exact wpAny_truthy_bool ⟨H3,I3,q3⟩
def DK(K:PySem.W.Frag)(x:V)(H:Hp)(k:Bool):Prop:=
 match x with
 | .non=>k=false
 | .bl b=>k=b
 | .int i=>k=(i !=0)
 | .str y=>y.length<=sizeLine/\k=((y.length:Int)!=0)
 | .byt y=>y.size<=sizeLine/\k=((y.size:Int)!=0)
 | .ref p=>(∃xs,SqL K H p xs/\k= !xs.isEmpty)\/(∃xs,SqT K H p xs/\k= !xs.isEmpty)\/∃kvs,H p=some (.dK kvs)/\k= !kvs.isEmpty
 |_=>False
def ve{κ:Type}{kvs:List (κ×V)}{vs:List (κ×Value)}(r:KV kvs vs):(!vs.isEmpty)= !kvs.isEmpty:=by
 cases r <;> rfl
def pf{xs:List V}{its:List Value}(r:Vals xs its):(!its.toArray.isEmpty)= !xs.isEmpty:=by
 cases r <;> simp
def oP:(sizeLine:Nat) < 2 ^ 63:=by rw[sizeLine_eq];decide
def Fx:Io X (fun x H Q=>∃k,DK X.K x H k/\Q k H):=by
 intro pins s σ H x v Q I rx h
 obtain⟨k,e,q⟩:=h
 have hl:=oP
 have hs:sizeLine=16777216:=sizeLine_eq
 cases x with
 |non=>
  cases rx
  have e':k=false:=e
  subst e'
  exact truthy_none ⟨H,I,q⟩
 |bl b=>
  cases rx
  have e':k=b:=e
  subst e'
  exact wpAny_truthy_bool ⟨H,I,q⟩
 |int i=>
  obtain⟨t,rfl⟩:=rx
  have e':k=(i !=0):=e
  subst e'
  exact PySem.P.truthy_int ⟨H,I,q⟩
 |str y=>
  obtain⟨t,rfl⟩:=rx
  obtain⟨hy,e'⟩:y.length<=sizeLine/\k=((y.length:Int)!=0):=e
  subst e'
  exact PySem.P.truthy_str (by omega) ⟨H,I.tok _,q⟩
 |byt y=>
  obtain⟨t,rfl⟩:=rx
  obtain⟨hy,e'⟩:y.size<=sizeLine/\k=((y.size:Int)!=0):=e
  subst e'
  exact PySem.W.truthy_bytes (by omega) ⟨H,I.tok _,q⟩
 |ref p=>
  cases rx
  have e':(∃xs,SqL X.K H p xs/\k= !xs.isEmpty)\/(∃xs,SqT X.K H p xs/\k= !xs.isEmpty)\/∃kvs,H p=some (.dK kvs)/\k= !kvs.isEmpty:=e
  rcases e' with ⟨xs,hx,e'⟩ |⟨xs,hx,e'⟩ |⟨kvs,hx,e'⟩
  · subst e'
    obtain⟨its,r,pl,hz⟩:=I.list hx
    have hlen:=r.length
    exact wpAny_truthy_list pl.isList (by simp only[qW_];omega) ⟨H,I.tok _,by rw[pf r];exact q⟩
  · subst e'
    obtain⟨its,r,pl,hz⟩:=I.tuple hx
    have hlen:=r.length
    exact truthy_tuple pl (by simp only[qW_];omega) ⟨H,I.tok _,by rw[pf r];exact q⟩
  · subst e'
    obtain⟨hz,hS,vs,r,m⟩:kvs.length<=sizeLine/\(p==sysModules)=false/\∃vs,KV kvs vs/\s.heap.DictOf (bO X.prog X.w) p vs:=I.hok p _ hx
    have hlen:kvs.length=vs.length:=Paired.length r
    exact wpAny_truthy_dict hS m (by omega) ⟨H,I.tok _,by rw[ve r];exact q⟩
 |_=>exact(show False from e).elim
def yV(ha:PE X a ta)(he:∀whole,isTrue a X.env whole=(do let v <-whole;standAt a.pos;holding [v] (truthy v))):
 PT X a (fun σ H Q=>ta σ H fun x H'=>∃k,DK X.K x H' k/\Q k H'):=by
 intro pins s σ H Q I h
 exact isTrue_plain (thn (ha pins s σ H _ I h) fun v s1 ⟨x,H1,I1,r1,q1⟩=>Fx pins s1 σ H1 x v Q I1 r1 q1) (he _)
def vO:OpR X (binaryOp .Add) (fun x y H Q=>∃i j,x= .str i/\y= .str j/\i.length+j.length<=sizeLine/\Q (.str (i++j)) H):=by
 intro pins s σ H x y v u Q I rx ry h
 obtain⟨i,j,rfl,rfl,hz,q⟩:=h
 obtain⟨t,rfl⟩:=rx
 obtain⟨t',rfl⟩:=ry
 exact add_str (fun t' tk=>⟨.str (i++j),H,I.tok _,⟨_,rfl⟩,q⟩) hz
def vals1{x:V}{us:List Value}(r:Vals [x] us):∃u,us=[u]/\RelV x u:=by
 cases r with
 |cons r1 r2=>cases r2;exact⟨_,rfl,r1⟩
def vals2{x y:V}{us:List Value}(r:Vals [x,y] us):∃u w',us=[u,w']/\RelV x u/\RelV y w':=by
 cases r with
 |cons r1 r2=>
  cases r2 with
  |cons r3 r4=>cases r4;exact⟨_,_,rfl,r1,r3⟩
def yE(hc:X.calm=true):fS X (.builtin "max") (fun xs H Q=>∃i j,xs=[.int i,.int j]/\Q (.int (if j > i then j else i)) H):=by
 intro pins s σ H xs us Q I r h
 obtain⟨i,j,rfl,q⟩:=h
 obtain⟨u,w',rfl,⟨t,rfl⟩,⟨t',rfl⟩⟩:=vals2 r
 refine max_two_ints (I.ok.hd hc) fun h' tk k=>⟨_,H,I.kept k,?_,q⟩
 by_cases hj:j > i
 · rw[if_pos hj,if_pos hj];exact⟨_,rfl⟩
 · rw[if_neg hj,if_neg hj];exact⟨_,rfl⟩
def yu:fS X (.type "int") (fun xs H Q=>(∃i,xs=[.int i]/\Q (.int i) H)\/∃k,xs=[.bl k]/\Q (.int (if k then 1 else 0)) H):=by
 intro pins s σ H xs us Q I r h
 rcases h with ⟨i,rfl,q⟩ |⟨k,rfl,q⟩
 · obtain⟨u,rfl,t,rfl⟩:=vals1 r
   exact call_int_int ⟨.int i,H,I,⟨_,rfl⟩,q⟩
 · obtain⟨u,rfl,r1⟩:=vals1 r
   cases r1
   exact call_int_bool ⟨.int (if k then 1 else 0),H,I.tok _,⟨_,rfl⟩,q⟩
def HD(K:PySem.W.Frag)(x:V)(H:Hp)(n:Nat):Prop:=
 match x with
 | .str y=>y.length<=sizeLine/\n=y.length
 | .byt y=>y.size<=sizeLine/\n=y.size
 | .ref p=>(∃xs,SqL K H p xs/\n=xs.length)\/∃xs,SqT K H p xs/\n=xs.length
 |_=>False
def zB:fS X (.builtin "len") (fun xs H Q=>∃x n,xs=[x]/\HD X.K x H n/\Q (.int n) H):=by
 intro pins s σ H xs us Q I r h
 obtain⟨x,n,rfl,e,q⟩:=h
 obtain⟨u,rfl,rx⟩:=vals1 r
 have hl:=oP
 have hs:sizeLine=16777216:=sizeLine_eq
 cases x with
 |str y=>
  obtain⟨t,rfl⟩:=rx
  obtain⟨hy,e'⟩:y.length<=sizeLine/\n=y.length:=e
  subst e'
  exact len_str (by omega) ⟨.int _,H,I.tok _,⟨_,rfl⟩,q⟩
 |byt y=>
  obtain⟨t,rfl⟩:=rx
  obtain⟨hy,e'⟩:y.size<=sizeLine/\n=y.size:=e
  subst e'
  exact PySem.W.len_bytes (by omega) ⟨.int _,H,I.tok _,⟨_,rfl⟩,q⟩
 |ref p=>
  cases rx
  have e':(∃xs,SqL X.K H p xs/\n=xs.length)\/∃xs,SqT X.K H p xs/\n=xs.length:=e
  rcases e' with ⟨xs,hx,e'⟩ |⟨xs,hx,e'⟩
  · subst e'
    obtain⟨its,r',pl,hz⟩:=I.list hx
    have hlen:=r'.length
    exact Calls.call_len_list pl.isList (by simp only[qW_];omega) ⟨.int xs.length,H,I.tok _,⟨_,by simp only[qW_];rw[hlen]⟩,q⟩
  · subst e'
    obtain⟨its,r',pl,hz⟩:=I.tuple hx
    have hlen:=r'.length
    exact len_tuple pl (by simp only[qW_];omega) ⟨.int xs.length,H,I.tok _,⟨_,by simp only[qW_];rw[hlen]⟩,q⟩
 |_=>exact(show False from e).elim
end
structure vZ (h:Heap) (x dx C:Addr) (mA:Str->Option Value):Prop where
 obj:h.get? x=some (PySem.W.instObj C dx)
 ns:h.Ns1 dx mA
 ne:dx≠x
def xr{h:Heap}{dx:Addr}{mA:Str->Option Value}(n:h.Ns1 dx mA):∃od,h.get? dx=some od/\∀name,PySem.W.lookIn name od=some (mA name):=by
 obtain⟨o,es,ep,ho,hd,hk,_,hm⟩:=n
 refine⟨o,ho,fun name=>?_⟩
 have e:=hm name
 unfold nsFind findBy at e
 rw[<-Array.find?_toList]at e
 unfold PySem.W.lookIn
 rw[hd]
 dsimp only
 split
 · rename_i y q
   rw[q]at e
   exact congrArg some e
 · rename_i q
   rw[q]at e
   have a:es.toList.any (·.refKey)=false:=by
    rw[List.any_eq_false]
    intro y hy
    obtain⟨z,t,hkey⟩:=hk y (Array.mem_toList_iff.mp hy)
    simp [DictEntry.refKey,hkey]
   have a':¬es.toList.any (·.refKey)=true:=by rw[a];exact qC_
   rw[if_neg a']
   exact congrArg some e
def vZ.look{h:Heap}{x dx C:Addr}{mA:Str->Option Value}(I:vZ h x dx C mA):∃od,PySem.W.InstAt h x (PySem.W.instObj C dx) C (some od)/\∀name,PySem.W.lookIn name od=some (mA name):=
 let ⟨od,ho,hl⟩:=xr I.ns
 ⟨od,⟨I.obj,rfl,rfl,ho⟩,hl⟩
section
variable{prog:Program}{w:World}{A:Around}{E:Value->Shared->Prop}{s:Shared}{K:PySem.W.Frag}{x dx C f:Addr}{mA:Str->Option Value}{name:Str}{v:Value}
def get_map{expr:Bool}{Q:Value->Shared->Prop}(X:K.In s.heap)(I:vZ s.heap x dx C mA)(hg:PySem.W.plainGet K C name=true)(hh:PySem.W.hasDictIn K C=true)
 (ha:PySem.W.findIn K (.ref C) name=some none) (hv:mA name=some v) (hv':PySem.W.handedIn v=true) (h:Q v {s with toks:=s.toks+1}):
 wpAny (model prog w) A (getAttr (.ref x) name expr) Q E s:=by
 obtain⟨od,J,hl⟩:=I.look
 exact PySem.W.get_value X J (PySem.W.plainGet_of hg).1 (PySem.W.findObj_own hh ha rfl (by rw[hl,hv])) hv' h
def Ag{pl:Sem Bool}{Q:Value×List Value->Shared->Prop}(X:K.In s.heap)(I:vZ s.heap x dx C mA)(hg:PySem.W.plainGet K C name=true)
 (hf:PySem.W.findIn K (.ref C) name=some (some (.ref f))) (ht:PySem.W.isFn K (.ref f)=true) (hv:mA name=none) (h:Q (.ref f,[.ref x]) s):
 wpAny (model prog w) A (getMethod (.ref x) name pl) Q E s:=by
 obtain⟨od,J,hl⟩:=I.look
 exact PySem.W.method_fn X J (PySem.W.plainGet_of hg).1 (PySem.W.plainGet_of hg).2 hf (beq_iff_eq.mp ht) (by show (PySem.W.lookIn name od).map (·.isSome)=some false;rw[hl,hv];rfl) h
def Cm{ns:List Str}{Q:Unit->Shared->Prop}(X:K.In s.heap)(I:vZ s.heap x dx C mA)
 (hs:PySem.W.findIn K (.ref C) "__setattr__"=some (some (.builtin "object.__setattr__"))) (hp:PySem.W.plainOver K C=true) (ht:PySem.W.takerIn K C name=some none) (hh:PySem.W.hasDictIn K C=true)
 (hw:PySem.Within mA ns) (hsz:ns.length<=sizeLine)
 (h:∀h',vZ h' x dx C (fun y=>if y=name then some v else mA y)->Heap.SameBut dx s.heap h'->Q () {s with heap:=h',toks:=s.toks+2}):
 wpAny (model prog w) A (setAttr (.ref x) name v) Q E s:=by
 obtain⟨od,J,hl⟩:=I.look
 refine PySem.W.set_plain X J hs (PySem.W.osa_open (s:={s with toks:=s.toks+1}) (r:=none) X J hp ht fun b=>?_)
 obtain⟨cd,hc,hd'⟩:=PySem.W.any_some hh
 have hx:s.heap.get? x=some ⟨.ref C,some dx,.plain,#[]⟩:=I.obj
 refine wpAny_bind (wpAny_pure (wpAny_bind (wpAny_bind (wpAny_loadPart hx (wpAny_bind (PySem.W.Looks.here (s:={s with toks:=s.toks+1}) (PySem.W.looks_clsIn X hc) ?_))))))
 rw[hd']
 refine wpAny_pure (a:=some dx) (wpAny_bind (wpAny_pure (wpAny_bind ?_)))
 refine wpAny_nsSet1 (s:={s with toks:=s.toks+1}) I.ns fun h' hn2 hs2=>?_
 obtain⟨oD,esD,epD,hoD,hdD,hcD⟩:=hn2.count (PySem.Within.cons name v hw)
 refine wpAny_bind (wpAny_lookBehind hoD (by rw[hdD];exact pastItsLine_dict (Nat.le_trans hcD (by rw[List.length_cons];omega))) ?_)
 exact wpAny_pure (h _ ⟨(hs2.2 _ (Ne.symm I.ne)).trans I.obj,hn2,I.ne⟩ hs2)
def zl{R:Result->Shared->Prop}{vs:List Value}{kw:List (Str×Value)}(X:K.In s.heap)(hm:PySem.W.makesIn K C=true)
 (hi:PySem.W.findIn K (.ref C) "__init__"=some (some (.ref f))) (hf:PySem.W.typeIn K (.ref f)=some (.type "function"))
 (h:codeAny (model prog w) (A.under (.builtin "type.__call__" ⟨.ref C :: vs,kw⟩)) (.call (.ref f) ⟨.ref (s.heap.objs.size+1) :: vs,kw⟩) (PySem.W.InitBack (s.heap.objs.size+1) R)
   {s with heap:=(s.heap.push PySem.W.emptyDict).push (PySem.W.instObj C s.heap.objs.size)}):
 codeAny (model prog w) A (.call (.ref C) ⟨vs,kw⟩) R s:=by
 obtain⟨hh,g,d,t,os⟩:=s
 exact PySem.W.make_core (PySem.W.makes_of X hm) (PySem.W.looks_findIn X hi) (fun self=>PySem.W.bind_fn X self hf) (.inl rfl) h
end
def iC(f:Str)(v:V):List (Str×V)->List (Str×V)
 | []=>[(f,v)]
 |(g,x) :: r=>if g=f then (g,v) :: r else (g,x) :: iC f v r
theorem nH(f g:Str)(v:V):∀fs:List (Str×V),(iC f v fs).lookup g=if g=f then some v else fs.lookup g
 | []=>by
   show List.lookup g [(f,v)]=_
   by_cases h:g=f
   · have hb:(g==f)=true:=beq_iff_eq.mpr h
     simp only[List.lookup,hb,if_pos h]
   · have hb:(g==f)=false:=beq_eq_false_iff_ne.mpr h
     simp only[List.lookup,hb,if_neg h]
 |(k,x) :: r=>by
  have ih:=nH f g v r
  rw[show iC f v ((k,x) :: r)=(if k=f then (k,v) :: r else (k,x) :: iC f v r)from rfl]
  by_cases hk:k=f
  · rw[if_pos hk]
    by_cases h:g=k
    · have hb:(g==k)=true:=beq_iff_eq.mpr h
      simp only[List.lookup,hb,if_pos (h.trans hk)]
    · have hb:(g==k)=false:=beq_eq_false_iff_ne.mpr h
      simp only[List.lookup,hb,if_neg (fun e:g=f=>h (e.trans hk.symm))]
  · rw[if_neg hk]
    by_cases h:g=k
    · have hb:(g==k)=true:=beq_iff_eq.mpr h
      simp only[List.lookup,hb,if_neg (fun e:g=f=>hk (h.symm.trans e))]
    · have hb:(g==k)=false:=beq_eq_false_iff_ne.mpr h
      simp only[List.lookup,hb]
      exact ih
theorem mO(f:Str)(v:V):∀fs:List (Str×V),f∈(iC f v fs).map (·.1)/\∀g,g∈fs.map (·.1)->g∈(iC f v fs).map (·.1)
 | []=>⟨by simp [iC],fun g h=>by simp at h⟩
 |(k,x) :: r=>by
  obtain⟨i1,i2⟩:=mO f v r
  rw[show iC f v ((k,x) :: r)=(if k=f then (k,v) :: r else (k,x) :: iC f v r)from rfl]
  by_cases hk:k=f
  · rw[if_pos hk]
    subst hk
    exact⟨by simp,fun g h=>by simpa using h⟩
  · rw[if_neg hk]
    refine⟨?_,fun g h=>?_⟩
    · rw[List.map_cons]
      exact qR_ _ i1
    · rw[List.map_cons]at h ⊢
      rcases qS_.mp h with e |e
      · exact qS_.mpr (.inl e)
      · exact qR_ _ (i2 g e)
theorem nO(f:Str)(v:V):∀fs:List (Str×V),(iC f v fs).length<=fs.length+1
 | []=>by simp [iC]
 |(k,x) :: r=>by
  have ih:=nO f v r
  rw[show iC f v ((k,x) :: r)=(if k=f then (k,v) :: r else (k,x) :: iC f v r)from rfl]
  by_cases hk:k=f
  · rw[if_pos hk,List.length_cons,List.length_cons];omega
  · rw[if_neg hk,List.length_cons,List.length_cons];omega
def kR.some_of{v:V}{o:Option Value}(r:kR (some v) o):∃u,o=some u/\RelV v u:=by
 cases o with
 |none=>exact(show False from r).elim
 |some u=>exact⟨u,rfl,r⟩
def kR.none_of{o:Option Value}(r:kR none o):o=none:=by
 cases o with
 |none=>rfl
 |some u=>exact(show False from r).elim
def xO{v:V}{u:Value}(r:RelV v u):PySem.W.handedIn u=true:=by
 cases v with
 |non=>cases (show u=Value.none from r);rfl
 |bl b=>cases (show u=Value.bool b from r);rfl
 |int i=>obtain⟨t,e⟩:=(show ∃t,u=Value.int i t from r);cases e;rfl
 |str x=>obtain⟨t,e⟩:=(show ∃t,u=Value.str x t from r);cases e;rfl
 |byt b=>obtain⟨t,e⟩:=(show ∃t,u=Value.bytes b t from r);cases e;rfl
 |flt b=>obtain⟨t,e⟩:=(show ∃t,u=Value.float b t from r);cases e;rfl
 |ref a=>cases (show u=Value.ref a from r);rfl
 |ty n=>cases (show u=Value.type n from r);rfl
section
variable{P:Program}{w:World}{H H':Hp}{h h':Heap}{a C dx:Addr}{fs fs':List (Str×V)}
def rN(hok:HOk P w H h)(e:H a=some (.ins C dx fs)):∃mA,vZ h a dx C mA/\(∀f,kR (fs.lookup f) (mA f))/\PySem.Within mA (fs.map (·.1))/\fs.length<=1000/\H dx=some (.own a):=by
 obtain⟨d,z,ne,ob,mA,n,r,q⟩:=(show bR P w H h a (.ins C dx fs)from hok a _ e)
 exact⟨mA,⟨ob,n,ne⟩,r,q,z,d⟩
end
structure Cls (K:PySem.W.Frag) (C:Addr):Prop where
 pg:PySem.W.plainGet K C Str.empty=true
 hd:PySem.W.hasDictIn K C=true
 po:PySem.W.plainOver K C=true
 sa:PySem.W.findIn K (.ref C) "__setattr__"=some (some (.builtin "object.__setattr__"))
def Cls.get{K:PySem.W.Frag}{C:Addr}(c:Cls K C)(f:Str):PySem.W.plainGet K C f=true:=c.pg
def iE(K:PySem.W.Frag)(C:Addr)(f:Str):Prop:=PySem.W.findIn K (.ref C) f=some none
def iE.Hf{K:PySem.W.Frag}{C:Addr}{f:Str}(n:iE K C f):PySem.W.takerIn K C f=some none:=by
 unfold PySem.W.takerIn
 rw[show PySem.W.findIn K (.ref C) f=some none from n]
 rfl
structure Meth (K:PySem.W.Frag) (C:Addr) (m:Str) (f:Addr):Prop where
 at_:PySem.W.findIn K (.ref C) m=some (some (.ref f))
 fn:PySem.W.isFn K (.ref f)=true
 kp:PySem.W.keepIn K (.ref f)=true
section
variable{X:Cx}{pins:List (Addr×Obj)}{σ:St}{H:Hp}{s:Shared}{a C dx:Addr}{fs:List (Str×V)}{f:Str}{v:V}{A:Around}{E:Value->Shared->Prop}
def vx{b:Bool}{Q:Value->Shared->Prop}(I:Inv X pins σ H s)(e:H a=some (.ins C dx fs))(c:Cls X.K C)(n:iE X.K C f)(l:fs.lookup f=some v)
 (h:∀u s',Inv X pins σ H s'->RelV v u->Q u s'):wpAny (model X.prog X.w) A (getAttr (.ref a) f b) Q E s:=by
 obtain⟨mA,O,r,_,_,_⟩:=rN I.hok e
 obtain⟨u,hu,ru⟩:=kR.some_of (v:=v) (o:=mA f) (by rw[<-l];exact r f)
 exact get_map I.kIn O (c.get f) c.hd n hu (xO ru) (h u _ (I.tok _) ru)
def lI{m:Str}{g:Addr}{pl:Sem Bool}{Q:Value×List Value->Shared->Prop}(I:Inv X pins σ H s)(e:H a=some (.ins C dx fs))(c:Cls X.K C)(k:Meth X.K C m g)(l:fs.lookup m=none)
 (h:Q (.ref g,[.ref a]) s):wpAny (model X.prog X.w) A (getMethod (.ref a) m pl) Q E s:=by
 obtain⟨mA,O,r,_,_,_⟩:=rN I.hok e
 have hn:mA m=none:=kR.none_of (by rw[<-l];exact r m)
 exact Ag I.kIn O (c.get m) k.at_ k.fn hn h
def wg{y:V}{u:Value}{Q:Unit->Shared->Prop}(I:Inv X pins σ H s)(e:H a=some (.ins C dx fs))(c:Cls X.K C)(n:iE X.K C f)(hl:fs.length < 1000)(ry:RelV y u)
 (h:∀s',Inv X pins σ (upd H a (.ins C dx (iC f y fs))) s'->Q () s'):wpAny (model X.prog X.w) A (setAttr (.ref a) f u) Q E s:=by
 obtain⟨mA,O,r,wi,_,ho⟩:=rN I.hok e
 have hz:(fs.map (·.1)).length<=sizeLine:=by rw[qM_,sizeLine_eq];omega
 refine Cm I.kIn O c.sa c.po n.Hf c.hd wi hz fun h' O' sb=>h _ ?_
 have hd:∃o,h'.get? dx=some o:=let ⟨o,_,_,e',_⟩:=O'.ns;⟨o,e'⟩
 refine I.write (x:=a) (e:=dx) (by rw[e];exact True.intro) (.inr ho) (fun b q hb z=>(sb.2 b hb).trans z) hd ?_
 refine⟨by rw[aI O.ne];exact ho,?_,O.ne,O'.obj,_,O'.ns,fun g=>?_,fun g hg=>?_⟩
 · have:=nO f y fs;omega
 · show kR ((iC f y fs).lookup g) (if g=f then some u else mA g)
   rw[nH]
   by_cases q:g=f
   · rw[if_pos q,if_pos q];exact ry
   · rw[if_neg q,if_neg q];exact r g
 · by_cases q:g=f
   · rw[q];exact(mO f y fs).1
   · refine(mO f y fs).2 g (wi g fun z=>hg ?_)
     show (if g=f then some u else mA g)=none
     rw[if_neg q];exact z
def Inv.made(I:Inv X pins σ H s):Inv X pins σ (upd (upd H s.heap.objs.size (.own (s.heap.objs.size+1))) (s.heap.objs.size+1) (.ins C s.heap.objs.size []))
 {s with heap:=(s.heap.push PySem.W.emptyDict).push (PySem.W.instObj C s.heap.objs.size)}:=by
 have e1:(s.heap.push PySem.W.emptyDict).get? s.heap.objs.size=some PySem.W.emptyDict:=Heap.get?_push_size s.heap rfl
 have e2:((s.heap.push PySem.W.emptyDict).push (PySem.W.instObj C s.heap.objs.size)).get? (s.heap.objs.size+1)=some (PySem.W.instObj C s.heap.objs.size):=by
  have:=Heap.get?_push_size (s.heap.push PySem.W.emptyDict) (o:=PySem.W.instObj C s.heap.objs.size) rfl
  rwa [Heap.size_push]at this
 have e3:(s.heap.push PySem.W.emptyDict).Ns s.heap.objs.size (fun _=>none):=⟨PySem.W.emptyDict,#[],_,e1,rfl,(fun e he=>absurd he (by simp)),fun _=>rfl⟩
 have I1:=I.laid (a:=s.heap.objs.size) (o:= .own (s.heap.objs.size+1)) (h':=s.heap.push PySem.W.emptyDict) (t':=s.toks) (fun b u q=>Heap.get?_push_of_some _ q) (qO_ _) ⟨_,e1⟩
 refine I1.laid (a:=s.heap.objs.size+1) (o:= .ins C s.heap.objs.size []) (t':=s.toks) (fun b u q=>Heap.get?_push_of_some _ q) (Nat.le_of_eq (Heap.size_push _ _)) ?_
 have ne:s.heap.objs.size≠s.heap.objs.size+1:=Nat.ne_of_lt (Nat.lt_succ_self _)
 refine⟨by rw[aI ne,aK],qf_ _,ne,e2,fun _=>none,(Heap.Ns1.of_empty e3).at fun o q=>Heap.get?_push_of_some _ q,fun _=>True.intro,fun y hy=>absurd rfl hy⟩
def B5{prog:Program}{w:World}{env:Env}{e:Expr}{f:Str}{pos:Pos}{s:Shared}{Q:Value->Shared->Prop}(hb:attributeBase e f env (eval e env)=eval e env)
 (h:wpAny (model prog w) A (eval e env) (fun o s₁=>wpAny (model prog w) A (getAttr o f true) Q E s₁) E s):wpAny (model prog w) A (eval (.Attribute e f pos) env) Q E s:=
 Attribute_any_ h (by rw[arm_eval_Attribute,hb])
end
def Ja(K:PySem.W.Frag)(ta:TE)(f:Str):TE:=fun σ H Q=>ta σ H fun x H1=>∃a C dx fs v,x= .ref a/\H1 a=some (.ins C dx fs)/\Cls K C/\iE K C f/\fs.lookup f=some v/\Q v H1
def Il(K:PySem.W.Frag)(ta tv:TE)(f:Str):TS:=fun D σ H=>tv σ H fun y H1=>ta σ H1 fun x H2=>∃a C dx fs,x= .ref a/\H2 a=some (.ins C dx fs)/\Cls K C/\iE K C f/\fs.length < 1000/\
 D.nx σ (upd H2 a (.ins C dx (iC f y fs)))
section
variable{X:Cx}{o e value:Expr}{f:Str}{pos pos' tpos:Pos}{ta tv:TE}
def F1(he:PE X e ta)(hb:attributeBase e f X.env (eval e X.env)=eval e X.env):PE X (.Attribute e f pos) (Ja X.K ta f):=by
 intro pins s σ H Q I h
 refine B5 hb (thn (he pins s σ H _ I h) fun u s1 ⟨x,H1,I1,rx,a,C,dx,fs,v,ex,ea,c,n,l,q⟩=>?_)
 subst ex
 obtain rfl:u=Value.ref a:=rx
 exact vx I1 ea c n l fun u' s2 I2 ru=>⟨v,H1,I2,ru,q⟩
def Ec(ha:PE X o ta)(hv:PE X value tv)(hs:swapsWith value (some (.Attribute o f pos')) pos.line X.env=pure false):PS X (.Assign [.Attribute o f pos'] value pos) (Il X.K ta tv f):=by
 intro pins s σ H D I h
 refine plainObj_wpAny_Assign_Attribute (thn (hv pins s σ H _ I h) fun u s1 ⟨y,H1,I1,ry,q⟩=>thn (ha pins s1 σ H1 _ I1 q) fun ov s2 ⟨x,H2,I2,rx,a,C,dx,fs,ex,ea,c,n,l,q2⟩=>?_) hs
 subst ex
 obtain rfl:ov=Value.ref a:=rx
 exact wg I2 ea c n l ry fun s3 I3=>⟨σ,_,I3,q2⟩
end
structure dq (k:Nat) (A:Around):Prop where
 hd:A.handled=none
 dp:A.depth+3*k+5 < recursionLimit
 un:A.units+16*k+200 < cLine
def dq.mono{j k:Nat}{A:Around}(r:dq k A)(h:j<=k):dq j A:=⟨r.hd,by have:=r.dp;omega,by have:=r.un;omega⟩
theorem dq.deeper{k:Nat}{A:Around}(r:dq (k+1) A)(env:Env):dq k (A.deeper env):=
 ⟨r.hd,by have:=r.dp;show A.depth+1+3*k+5 < _;omega,by have:=r.un;show A.units+3+16*k+200 < _;omega⟩
def wc{A:Around}{C:Addr}{us:List Value}{kw:List (Str×Value)}:(A.under (.builtin "type.__call__" ⟨.ref C :: us,kw⟩)).depth=A.depth+1:=by
 first |rfl |simp [Around.under,Code.weight,Code.isCreation,Code.isGuard,Code.isCaller,Code.frames,Code.isFrame,guardIds]
def uY{A:Around}{C:Addr}{us:List Value}{kw:List (Str×Value)}:(A.under (.builtin "type.__call__" ⟨.ref C :: us,kw⟩)).units=A.units+1:=by
 first |rfl |simp [Around.under,Code.cUnits,Code.frames,Code.isFrame]
def dq.make{k:Nat}{A:Around}(r:dq (k+1) A)(C:Addr)(us:List Value)(kw:List (Str×Value)):dq k (A.under (.builtin "type.__call__" ⟨.ref C :: us,kw⟩)):=
 ⟨r.hd,by have:=r.dp;rw[wc];omega,by have:=r.un;rw[uY];omega⟩
theorem dq.depth{k:Nat}{A:Around}(r:dq k A):A.depth < recursionLimit:=by have:=r.dp;omega
theorem dq.units{k:Nat}{A:Around}(r:dq k A):A.units+64 < cLine:=by have:=r.un;omega
def DH:TA:=fun _ H Q=>Q [] H
def Hw(ta:TE)(tr:TA):TA:=fun σ H Q=>ta σ H fun x H1=>tr σ H1 fun xs H2=>Q (x :: xs) H2
section
variable{X:Cx}{e:Expr}{es:List Expr}{te:TE}{t:TA}{pos:Pos}
def lx:PA X [] DH:=fun _ _ _ _ H Q I h=>Calls.spliced_nil ⟨[],H,I,.nil,h⟩
def gY(ha:PE X e te)(hr:PA X es t)(hs:starEach (e :: es) X.env=(false,eval e X.env) :: starEach es X.env:=by rfl):PA X (e :: es) (Hw te t):=by
 intro pos pins s σ H Q I h
 rw[hs]
 show wpAny _ _ (spliced ((false,eval e X.env) :: backTo pos (starEach es X.env))) _ _ s
 refine Calls.spliced_cons (thn (ha pins s σ H _ I h) fun u s1 ⟨x,H1,I1,r1,q1⟩=>?_)
 exact thn (hr pos pins s1 σ H1 _ I1 q1) fun us s2 ⟨xs,H2,I2,r2,q2⟩=>⟨x :: xs,H2,I2,.cons r1 r2,q2⟩
def Iq(t:TA):TE:=fun σ H Q=>t σ H fun xs H1=>xs.length<=sizeLine/\∀p,H1 p=none->Q (.ref p) (upd H1 p (.tup xs))
def Im(t:TA):TE:=fun σ H Q=>t σ H fun xs H1=>xs.length<=sizeLine/\∀p,H1 p=none->Q (.ref p) (upd H1 p (.lst xs))
def F4{x1}(h:PA X es t):PE X (.Tuple es x1 pos) (Iq t):=by
 intro pins s σ H Q I hq
 refine wpAny_Tuple_spliced (thn (h pos pins s σ H _ I hq) fun us s1 ⟨xs,H1,I1,r,z,q⟩=>⟨by rw[<-r.length];exact z,?_⟩)
 have hf:H1 s1.heap.objs.size=none:=I1.hok.fresh (qO_ _)
 refine⟨.ref s1.heap.objs.size,upd H1 s1.heap.objs.size (.tup xs),I1.laid (t':=s1.toks) (fun b u e=>Heap.get?_push_of_some _ e) (qO_ _) ?_,rfl,q _ hf⟩
 exact⟨z,us,r,⟨_,Heap.get?_push_size _ rfl,rfl,_,rfl⟩⟩
def D4(h:PA X es t):PE X (.List es pos) (Im t):=by
 intro pins s σ H Q I hq
 refine wpAny_List_spliced (thn (h pos pins s σ H _ I hq) fun us s1 ⟨xs,H1,I1,r,z,q⟩=>⟨by rw[<-r.length];exact z,?_⟩)
 have hf:H1 s1.heap.objs.size=none:=I1.hok.fresh (qO_ _)
 refine⟨.ref s1.heap.objs.size,upd H1 s1.heap.objs.size (.lst xs),I1.laid (t':=s1.toks) (fun b u e=>Heap.get?_push_of_some _ e) (qO_ _) ?_,rfl,q _ hf⟩
 exact⟨z,us,0,r,Heap.get?_push_size _ rfl⟩
end
abbrev Sp:=List V->Hp->VK->XK->Prop
abbrev CXT:=List Env->Hp->Shared->XK->Value->Shared->Prop
structure vL (P:Program) (w:World) (K:PySem.W.Frag) (mg:Str->Option Value) (base:Heap) (A:Around) (outer:List Env) (s:Shared) (H:Hp):Prop where
 frames:A.frames=some outer
 mod:Mod K mg base
 bs:∀b o,base.get? b=some o->s.heap.get? b=some o/\H b=none
 bsz:base.objs.size<=s.heap.objs.size
 mf:s.heap.FunFrames base outer
 frf:∀b∈frs outer,H b=none
 hok:HOk P w H s.heap
 bare:AllBare s.gens
def CE(outer:List Env)(P:Program)(w:World)(H:Hp)(s:Shared)(Q:VK)(u:Value)(s':Shared):Prop:=
 ∃v H',s'.os=s.os/\AllBare s'.gens/\Un (frs outer) [] H H' s.heap s'.heap/\HOk P w H' s'.heap/\RelV v u/\Q v H'
def CR(CX:CXT)(outer:List Env)(P:Program)(w:World)(H:Hp)(s:Shared)(Q:VK)(E:XK)(r:Result)(s':Shared):Prop:=
 match r with
 | .ok (.ret u)=>CE outer P w H s Q u s'
 | .ok _=>False
 | .error e=>CX outer H s E e s'
structure aT (P:Program) (w:World) (K:PySem.W.Frag) (mg:Str->Option Value) (base:Heap) (CX:CXT) (k:Nat) (f:Addr) (fd:FuncData) (ps:List Str) (sp:Sp):Prop where
 len:∀vs H Q E,sp vs H Q E->vs.length=ps.length
 run:∀(A:Around) (outer:List Env) (s:Shared) (H:Hp) (args:Args) (us:List Value) (vs:List V) (Q:VK) (E:XK),dq k A->vL P w K mg base A outer s H->BindsTo s fd args (ps.zip us)->Vals vs us->sp vs H Q E->
  codeAny (model P w) A (.call (.ref f) args) (CR CX outer P w H s Q E) s
def aT.imp{P:Program}{w:World}{K:PySem.W.Frag}{mg:Str->Option Value}{base:Heap}{CX:CXT}{k:Nat}{f:Addr}{fd:FuncData}{ps:List Str}{sp sp':Sp}(F:aT P w K mg base CX k f fd ps sp)
 (h:∀vs H Q E,sp' vs H Q E->sp vs H Q E):aT P w K mg base CX k f fd ps sp':=
 ⟨fun vs H Q E q=>F.len vs H Q E (h _ _ _ _ q),fun A outer s H args us vs Q E hr he hb hv hs=>F.run A outer s H args us vs Q E hr he hb hv (h _ _ _ _ hs)⟩
def vL.make{P:Program}{w:World}{K:PySem.W.Frag}{mg:Str->Option Value}{base:Heap}{A:Around}{outer:List Env}{s:Shared}{H:Hp}(e:vL P w K mg base A outer s H)(C:Addr)(us:List Value)(kw:List (Str×Value)):
 vL P w K mg base (A.under (.builtin "type.__call__" ⟨.ref C :: us,kw⟩)) outer s H:=⟨by first |exact e.frames |(simpa [Around.under,Code.envs,Code.isFrame,pushEnvs] using e.frames),e.mod,e.bs,e.bsz,e.mf,e.frf,e.hok,e.bare⟩
section
variable{X:Cx}{pins:List (Addr×Obj)}{σ:St}{H:Hp}{s s':Shared}
def Inv.Ed(I:Inv X pins σ H s):vL X.prog X.w X.K X.mg X.base X.A X.stack s H:=
 ⟨I.ok.frames,I.ok.mod,I.bs,Nat.le_trans I.ok.bsz I.sz,I.stack,I.oz,I.hok,I.bare⟩
def Inv.after{Q:VK}{u:Value}(I:Inv X pins σ H s)(h:CE X.stack X.prog X.w H s Q u s'):EP X pins σ Q u s':=by
 obtain⟨v,H',os,bare,un,hok,r,q⟩:=h
 obtain⟨hh,g,d,t,os'⟩:=s'
 obtain rfl:os'=s.os:=os
 exact⟨v,H',I.call (h':=hh) (g':=g) (d':=d) (t':=t) (ch:=[]) un hok bare (fun b z=>absurd z (by simp)),r,q⟩
end
def GP(sp:Sp)(dvs:List V)(E:XK)(t:TA):TE:=fun σ H Q=>t σ H fun vs H1=>sp (vs++dvs) H1 Q E
def zW(C:Addr)(m:Str)(sp:Sp)(dvs:List V)(E:XK)(ta:TE)(t:TA):TE:=fun σ H Q=>ta σ H fun x H1=>∃a dx fs,x= .ref a/\H1 a=some (.ins C dx fs)/\fs.lookup m=none/\
 t σ H1 fun vs H2=>sp (x :: (vs++dvs)) H2 Q E
def Dq(C:Addr)(sp:Sp)(dvs:List V)(E:XK)(t:TA):TE:=fun σ H Q=>t σ H fun vs H1=>∀x dx,H1 x=none->H1 dx=none->dx≠x->
 sp (.ref x :: (vs++dvs)) (upd (upd H1 dx (.own x)) x (.ins C dx [])) (fun v H2=>v= .non/\Q (.ref x) H2) E
def Binds(K:PySem.W.Frag)(fd:FuncData)(ps:List Str)(ds:List Value):Prop:=
 ∀(s:Shared) (us:List Value),K.In s.heap->(us++ds).length=ps.length->BindsTo s fd ⟨us,[]⟩ (ps.zip (us++ds))
def Binds.all{K:PySem.W.Frag}{fd:FuncData}{ps:List Str}(h:∀us:List Value,us.length=ps.length->bindArgs fd ⟨us,[]⟩=pure (ps.zip us)):Binds K fd ps []:=fun s us _ hl=>by
 rw[qY_]at hl ⊢
 exact .of_eq (h us hl)
def eQ(CX:CXT)(X:Cx)(E:XK):Prop:=∀(pins:List (Addr×Obj)) (σ:St) (H:Hp) (s:Shared) (e:Value) (s':Shared),Inv X pins σ H s->CX X.stack H s E e s'->X.xe e s'
section
variable{X:Cx}{CX:CXT}{k:Nat}{f C:Addr}{fd:FuncData}{ps:List Str}{sp:Sp}{dvs:List V}{ds:List Value}{E:XK}{x m:Str}{p pos apos:Pos}{e o:Expr}{es:List Expr}{ta:TE}{t:TA}
def vn{pins:List (Addr×Obj)}{σ:St}{H:Hp}{s:Shared}{Q:VK}{us:List Value}{vs:List V}(F:aT X.prog X.w X.K X.mg X.base CX k f fd ps sp)(hr:dq k X.A)(hb:Binds X.K fd ps ds)(hd:Vals dvs ds)(hx:eQ CX X E)
 (I:Inv X pins σ H s) (r:Vals vs us) (h:sp (vs++dvs) H Q E):wpAny (model X.prog X.w) X.A (call (.ref f) us) (EP X pins σ Q) X.xe s:=by
 have r2:Vals (vs++dvs) (us++ds):=r.append hd
 have hl:(us++ds).length=ps.length:=by rw[<-r2.length];exact F.len _ _ _ _ h
 refine wpAny_call (codeAny_mono (F.run X.A X.stack s H ⟨us,[]⟩ (us++ds) (vs++dvs) Q E hr I.Ed (hb s us I.kIn hl) r2 h) fun r s' hq=>?_)
 cases r with
 |error e=>exact hx pins σ H s e s' I hq
 |ok fl=>
  cases fl with
  |ret u=>exact I.after hq
  |next=>exact False.elim hq
  |brk=>exact False.elim hq
  |cont=>exact False.elim hq
def BI(F:aT X.prog X.w X.K X.mg X.base CX k f fd ps sp)(hr:dq k X.A)(hg:Gl X x)(hm:X.mg x=some (.ref f))(hk:PySem.W.keepIn X.K (.ref f)=true)(hb:Binds X.K fd ps ds)(hd:Vals dvs ds)(hx:eQ CX X E)
 (ha:PA X (e :: es) t) (hdb:(x==("__debug__":Str))=false:=by decide) (he:starEach (e :: es) X.env=(false,eval e X.env) :: starEach es X.env:=by rfl) (hpl:(backTo pos (starEach es X.env)).any (·.1)=false:=by rfl):
 PE X (.Call (.Name x p) (e :: es) [] pos) (GP sp dvs E t):=by
 intro pins s σ H Q I h
 refine wpAny_Call_Name_kw (ku I hg hm ?_ hdb)
 refine PySem.W.callWith_K (h₀:=X.base) I.ok.mod.kin hk (thn (ha pos pins s σ H _ I h) fun us s1 ⟨vs,H1,I1,r,q⟩=>⟨I1.kIn,?_⟩) he hpl
 exact vn F hr hb hd hx I1 r q
def BS{pl:Sem Bool}(he:PE X o ta)(c:Cls X.K C)(hm:Meth X.K C m f)(F:aT X.prog X.w X.K X.mg X.base CX k f fd ps sp)(hr:dq k X.A)(hb:Binds X.K fd ps ds)(hd:Vals dvs ds)(hx:eQ CX X E)(ha:PA X (e :: es) t)
 (hst:starEach (e :: es) X.env=(false,eval e X.env) :: starEach es X.env:=by rfl) (hpl:(backTo pos (starEach es X.env)).any (·.1)=false:=by rfl)
 (ht:eval (.Call (.Attribute o m apos) (e :: es) [] pos) X.env=(do
   let ov <-eval o X.env
   standAt apos.atName
   let (f,first) <-holding [ov] (getMethod ov m pl)
   callWith pos f first (backTo pos (starEach (e :: es) X.env)) (backToKw pos (keywordEach [] X.env))):=by rfl):
 PE X (.Call (.Attribute o m apos) (e :: es) [] pos) (zW C m sp dvs E ta t):=by
 intro pins s σ H Q I h
 refine PySem.W.methodCall_KW (pl:=pl) (thn (he pins s σ H _ I h) fun u s1 ⟨x,H1,I1,rx,a,dx,fs,ex,ea,l,q⟩=>?_) ht
 subst ex
 obtain rfl:u=Value.ref a:=rx
 refine lI I1 ea c hm l ?_
 refine PySem.W.callWith_K (first:=[.ref a]) (h₀:=X.base) I.ok.mod.kin hm.kp (thn (ha pos pins s1 σ H1 _ I1 q) fun us s2 ⟨vs,H2,I2,r,q2⟩=>⟨I2.kIn,?_⟩) hst hpl
 exact vn (us:= .ref a :: us) (vs:= .ref a :: vs) F hr hb hd hx I2 (.cons rfl r) q2
def yT{pl:Sem Bool}(he:PE X o ta)(c:Cls X.K C)(hm:Meth X.K C m f)(F:aT X.prog X.w X.K X.mg X.base CX k f fd ps sp)(hr:dq k X.A)(hb:Binds X.K fd ps ds)(hd:Vals dvs ds)(hx:eQ CX X E)
 (ht:eval (.Call (.Attribute o m apos) [] [] pos) X.env=(do
   let ov <-eval o X.env
   standAt apos.atName
   let (f,first) <-holding [ov] (getMethod ov m pl)
   callWith pos f first (backTo pos (starEach [] X.env)) (backToKw pos (keywordEach [] X.env))):=by rfl):
 PE X (.Call (.Attribute o m apos) [] [] pos) (zW C m sp dvs E ta DH):=by
 intro pins s σ H Q I h
 refine PySem.W.methodCall_KW (pl:=pl) (thn (he pins s σ H _ I h) fun u s1 ⟨x,H1,I1,rx,a,dx,fs,ex,ea,l,q⟩=>?_) ht
 subst ex
 obtain rfl:u=Value.ref a:=rx
 refine lI I1 ea c hm l ?_
 exact PySem.W.callWith_K0 (first:=[.ref a]) I1.kIn hm.kp (vn (us:=[.ref a]) (vs:=[.ref a]) F hr hb hd hx I1 (.cons rfl .nil) q)
structure Mk (K:PySem.W.Frag) (C f:Addr):Prop where
 makes:PySem.W.makesIn K C=true
 init:PySem.W.findIn K (.ref C) "__init__"=some (some (.ref f))
 fn:PySem.W.isFn K (.ref f)=true
 kp:PySem.W.keepIn K (.ref C)=true
def tU{pins:List (Addr×Obj)}{σ:St}{H:Hp}{s:Shared}{Q:VK}{us:List Value}{vs:List V}(M:Mk X.K C f)(F:aT X.prog X.w X.K X.mg X.base CX k f fd ps sp)(hr:dq (k+1) X.A)(hb:Binds X.K fd ps ds)(hd:Vals dvs ds)
 (hx:eQ CX X E) (I:Inv X pins σ H s) (r:Vals vs us)
 (h:∀x dx,H x=none->H dx=none->dx≠x->sp (.ref x :: (vs++dvs)) (upd (upd H dx (.own x)) x (.ins C dx [])) (fun v H2=>v= .non/\Q (.ref x) H2) E):
 wpAny (model X.prog X.w) X.A (call (.ref C) us) (EP X pins σ Q) X.xe s:=by
 have hq:=h (s.heap.objs.size+1) s.heap.objs.size (I.hok.fresh (Nat.le_succ _)) (I.hok.fresh (qO_ _)) (Nat.ne_of_lt (Nat.lt_succ_self _))
 have I2:=Inv.made (C:=C) I
 have r2:Vals (V.ref (s.heap.objs.size+1) :: (vs++dvs)) (Value.ref (s.heap.objs.size+1) :: (us++ds)):= .cons rfl (r.append hd)
 have hl:(Value.ref (s.heap.objs.size+1) :: us++ds).length=ps.length:=by
  have e:=r2.length
  rw[F.len _ _ _ _ hq]at e
  exact e.symm
 refine wpAny_call (zl (f:=f) I.kIn M.makes M.init (beq_iff_eq.mp M.fn) (codeAny_mono (F.run _ X.stack _ _ ⟨Value.ref (s.heap.objs.size+1) :: us,[]⟩ (Value.ref (s.heap.objs.size+1) :: (us++ds)) _ _ E (hr.make C us [])
  (I2.Ed.make C us []) (hb _ (Value.ref (s.heap.objs.size+1) :: us) I2.kIn hl) r2 hq) fun r s' hq'=>?_))
 cases r with
 |error e=>exact hx pins σ _ _ e s' I2 hq'
 |ok fl=>
  cases fl with
  |ret u=>
   obtain⟨v,H',I3,rv,ev,q3⟩:=I2.after hq'
   subst ev
   exact⟨rv,⟨V.ref (s.heap.objs.size+1),H',I3,rfl,q3⟩⟩
  |next=>exact False.elim hq'
  |brk=>exact False.elim hq'
  |cont=>exact False.elim hq'
def Cd(M:Mk X.K C f)(F:aT X.prog X.w X.K X.mg X.base CX k f fd ps sp)(hr:dq (k+1) X.A)(hg:Gl X x)(hm:X.mg x=some (.ref C))(hb:Binds X.K fd ps ds)(hd:Vals dvs ds)(hx:eQ CX X E)
 (ha:PA X (e :: es) t) (hdb:(x==("__debug__":Str))=false:=by decide) (he:starEach (e :: es) X.env=(false,eval e X.env) :: starEach es X.env:=by rfl) (hpl:(backTo pos (starEach es X.env)).any (·.1)=false:=by rfl):
 PE X (.Call (.Name x p) (e :: es) [] pos) (Dq C sp dvs E t):=by
 intro pins s σ H Q I h
 refine wpAny_Call_Name_kw (ku I hg hm ?_ hdb)
 refine PySem.W.callWith_K (h₀:=X.base) I.ok.mod.kin M.kp (thn (ha pos pins s σ H _ I h) fun us s1 ⟨vs,H1,I1,r,q⟩=>⟨I1.kIn,?_⟩) he hpl
 exact tU M F hr hb hd hx I1 r q
def AB(M:Mk X.K C f)(F:aT X.prog X.w X.K X.mg X.base CX k f fd ps sp)(hr:dq (k+1) X.A)(hg:Gl X x)(hm:X.mg x=some (.ref C))(hb:Binds X.K fd ps ds)(hd:Vals dvs ds)(hx:eQ CX X E)
 (hdb:(x==("__debug__":Str))=false:=by decide):PE X (.Call (.Name x p) [] [] pos) (Dq C sp dvs E DH):=by
 intro pins s σ H Q I h
 refine wpAny_Call_Name_kw (ku I hg hm ?_ hdb)
 exact PySem.W.callWith_K0 I.kIn M.kp (tU (us:=[]) M F hr hb hd hx I .nil h)
end
structure av (N P:List Str) (sc:Scope):Prop where
 kind:sc.kind= .function
 co:sc.isCoroutine=false
 gen:sc.isGenerator=false
 nd:N.Nodup
 pre:N.take P.length=P
 par:∀x∈P,sc.names.lookup x=some .local\/sc.names.lookup x=some .cell
 E9:∀y∈sc.names,y.2≠.free
theorem rl{kindOf:Str->Option NameKind}{x:Str}:∀{binds:List (Str×Value)} {m:Str->Option Value},(∀v,(x,v)∉binds)->bindL kindOf binds m x=m x
 | [],_,_=>rfl
 |(n,v) :: r,m,h=>by
  unfold bindL
  rw[rl fun w hw=>h w (qR_ _ hw)]
  split
  · have:x≠n:=by rintro rfl;exact h v qI_
    simp [this]
  · rfl
theorem q9{kindOf:Str->Option NameKind}{x:Str}:∀{binds:List (Str×Value)} {m:Str->Option Value},(∀v,(x,v)∉binds)->bindC kindOf binds m x=m x
 | [],_,_=>rfl
 |(n,v) :: r,m,h=>by
  unfold bindC
  rw[q9 fun w hw=>h w (qR_ _ hw)]
  split
  · rfl
  · have:x≠n:=by rintro rfl;exact h v qI_
    simp [this]
theorem rf{kindOf:Str->Option NameKind}{x:Str}{v:Value}:∀{P:List Str} {vs:List Value} {i:Nat} {m:Str->Option Value},P.Nodup->P[i]? =some x->vs[i]? =some v->kindOf x=some .local->
 bindL kindOf (P.zip vs) m x=some v
 | [],_,_,_,_,h,_,_=>by simp at h
 |_ :: _,[],_,_,_,_,h,_=>by simp at h
 |p :: P,w :: vs,0,m,nd,h1,h2,hk=>by
  simp at h1 h2;subst h1;subst h2
  show bindL kindOf ((p,w) :: P.zip vs) m p=_
  unfold bindL
  rw[rl fun v hv=>(List.nodup_cons.mp nd).1 (List.of_mem_zip hv).1,if_pos hk]
  simp
 |p :: P,w :: vs,i+1,m,nd,h1,h2,hk=>by
  show bindL kindOf ((p,w) :: P.zip vs) m x=_
  unfold bindL
  exact rf (i:=i) (List.nodup_cons.mp nd).2 (by simpa using h1) (by simpa using h2) hk
theorem rD{kindOf:Str->Option NameKind}{x:Str}{v:Value}:∀{P:List Str} {vs:List Value} {i:Nat} {m:Str->Option Value},P.Nodup->P[i]? =some x->vs[i]? =some v->kindOf x≠some .local->
 bindC kindOf (P.zip vs) m x=some v
 | [],_,_,_,_,h,_,_=>by simp at h
 |_ :: _,[],_,_,_,_,h,_=>by simp at h
 |p :: P,w :: vs,0,m,nd,h1,h2,hk=>by
  simp at h1 h2;subst h1;subst h2
  show bindC kindOf ((p,w) :: P.zip vs) m p=_
  unfold bindC
  rw[q9 fun v hv=>(List.nodup_cons.mp nd).1 (List.of_mem_zip hv).1,if_neg hk]
  simp
 |p :: P,w :: vs,i+1,m,nd,h1,h2,hk=>by
  show bindC kindOf ((p,w) :: P.zip vs) m x=_
  unfold bindC
  exact rD (i:=i) (List.nodup_cons.mp nd).2 (by simpa using h1) (by simpa using h2) hk
def start(N:List Str)(vs:List V):St:=vs.map some++List.replicate (N.length - vs.length) none
def k9(CX:CXT)(P:Program)(w:World)(K:PySem.W.Frag)(mg:Str->Option Value)(base:Heap)(N:List Str)(qual:Str)(scope:Scope)(f:Addr)(cd:Value)(A:Around)(outer:List Env)(s:Shared)(H:Hp)(E:XK):Cx where
 prog:=P
 w:=w
 K:=K
 mg:=mg
 base:=base
 A:=A.deeper (envOfC qual scope s.heap.objs.size f cd)
 N:=N
 s₀:=s
 H₀:=H
 env:=envOfC qual scope s.heap.objs.size f cd
 outer:=outer
 stack:=envOfC qual scope s.heap.objs.size f cd :: outer
 ex:=[]
 calm:=true
 fn:=fun _=>true
 pn:=[]
 xe:=fun e s'=>wpAny (model P w) (A.deeper (envOfC qual scope s.heap.objs.size f cd)) (leaving (envOfC qual scope s.heap.objs.size f cd) e) (fun _ s''=>CX outer H s E e s'') (fun e' s''=>CX outer H s E e' s'') s'
def ul{sc:Scope}{n:Nat}{x:Str}(h:sc.names.lookup x=some .cell):∃c,(cellsFrom n sc.names []).lookup x=some c:=by
 have q:=PySem.W.cellsFrom_some sc.names n [] (.inl h)
 exact Option.isSome_iff_exists.mp q
def xA{CX:CXT}{P:Program}{w:World}{K:PySem.W.Frag}{mg:Str->Option Value}{base:Heap}{N ps:List Str}{qual:Str}{scope:Scope}{f:Addr}{cd:Value}{A:Around}{outer:List Env}{s s1:Shared}{H:Hp}{E:XK}{us:List Value}{vs:List V}
 (S:av N ps scope) (hd:A.handled=none) (e0:vL P w K mg base A outer s H) (hl:vs.length=ps.length) (r:Vals vs us)
 (x:InCallC s s.heap.objs.size (bindL (envOfC qual scope s.heap.objs.size f cd).kindOf (ps.zip us) fun _=>none) (cellsFrom (s.heap.objs.size+1) scope.names []) (bindC (envOfC qual scope s.heap.objs.size f cd).kindOf (ps.zip us) fun _=>none) s1):
 Inv (k9 CX P w K mg base N qual scope f cd A outer s H E) [] (start N vs) H s1:=by
 have hpl:ps.length<=N.length:=by have:=congrArg List.length S.pre;rw[List.length_take]at this;omega
 obtain⟨h1,tk,rfl,hk⟩:=x.done
 have noA:∀b:Addr,b∉(k9 CX P w K mg base N qual scope f cd A outer s H E).ex:=fun b z=>absurd (show b∈([]:List Addr)from z) (by simp)
 refine⟨⟨e0.mod,S.kind,rfl,rfl,qO_ _,fun y z c h1 h2=>?_,fun y hy=>?_,fun y c _ h=>?_,fun _=>hd,Around.frames_deeper e0.frames,.inr ⟨rfl,rfl⟩,fun b z=>absurd z (noA b),e0.bs,e0.bsz,fun b _ _=>noA b,fun b z=>absurd z (noA b),e0.mf,e0.frf⟩,
  rfl,e0.bare,Un.kept hk,⟨_,x.toInCall.ns,fun i y v h1 h2 h3=>?_⟩,fun y c h=>⟨_,x.cell y c h⟩,e0.hok.fresh (qO_ _),fun y c h=>?_,fun p hp=>absurd (show p∈([]:List (Addr×Obj))from hp) (by simp),e0.hok.kept hk,?_⟩
 · exact name_of_addr x.apart (PySem.mem_of_lookup h1) (PySem.mem_of_lookup h2)
 · have hy:scope.names.lookup y=some .cell\/scope.names.lookup y=some .free:=hy
   rcases hy with hy |hy
   · exact ul hy
   · exact absurd rfl (S.E9 _ (PySem.mem_of_lookup hy))
 · exact Nat.le_of_lt (x.above y c (PySem.mem_of_lookup h))
 · have hi:i < vs.length:=by
    unfold start at h2
    by_cases hi:i < vs.length
    · exact hi
    · rw[qL_ (by simpa using hi)]at h2
      rw[List.getElem?_replicate]at h2
      split at h2 <;> cases h2
   have ha:vs[i]? =some v:=by
    unfold start at h2
    rw[qK_ (by simpa using hi),qQ_]at h2
    cases e:vs[i]? with
    |none=>rw[e]at h2;cases h2
    |some a=>rw[e]at h2;cases h2;rfl
   obtain⟨u,hu,rv⟩:=r.get ha
   have hp:ps[i]? =some y:=by
    rw[<-S.pre,List.getElem?_take_of_lt (by omega)];exact h1
   have ndP:ps.Nodup:=by rw[<-S.pre];exact S.nd.sublist (List.take_sublist _ _)
   refine⟨u,rv,?_⟩
   rcases S.par y (qD_ hp)with k |k
   · exact .inl ⟨k,rf ndP hp hu k⟩
   · obtain⟨c,e⟩:=ul (n:=s.heap.objs.size+1) k
     refine .inr ⟨.inl k,c,e,?_⟩
     have q:=x.cell y c e
     rw[rD ndP hp hu (by show scope.names.lookup y≠_;rw[k];decide)]at q
     exact q
 · exact e0.hok.fresh (Nat.le_of_lt (x.above y c (PySem.mem_of_lookup h)))
 · unfold start
   show _=N.length
   rw[qN_,qM_,List.length_replicate]
   omega
def Di{CX:CXT}{P:Program}{w:World}{K:PySem.W.Frag}{mg:Str->Option Value}{base:Heap}{k:Nat}{f:Addr}{name qual:Str}{params:Arguments}{body:List Stmt}{scope:Scope}{dV kV doc pm cdv ct oc:Value}{an od:Option Addr}
 {osl:Array (Option Value)} {N ps:List Str} {sp:Sp} (lk:K.lookup f=some ⟨oc,od,.func (PySem.W.fnOf name qual params body scope dV kV doc pm an cdv ct),osl⟩) (hcd:PySem.W.codeIn K cdv qual=true) (S:av N ps scope)
 (len:∀vs H Q E,sp vs H Q E->vs.length=ps.length)
 (hbody:∀(A:Around) (outer:List Env) (s:Shared) (H:Hp) (vs:List V) (Q:VK) (E:XK),dq k (A.deeper (envOfC qual scope s.heap.objs.size f cdv))->sp vs H Q E->
   ∃t,PSs (k9 CX P w K mg base N qual scope f cdv A outer s H E) body t/\t {nx:=fun _ H'=>Q .non H',rt:=Q} (start N vs) H):
 aT P w K mg base CX (k+1) f (PySem.W.fnOf name qual params body scope dV kV doc pm an cdv ct) ps sp:=by
 refine⟨len,fun A outer s H args us vs Q E hr e0 hb r hsp=>?_⟩
 have hl:=len _ _ _ _ hsp
 have KX:K.In s.heap:=e0.mod.kin.keeps fun b o e=>(e0.bs b o e).1
 have lim:s.heap.NoLimit:=e0.mod.nolimit.keeps fun b o e=>(e0.bs b o e).1
 have hkind:∀y∈ps.zip us,scope.names.lookup y.1=some .local\/(scope.names.lookup y.1=some .cell/\((cellsFrom (s.heap.objs.size+1) scope.names []).lookup y.1).isSome=true):=fun⟨n,v⟩ hy=>by
  rcases S.par n (List.of_mem_zip hy).1 with q |q
  · exact .inl q
  · exact .inr ⟨q,PySem.W.cellsFrom_some _ _ _ (.inl q)⟩
 refine codeAny_call_function hr.depth (KX _ _ lk) rfl S.co S.gen rfl (PySem.W.codeRec_of KX hcd) (hb _ _ _ _ ?_)
 refine wpAny_newFunctionEnv_cells S.kind hkind fun env he s1 x=>?_
 subst he
 refine⟨lim.keeps x.toInCall.keep,codeAny_func ?_⟩
 obtain⟨t,ht,hq⟩:=hbody A outer s H vs Q E (hr.deeper _) hsp
 have I:Inv (k9 CX P w K mg base N qual scope f cdv A outer s H E) [] (start N vs) H s1:=xA S hr.hd e0 hl r x
 refine wpAny_mono (ht [] s1 (start N vs) H _ I hq) (fun fl s' hs=>?_) fun e s' hs=>hs
 have fin:∀{σ':St} {H':Hp} {v:V} {u:Value},Inv (k9 CX P w K mg base N qual scope f cdv A outer s H E) [] σ' H' s'->RelV v u->Q v H'->CE outer P w H s Q u s':=
  fun {σ' H' v u} J rv q=>⟨v,H',J.os,J.bare,J.base,J.hok,rv,q⟩
 cases fl with
 |ret u=>
  obtain⟨v,σ',H',J,rv,q⟩:=hs
  exact fin J rv q
 |next=>
  obtain⟨σ',H',J,q⟩:=hs
  exact fin (v:=V.non) (u:=Value.none) J rfl q
 |brk=>
  obtain⟨_,_,_,q⟩:=hs
  exact False.elim q
 |cont=>
  obtain⟨_,_,_,q⟩:=hs
  exact False.elim q
section
variable{X:Cx}{x:Str}{p pos:Pos}{e:Expr}{es:List Expr}{t:TA}{id T:String}{r:List V->Hp->VK->Prop}
def tCB(r:List V->Hp->VK->Prop)(t:TA):TE:=fun σ H Q=>t σ H fun vs H1=>r vs H1 Q
def uk(hc:fS X (.builtin id) r)(hg:Gl X x)(hm:X.mg x=none)(hv:bootBuiltins x=some (.builtin id))(ha:PA X (e :: es) t)(hn:x≠"__name__":=by decide)(hdb:(x==("__debug__":Str))=false:=by decide)
 (he:starEach (e :: es) X.env=(false,eval e X.env) :: starEach es X.env:=by rfl) (hpl:(backTo pos (starEach es X.env)).any (·.1)=false:=by rfl):PE X (.Call (.Name x p) (e :: es) [] pos) (tCB r t):=by
 intro pins s σ H Q I h
 refine wpAny_Call_Name_kw (nu I hg hm hv ?_ hn hdb)
 exact PyProof.Rows.callWith_builtin1 (thn (ha pos pins s σ H _ I h) fun us s1 ⟨vs,H1,I1,r1,q1⟩=>hc pins s1 σ H1 vs us Q I1 r1 q1) he hpl
def xD(hc:fS X (.type T) r)(hg:Gl X x)(hm:X.mg x=none)(hv:bootBuiltins x=some (.type T))(ha:PA X (e :: es) t)(hn:x≠"__name__":=by decide)(hdb:(x==("__debug__":Str))=false:=by decide)
 (he:starEach (e :: es) X.env=(false,eval e X.env) :: starEach es X.env:=by rfl) (hpl:(backTo pos (starEach es X.env)).any (·.1)=false:=by rfl):PE X (.Call (.Name x p) (e :: es) [] pos) (tCB r t):=by
 intro pins s σ H Q I h
 refine wpAny_Call_Name_kw (nu I hg hm hv ?_ hn hdb)
 exact PyProof.Rows.callWith_type1 (thn (ha pos pins s σ H _ I h) fun us s1 ⟨vs,H1,I1,r1,q1⟩=>hc pins s1 σ H1 vs us Q I1 r1 q1) he hpl
end
end L2
namespace HT
open PySem PyProof.Rows
def lexLt:List Int->List Int->Bool
 | [],[]=>false
 | [],_ :: _=>true
 |_ :: _,[]=>false
 |x :: xs,y :: ys=>if x=y then lexLt xs ys else decide (x < y)
def lq(x y:Int)(xs ys:List Int):lexLt (x :: xs) (y :: ys)=if x=y then lexLt xs ys else decide (x < y):=rfl
def ij:lexLt [] []=false:=rfl
def gB(y:Int)(ys:List Int):lexLt [] (y :: ys)=true:=rfl
def gm(x:Int)(xs:List Int):lexLt (x :: xs) []=false:=rfl
def pb(A:Around)(s:Shared)(a:Int)(t:Tok)(c:Int)(u:Tok):∃e,SeqAt.EqAt A s (.int a t) (.int c u) e/\(e=true↔a=c):=
 ⟨(a==c),SeqAt.EqAt.int_int a t c u,by simp⟩
def y0(A:Around)(s:Shared)(a:Int)(t:Tok)(c:Int)(u:Tok)(prog:Program)(w:World)(E:Value->Shared->Prop)(Q:Value->Shared->Prop)(h:Q (.bool (decide (a < c))) s):
 wpAny (model prog w) A (richCompare .Lt (.int a t) (.int c u)) Q E s:=
 (PyProof.Rows.lt_int h:wpAny (model prog w) A (compareOp .Lt (.int a t) (.int c u)) Q E s)
section
open PySem.SeqAt
open PySem.AutoSeq1 (wpAny_loadPart')
open PySem.MeetsSeq PySem.MeetsSeq2 PySem.MeetsSeq3
def qI(l b:Addr)(items items2:Array Value)(n n2:Nat)(dd dd2:Option Addr)(sl sl2:Array (Option Value))(ns ms:List Int)(hi:IntsAre items.toList ns)(hj:IntsAre items2.toList ms):
 Meets (Builtin.«tuple.__lt__» ⟨[.ref l,.ref b],[]⟩)
  (fun _ R s=>s.heap.get? l=some {cls:= .type "tuple",dict:=dd,data:= .seq items n,slots:=sl}/\s.heap.get? b=some {cls:= .type "tuple",dict:=dd2,data:= .seq items2 n2,slots:=sl2}/\
    R (.ok (.ret (.bool (lexLt ns ms)))) s):=
 .of_wp fun prog w A R s h=>by
  obtain⟨hp,g,d,tk,os⟩:=s;obtain⟨hl,hb,h⟩:=h
  have f2:=AutoSeq1.sub_tuple_tuple
  have z1:items.size=ns.length:=by rw[<-hi.length];simp
  have z2:items2.size=ms.length:=by rw[<-hj.length];simp
  wp_walk using wpAny_loadPart' hl,wpAny_loadPart' hb,wpAny_forIn_list _ (fun rest b s'=>b.1=none/\s'=⟨hp,g,d,tk,os⟩/\∃(vs ws:List Value) (ns' ms':List Int),rest=vs.zip ws/\
   IntsAre vs ns'/\IntsAre ws ms'/\ns'.length+items2.size=ms'.length+items.size/\R (.ok (.ret (.bool (lexLt ns' ms')))) ⟨hp,g,d,tk,os⟩) _
  case turn=>
   rintro⟨y,x⟩ rest b s' ⟨hb',rfl,vs,ws,ns',ms',hz,hvi,hwi,hlen,hR⟩
   cases hvi with
   |nil=>rw[List.zip_nil_left]at hz;cases hz
   |cons a t hvi'=>
    cases hwi with
    |nil=>rw[List.zip_nil_right]at hz;cases hz
    |cons c u hwi'=>
     rw[List.zip_cons_cons]at hz
     injection hz with hyx hrest
     injection hyx with hy hx
     subst hy hx
     rw[lq]at hR
     simp only[List.length_cons]at hlen
     obtain⟨e,he,hiff⟩:=pb A.in1 ⟨hp,g,d,tk,os⟩ a t c u
     refine wpAny_bind (he prog w _ _ ?_)
     cases e with
     |true=>
      rw[if_pos (hiff.mp rfl)]at hR
      wp_walk
      exact⟨rfl,rfl,_,_,_,_,hrest,hvi',hwi',by omega,hR⟩
     |false=>
      rw[if_neg (fun q=>absurd (hiff.mpr q) qC_)]at hR
      have hri:=y0 A.in1 ⟨hp,g,d,tk,os⟩ a t c u prog w
      wp_walk using hri
      exact⟨_,rfl,by simpa using hR⟩
  case fin=>
   rintro⟨b1,b2⟩ s' ⟨hb',rfl,vs,ws,ns',ms',hz,hvi,hwi,hlen,hR⟩
   simp only at hb'
   subst hb'
   have hv:lexLt ns' ms'=decide (items.size < items2.size):=by
    cases hvi with
    |nil=>
     cases hwi with
     |nil=>
      simp only[List.length_nil]at hlen
      rw[ij]
      exact(qa_ (by omega)).symm
     |cons c u hw=>
      simp only[List.length_nil,List.length_cons]at hlen
      rw[gB]
      exact(qZ_ (by omega)).symm
    |cons a t hv=>
     cases hwi with
     |nil=>
      simp only[List.length_nil,List.length_cons]at hlen
      rw[gm]
      exact(qa_ (by omega)).symm
     |cons c u hw=>
      rw[List.zip_cons_cons]at hz
      cases hz
   rw[hv]at hR
   wp_walk
   exact⟨_,rfl,by simpa [Builtin.Tuple.tupleCompareSizes] using hR⟩
  case h=>
   exact⟨rfl,rfl,items.toList,items2.toList,ns,ms,rfl,hi,hj,by omega,h⟩
end
section
variable{prog:Program}{w:World}{A:Around}{E:Value->Shared->Prop}{s:Shared}
def vk{l b:Addr}{items items2:Array Value}{ns ms:List Int}{Q:Value->Shared->Prop}(hl:IsTup s.heap l items)(hb:IsTup s.heap b items2)(hi:IntsAre items.toList ns)(hj:IntsAre items2.toList ms)
 (hu:A.units < cLine) (h:Q (.bool (lexLt ns ms)) s):wpAny (model prog w) A (compareOp .Lt (.ref l) (.ref b)) Q E s:=by
 obtain⟨⟨cls,dd,data,sl⟩,ho,hc,n,hd⟩:=id hl
 obtain⟨⟨cls2,dd2,data2,sl2⟩,ho2,hc2,n2,hd2⟩:=id hb
 simp only at hc hd hc2 hd2
 subst hc hd hc2 hd2
 exact richCompare_meets_room (op:= .Lt) ⟨_,ho,rfl⟩ ⟨_,ho2,rfl⟩ PySem.F.slot_tuple_lt PySem.F.entry_tuple_lt (PySem.F.args_tuple_lt_2 _ _) (qI l b items items2 n n2 dd dd2 sl sl2 ns ms hi hj)
  ⟨ho,ho2,show Value.bool (lexLt ns ms)≠Value.notImplemented/\Q (.bool (lexLt ns ms)) s from⟨(fun x=>nomatch x),h⟩⟩ hu
def BL{t b:Addr}{vs ws:List Value}{Q:Value->Shared->Prop}(ht:IsTup s.heap t vs.toArray)(hb:IsTup s.heap b ws.toArray)(hv:vs≠ [])
 (h1:ws=[]->Q (.ref t) s) (h2:ws≠ []->Q (.ref s.heap.objs.size) {s with heap:=s.heap.push {cls:= .type "tuple",data:= .seq (vs++ws).toArray}})
 (hsz:vs.length+ws.length<=sizeLine):wpAny (model prog w) A (binaryOp .Add (.ref t) (.ref b)) Q E s:=by
 obtain⟨⟨cls,dd,data,sl⟩,ho,hc,n,hd⟩:=id ht
 obtain⟨⟨cls2,dd2,data2,sl2⟩,ho2,hc2,n2,hd2⟩:=id hb
 simp only at hc hd hc2 hd2
 subst hc hd hc2 hd2
 have e:vs.toArray++ws.toArray=(vs++ws).toArray:=by simp
 by_cases hw:ws=[]
 · exact concat_meets ⟨_,ho,rfl⟩ ⟨_,ho2,rfl⟩ noFill_tuple_add seq_tuple_add PySem.F.slot_tuple_add PySem.F.entry_tuple_add (PySem.F.args_tuple_add_2 _ _)
    (tuple_addW1 t b vs.toArray ws.toArray n n2 dd dd2 sl sl2 (by simpa using hv) (by simp [hw])) ⟨ho,ho2,h1 hw⟩
 · refine concat_meets ⟨_,ho,rfl⟩ ⟨_,ho2,rfl⟩ noFill_tuple_add seq_tuple_add PySem.F.slot_tuple_add PySem.F.entry_tuple_add (PySem.F.args_tuple_add_2 _ _)
    (tuple_addW2 t b vs.toArray ws.toArray n n2 dd dd2 sl sl2 (by simpa using hv) (by simpa using hw) (by rw[qW_,qW_];exact hsz)) ⟨ho,ho2,?_⟩
   rw[e]
   exact h2 hw
def sIx(n d:Nat):Option Int->Nat
 |none=>d
 |some v=>if v < 0 then (v+(n:Int)).toNat else min v.toNat n
def EJ(n d:Nat)(hd:d<=n)(o:Option Int):sIx n d o<=n:=by
 cases o with
 |none=>exact hd
 |some v=>
  show (if v < 0 then (v+(n:Int)).toNat else min v.toNat n)<=n
  by_cases hv:v < 0
  · rw[if_pos hv];omega
  · rw[if_neg hv];exact Nat.min_le_right _ _
def wq(v:Int)(n d:Nat):(if v < 0 then max (v+(n:Int)) 0 else min v (n:Int))=((sIx n d (some v):Nat):Int):=by
 show (if v < 0 then max (v+(n:Int)) 0 else min v (n:Int))=(((if v < 0 then (v+(n:Int)).toNat else min v.toNat n):Nat):Int)
 by_cases hv:v < 0
 · simp only[if_pos hv];omega
 · simp only[if_neg hv];omega
def vX(lo hi:Option Int)(n:Nat):Builtin.Slice.sliceAdjust lo hi 1 (n:Int)=(((sIx n 0 lo:Nat):Int),((sIx n n hi:Nat):Int)):=by
 have h1:¬((1:Int) < 0):=by omega
 unfold Builtin.Slice.sliceAdjust
 simp only[h1,if_false]
 refine Prod.ext ?_ ?_
 · cases lo with
   |none=>rfl
   |some v=>exact wq v n 0
 · cases hi with
   |none=>rfl
   |some v=>exact wq v n n
def vq(i j:Nat):Builtin.Slice.slicePlaces (i:Int) (j:Int) 1=j - i:=by
 unfold Builtin.Slice.slicePlaces
 have h1:(1:Int) > 0:=by omega
 simp only[h1,if_true,Int.ediv_one]
 split <;> omega
def pX{v:Value}{o:Option Int}{Q:Option Int->Shared->Prop}(p:IsPart v o)(h:Q o s):wpAny (model prog w) A (Builtin.Slice.slicePartIndex v) Q E s:=by
 cases p with
 |none=>exact slicePart_none h
 |int i t=>exact slicePart_int h
def nz{sl:Addr}{vl vu:Value}{lo hi:Option Int}{n:Nat}{Q:Int×Int×Nat->Shared->Prop}(hs:s.heap.IsSliceOf sl vl vu .none)(pl:IsPart vl lo)(pu:IsPart vu hi)
 (h:Q (((sIx n 0 lo:Nat):Int),1,sIx n n hi - sIx n 0 lo) s):wpAny (model prog w) A (Builtin.Slice.sliceApplied (.ref sl) (pure (n:Int))) Q E s:=by
 obtain⟨os,hos,hcs,hds⟩:=id hs
 unfold Builtin.Slice.sliceApplied Builtin.Slice.sliceFields
 refine wpAny_bind (wpAny_bind (wpAny_field hos hds (x:=vl) rfl (wpAny_bind (wpAny_field hos hds (x:=vu) rfl (wpAny_bind (wpAny_field hos hds (x:= .none) rfl (wpAny_pure ?_)))))))
 refine wpAny_bind (slicePart_none ?_)
 show wpAny _ _ (if ((1:Int)==0)=true then _ else _) _ _ s
 rw[if_neg (by decide)]
 refine wpAny_bind (pX pl (wpAny_bind (pX pu (wpAny_bind (wpAny_pure ?_)))))
 show wpAny _ _ (match Builtin.Slice.sliceAdjust lo hi 1 (n:Int)with |(lo,hi)=>pure (lo,(1:Int),Builtin.Slice.slicePlaces lo hi 1)) _ _ s
 rw[vX lo hi n]
 show wpAny _ _ (pure (((sIx n 0 lo:Nat):Int),(1:Int),Builtin.Slice.slicePlaces ((sIx n 0 lo:Nat):Int) ((sIx n n hi:Nat):Int) 1)) _ _ s
 rw[vq]
 exact wpAny_pure h
def zP(xs:Array Value)(i k:Nat):((List.range k).filterMap fun(m:Nat)=>xs[((i:Int)+(m:Int)*1).toNat]?).toArray=((xs.toList.drop i).take k).toArray:=by
 have e:(fun(m:Nat)=>xs[((i:Int)+(m:Int)*1).toNat]?)=fun m=>xs[i+m]?:=by
  funext m
  have:((i:Int)+(m:Int)*1).toNat=i+m:=by omega
  rw[this]
 rw[e]
 have:=pick_run xs i k
 rw[List.filterMap_map]at this
 have e2:((fun x=>xs[x]?) ∘ fun x=>i+x)=fun m=>xs[i+m]?:=rfl
 rw[e2]at this
 rw[this]
def my{t sl:Addr}{items:Array Value}{vl vu:Value}{lo hi:Option Int}{Q:Value->Shared->Prop}(ht:IsTup s.heap t items)(hs:s.heap.IsSliceOf sl vl vu .none)(pl:IsPart vl lo)(pu:IsPart vu hi)
 (hw:¬(sIx items.size 0 lo=0/\sIx items.size items.size hi=items.size))
 (h:Q (.ref s.heap.objs.size) {s with heap:=s.heap.push {cls:= .type "tuple",data:= .seq ((items.toList.drop (sIx items.size 0 lo)).take (sIx items.size items.size hi - sIx items.size 0 lo)).toArray}})
 (hsz:items.size<=sizeLine):wpAny (model prog w) A (getItem (.ref t) (.ref sl)) Q E s:=by
 have htake:sizeOk (.seq ((items.toList.drop (sIx items.size 0 lo)).take (sIx items.size items.size hi - sIx items.size 0 lo)).toArray):=by
  show ((items.toList.drop (sIx items.size 0 lo)).take (sIx items.size items.size hi - sIx items.size 0 lo)).toArray.size<=sizeLine
  rw[qW_,List.length_take,List.length_drop,Array.length_toList]
  omega
 have hj:sIx items.size items.size hi<=items.size:=EJ _ _ (qO_ _) hi
 obtain⟨os,hos,hcs,hds⟩:=id hs
 have hTs:s.TypeIs (.ref sl) "slice":=⟨os,hos,hcs⟩
 unfold getItem
 try with_reducible refine wpAny_holding ?_
 first |refine wpAny_bind (wpAny_pure ?_) |skip
 refine wpAny_bind (wpAny_sequenceKey ht.typeIs (by decide) ?_)
 refine wpAny_bind (wpAny_callSpecial?_slot (name:=Str.ofString "__getitem__") ht.typeIs PyProof.Rows.slot_tuple_getitem
  (wpAny_call_entry PyProof.Rows.slot_tuple_getitem ht.typeIs entry_tuple_getitem ?_ (args_tuple_getitem _ _)))
 show wpAny _ _ (Builtin.Tuple.tupleItemsOf (.ref t) >>= _) _ _ s
 refine wpAny_bind (tupleItemsOf_ ht ?_)
 refine wpAny_bind (wpAny_typeOf hTs ?_)
 rw[if_pos (by decide)]
 refine wpAny_bind (nz hs pl pu ?_)
 have hno:¬((((sIx items.size 0 lo:Nat):Int)==0&&(1:Int)==1&&(sIx items.size items.size hi - sIx items.size 0 lo)==items.size)=true):=by
  intro q
  rw[Bool.and_eq_true,Bool.and_eq_true]at q
  have q1:((sIx items.size 0 lo:Nat):Int)=0:=eq_of_beq q.1.1
  have q2:sIx items.size items.size hi - sIx items.size 0 lo=items.size:=eq_of_beq q.2
  exact hw ⟨by omega,by omega⟩
 show wpAny _ _ (if (((sIx items.size 0 lo:Nat):Int)==0&&(1:Int)==1&&(sIx items.size items.size hi - sIx items.size 0 lo)==items.size)=true then _ else _) _ _ s
 rw[if_neg hno,zP]
 first
  |exact wpAny_bind (m:=Builtin.Tuple.tupleExact _) (wpAny_newObj_type (wpAny_pure ⟨_,rfl,wpAny_pure h⟩) htake)
  |exact wpAny_bind (m:=Builtin.Tuple.tupleExact _) (wpAny_newObj_type (wpAny_bind (wpAny_pure (wpAny_pure ⟨_,rfl,wpAny_pure h⟩))) htake)
  |exact wpAny_bind (wpAny_bind (m:=Builtin.Tuple.tupleExact _) (wpAny_newObj_type (wpAny_pure (wpAny_pure ⟨_,rfl,wpAny_pure h⟩)) htake))
  |exact wpAny_bind (wpAny_bind (m:=Builtin.Tuple.tupleExact _) (wpAny_newObj_type (wpAny_pure ⟨_,rfl,wpAny_pure h⟩) htake))
end
end HT
namespace L2
open PySem PySem.Spec PyProof.Rows
abbrev TO:=St->Hp->(Option Int->Hp->Prop)->Prop
def PO(X:Cx)(e:Option Expr)(t:TO):Prop:=
 ∀(pins:List (Addr×Obj)) (s:Shared) (σ:St) (H:Hp) (Q:Option Int->Hp->Prop),Inv X pins σ H s->t σ H Q->
  wpAny (model X.prog X.w) X.A (evalPart e X.env) (fun u s'=>∃o H',Inv X pins σ H' s'/\IsPart u o/\Q o H') X.xe s
def Bl:TO:=fun _ H Q=>Q none H
def Gd(t:TE):TO:=fun σ H Q=>t σ H fun x H1=>∃i,x= .int i/\Q (some i) H1
def intsAre_of{ns:List Int}:∀{us:List Value},Vals (ns.map V.int) us->IntsAre us ns:=by
 induction ns with
 |nil=>intro us r;rw[List.map_nil]at r;cases r;exact .nil
 |cons n ns ih=>
  intro us r
  rw[List.map_cons]at r
  cases r with
  |cons r1 r2=>
   obtain⟨t,e⟩:=r1
   subst e
   exact .cons n t (ih r2)
section
variable{X:Cx}{e:Expr}{te:TE}{lo hi:Option Expr}{tl th:TO}{pos p2:Pos}
def B1:PO X none Bl:=by
 intro pins s σ H Q I h
 rw[evalPart_none]
 exact wpAny_pure ⟨none,H,I,.none,h⟩
def Cv(h:PE X e te):PO X (some e) (Gd te):=by
 intro pins s σ H Q I hw
 rw[evalPart_some]
 refine thn (h pins s σ H _ I hw) fun u s1 ⟨x,H1,I1,r1,q1⟩=>?_
 obtain⟨i,rfl,q⟩:=q1
 obtain⟨t,rfl⟩:=r1
 exact⟨some i,H1,I1,.int i t,q⟩
def SlR(X:Cx)(r:V->Option Int->Option Int->Hp->VK->Prop):Prop:=
 ∀(pins:List (Addr×Obj)) (s:Shared) (σ:St) (H:Hp) (x:V) (v vl vu:Value) (lo hi:Option Int) (sl:Addr) (Q:VK),Inv X pins σ H s->RelV x v->s.heap.IsSliceOf sl vl vu .none->IsPart vl lo->IsPart vu hi->r x lo hi H Q->
  ∃T id,typeLookup (.type T) "__getitem__"=pure (some (.builtin id))/\s.TypeIs v T/\wpAny (model X.prog X.w) X.A (getItem v (.ref sl)) (EP X pins σ Q) X.xe s
def SlR.or{r r':V->Option Int->Option Int->Hp->VK->Prop}(h:SlR X r)(h':SlR X r'):SlR X (fun x lo hi H Q=>r x lo hi H Q\/r' x lo hi H Q):=by
 intro pins s σ H x v vl vu lo hi sl Q I rx hs pl pu q
 rcases q with q |q
 · exact h pins s σ H x v vl vu lo hi sl Q I rx hs pl pu q
 · exact h' pins s σ H x v vl vu lo hi sl Q I rx hs pl pu q
def tSl(r:V->Option Int->Option Int->Hp->VK->Prop)(te:TE)(tl th:TO):TE:=fun σ H Q=>te σ H fun x H1=>tl σ H1 fun l H2=>th σ H2 fun u H3=>r x l u H3 Q
def y9{r:V->Option Int->Option Int->Hp->VK->Prop}(hr:SlR X r)(he:PE X e te)(hl:PO X lo tl)(hu:PO X hi th):PE X (.Subscript e (.Slice lo hi none p2) pos) (tSl r te tl th):=by
 intro pins s σ H Q I h
 refine Subscript_ (thn (he pins s σ H _ I h) fun v s1 ⟨x,H1,I1,r1,q1⟩=>?_)
 refine wpAny_Slice (thn (hl pins s1 σ H1 _ I1 q1) fun vl s2 ⟨l,H2,I2,pl,q2⟩=>thn (hu pins s2 σ H2 _ I2 q2) fun vu s3 ⟨u,H3,I3,pu,q3⟩=>?_)
 rw[evalPart_none]
 refine wpAny_pure ?_
 have I4:Inv X pins σ H3 {s3 with heap:=s3.heap.push {cls:= .type "slice",data:= .fields #[vl,vu,.none]}}:=I3.kept (t':=s3.toks) fun b ob q=>Heap.get?_push_of_some _ q
 obtain⟨T,id,hT,ht,hg⟩:=hr pins {s3 with heap:=s3.heap.push {cls:= .type "slice",data:= .fields #[vl,vu,.none]}} σ H3 x v vl vu l u s3.heap.objs.size Q I4 r1 (Heap.IsSliceOf.new ..) pl pu q3
 show wpAny (model X.prog X.w) X.A (subscriptTail e (.Slice lo hi none p2) v (.ref s3.heap.objs.size)) (EP X pins σ Q) X.xe {s3 with heap:=s3.heap.push {cls:= .type "slice",data:= .fields #[vl,vu,.none]}}
 exact tail_any (ops:=[.ref s3.heap.objs.size,v]) ht hT hg (by with_unfolding_all rfl)
def qd(xs:List V)(lo hi:Option Int):List V:=(xs.drop (HT.sIx xs.length 0 lo)).take (HT.sIx xs.length xs.length hi - HT.sIx xs.length 0 lo)
def nF(xs:List V)(lo hi:Option Int):(qd xs lo hi).length<=xs.length:=by
 unfold qd
 rw[List.length_take,List.length_drop]
 omega
def IL(K:PySem.W.Frag):V->Option Int->Option Int->Hp->VK->Prop:=fun x lo hi H Q=>∃a xs,x= .ref a/\SqT K H a xs/\
 ¬(HT.sIx xs.length 0 lo=0/\HT.sIx xs.length xs.length hi=xs.length)/\∀p,H p=none->Q (.ref p) (upd H p (.tup (qd xs lo hi)))
def Ew:SlR X (IL X.K):=by
 intro pins s σ H x v vl vu lo hi sl Q I rx hs pl pu h
 obtain⟨a,xs,rfl,hx,hw,q⟩:=h
 cases rx
 obtain⟨its,r,ht,hz⟩:=I.tuple hx
 have hlen:its.toArray.size=xs.length:=by rw[qW_];exact r.length.symm
 refine⟨"tuple",_,PyProof.Rows.slot_tuple_getitem.lookup,ht.typeIs,?_⟩
 refine HT.my ht hs pl pu (by rw[hlen];exact hw) ?_ (by rw[hlen];exact hz)
 rw[hlen]
 refine⟨.ref s.heap.objs.size,_,I.laid (t':=s.toks) (o:= .tup (qd xs lo hi)) (fun b ob q=>Heap.get?_push_of_some _ q) (qO_ _) ?_,rfl,q _ (I.hok.fresh (qO_ _))⟩
 exact⟨Nat.le_trans (nF xs lo hi) hz,_,(r.drop (HT.sIx xs.length 0 lo)).take (HT.sIx xs.length xs.length hi - HT.sIx xs.length 0 lo),IsTup.new _ _⟩
def He(K:PySem.W.Frag):R2:=fun x y H Q=>∃a b ns ms,x= .ref a/\y= .ref b/\SqT K H a (ns.map V.int)/\SqT K H b (ms.map V.int)/\Q (.bl (HT.lexLt ns ms)) H
def FT(hu:X.A.units < cLine):OpR X (compareOp .Lt) (He X.K):=by
 intro pins s σ H x y v u Q I rx ry h
 obtain⟨a,b,ns,ms,rfl,rfl,ha,hb,q⟩:=h
 cases rx
 cases ry
 obtain⟨its,r1,p1,_⟩:=I.tuple ha
 obtain⟨its2,r2,p2,_⟩:=I.tuple hb
 have i1:IntsAre its.toArray.toList ns:=intsAre_of r1
 have i2:IntsAre its2.toArray.toList ms:=intsAre_of r2
 exact HT.vk p1 p2 i1 i2 hu ⟨.bl (HT.lexLt ns ms),H,I,rfl,q⟩
def CY(K:PySem.W.Frag):R2:=fun x y H Q=>∃a b xs ys,x= .ref a/\y= .ref b/\SqT K H a xs/\SqT K H b ys/\xs≠ []/\xs.length+ys.length<=sizeLine/\
 (ys=[]->Q (.ref a) H)/\(ys≠ []->∀p,H p=none->Q (.ref p) (upd H p (.tup (xs++ys))))
def Vals.sF{xs:List V}{us:List Value}(r:Vals xs us):us=[]↔xs=[]:=by
 cases r with
 |nil=>simp
 |cons _ _=>simp
def CQ:OpR X (binaryOp .Add) (CY X.K):=by
 intro pins s σ H x y v u Q I rx ry h
 obtain⟨a,b,xs,ys,rfl,rfl,ha,hb,hx,hz,q1,q2⟩:=h
 cases rx
 cases ry
 obtain⟨its,r1,p1,_⟩:=I.tuple ha
 obtain⟨its2,r2,p2,_⟩:=I.tuple hb
 refine HT.BL p1 p2 (fun z=>hx (r1.sF.mp z)) (fun z=>⟨.ref a,H,I,rfl,q1 (r2.sF.mp z)⟩) (fun z=>?_) (by rw[<-r1.length,<-r2.length];exact hz)
 refine⟨.ref s.heap.objs.size,_,I.laid (t':=s.toks) (o:= .tup (xs++ys)) (fun b ob q=>Heap.get?_push_of_some _ q) (qO_ _) ?_,rfl,q2 (fun w=>z (r2.sF.mpr w)) _ (I.hok.fresh (qO_ _))⟩
 exact⟨by rw[qN_];exact hz,_,r1.append r2,IsTup.new _ _⟩
end
def ixN(n:Nat)(i:Int):Option Nat:=if 0<=i then (if i < n then some i.toNat else none)else if -(n:Int)<=i then some (i+n).toNat else none
def atI{α:Type}(xs:List α)(i:Int):Option α:=(ixN xs.length i).bind fun j=>xs[j]?
def sX{n:Nat}{i:Int}{j:Nat}(h:ixN n i=some j):seqIndex? i n=some j/\j < n/\-(n:Int)<=i/\i < n:=by
 unfold ixN at h
 by_cases h0:0<=i
 · rw[if_pos h0]at h
   by_cases h1:i < n
   · rw[if_pos h1]at h
     have e:i.toNat=j:=Option.some.inj h
     exact⟨by rw[seqIndex_of h0 h1,e],by omega,by omega,h1⟩
   · rw[if_neg h1]at h;cases h
 · rw[if_neg h0]at h
   by_cases h1:-(n:Int)<=i
   · rw[if_pos h1]at h
     have e:(i+n).toNat=j:=Option.some.inj h
     exact⟨by rw[seqIndex_neg (by omega) h1,e],by omega,h1,by omega⟩
   · rw[if_neg h1]at h;cases h
def wN{α:Type}{xs:List α}{i:Int}{v:α}(h:atI xs i=some v):∃j,seqIndex? i xs.length=some j/\xs[j]? =some v/\j < xs.length/\-(xs.length:Int)<=i/\i < xs.length:=by
 unfold atI at h
 cases e:ixN xs.length i with
 |none=>rw[e]at h;cases h
 |some j=>
  rw[e]at h
  obtain⟨h1,h2,h3,h4⟩:=sX e
  exact⟨j,h1,h,h2,h3,h4⟩
def oy(b:Expr):Prop:=∀o i,subscripted b false o i=operate [o,i] (getItem o i)
def IxR(X:Cx)(r:R2):Prop:=
 ∀(value slice:Expr) (pins:List (Addr×Obj)) (s:Shared) (σ:St) (H:Hp) (x y:V) (v u:Value) (Q:VK),Inv X pins σ H s->RelV x v->RelV y u->r x y H Q->
  subscripted slice false v u=operate [v,u] (getItem v u)->wpAny (model X.prog X.w) X.A (subscriptTail value slice v u) (EP X pins σ Q) X.xe s
def MtR(X:Cx)(id:String)(r:V->List V->Hp->VK->Prop):Prop:=
 ∀(pins:List (Addr×Obj)) (s:Shared) (σ:St) (H:Hp) (x:V) (xs:List V) (v:Value) (us:List Value) (Q:VK),Inv X pins σ H s->RelV x v->Vals xs us->r x xs H Q->
  wpAny (model X.prog X.w) X.A (call (.builtin id) (v :: us)) (EP X pins σ Q) X.xe s
section
variable{X:Cx}{a b:Expr}{ta tb:TE}{pos:Pos}
def IxR.or{r r':R2}(h:IxR X r)(h':IxR X r'):IxR X (fun x y H Q=>r x y H Q\/r' x y H Q):=by
 intro value slice pins s σ H x y v u Q I rx ry q hs
 rcases q with q |q
 · exact h value slice pins s σ H x y v u Q I rx ry q hs
 · exact h' value slice pins s σ H x y v u Q I rx ry q hs
def Dt{r:R2}(hr:IxR X r)(ha:PE X a ta)(hb:PE X b tb)(hs:oy b):PE X (.Subscript a b pos) (tOp r ta tb):=by
 intro pins s σ H Q I h
 exact Subscript_ (Fi ha hb I h fun v u s2 x y H2 I2 rx ry q=>hr a b pins s2 σ H2 x y v u Q I2 rx ry q (hs _ _))
def Hc(K:PySem.W.Frag):R2:=fun x y H Q=>∃p xs i v,x= .ref p/\y= .int i/\SqL K H p xs/\atI xs i=some v/\Q v H
def Gu(K:PySem.W.Frag):R2:=fun x y H Q=>∃p xs i v,x= .ref p/\y= .int i/\SqT K H p xs/\atI xs i=some v/\Q v H
def CU:IxR X (Hc X.K):=by
 intro value slice pins s σ H x y v u Q I rx ry h hs
 obtain⟨p,xs,i,z,rfl,rfl,hq,he,q⟩:=h
 cases rx
 obtain⟨t,rfl⟩:=ry
 obtain⟨its,r,pl,hz⟩:=I.list hq
 obtain⟨j,h1,h2,h3,h4,h5⟩:=wN he
 obtain⟨w,ew,rw'⟩:=r.get h2
 have hl:=r.length
 have hn:=oP
 have fin:EP X pins σ Q w s:=⟨z,H,I,rw',q⟩
 by_cases h0:0<=i
 · have hj:i.toNat=j:=by
    rw[seqIndex_of h0 h5]at h1
    exact Option.some.inj h1
   exact item_listR pl.isList h0 (by omega) (by rw[hj];simpa using ew) fin hs
 · have hj:(i+(its.toArray.size:Int)).toNat=j:=by
    rw[seqIndex_neg (by omega) h4]at h1
    rw[qW_,<-hl]
    exact Option.some.inj h1
   exact subscriptTail_builtinR (x:=w) pl.isList.typeIs slot_list_getitem.lookup
    (wpAny_getItem_list_neg (Q:=fun r s'=>r=w/\EP X pins σ Q r s') pl.isList (by omega) (by rw[qW_] <;> omega) (by omega) (by rw[hj];simpa using ew) ⟨rfl,fin⟩) hs
def EQ:IxR X (Gu X.K):=by
 intro value slice pins s σ H x y v u Q I rx ry h hs
 obtain⟨p,xs,i,z,rfl,rfl,hq,he,q⟩:=h
 cases rx
 obtain⟨t,rfl⟩:=ry
 obtain⟨its,r,pl,hz⟩:=I.tuple hq
 obtain⟨j,h1,h2,h3,h4,h5⟩:=wN he
 obtain⟨w,ew,rw'⟩:=r.get h2
 have hl:=r.length
 have hn:=oP
 have fin:EP X pins σ Q w s:=⟨z,H,I,rw',q⟩
 exact subscriptTail_builtinR (x:=w) pl.typeIs slot_tuple_getitem.lookup
  (getItem_tuple (j:=j) (Q:=fun r s'=>r=w/\EP X pins σ Q r s') pl (by omega) (by omega) (by rw[qW_,<-hl];exact h1) (by simpa using ew) ⟨rfl,fin⟩) hs
def vK(its:List Value)(n j:Nat)(u:Value):Obj.mapSeq (·.setIfInBounds j u) {cls:= .type "list",data:= .seq its.toArray n}={cls:= .type "list",data:= .seq (its.set j u).toArray n}:=by
 simp [Obj.mapSeq]
theorem Inv.lst{pins:List (Addr×Obj)}{σ:St}{H:Hp}{s:Shared}{p:Addr}{xs:List V}(I:Inv X pins σ H s)(h:H p=some (.lst xs)):
 ∃(its:List Value) (n:Nat),Vals xs its/\s.heap.get? p=some {cls:= .type "list",data:= .seq its.toArray n}/\xs.length<=sizeLine:=by
 obtain⟨z,its,n,r,e⟩:=I.hok p _ h
 exact⟨its,n,r,e,z⟩
def Inv.EI{pins:List (Addr×Obj)}{σ:St}{H:Hp}{s:Shared}{p:Addr}{xs ys:List V}{its its':List Value}{n n':Nat}{f:Obj->Obj}(I:Inv X pins σ H s)(h:H p=some (.lst xs))
 (ho:s.heap.get? p=some {cls:= .type "list",data:= .seq its.toArray n}) (hf:f {cls:= .type "list",data:= .seq its.toArray n}={cls:= .type "list",data:= .seq its'.toArray n'}) (r:Vals ys its') (hz:ys.length<=sizeLine) (t:Nat):
 Inv X pins σ (upd H p (.lst ys)) {s with heap:=s.heap.update p f,toks:=t}:=by
 have e:(s.heap.update p f).get? p=some {cls:= .type "list",data:= .seq its'.toArray n'}:=by
  rw[Heap.get?_update_self f ho (by rw[hf] <;> rfl),hf]
 refine I.write (x:=p) (e:=p) (by rw[h];trivial) (.inl rfl) (fun b u hb q=>(Heap.get?_update_other _ _ (Ne.symm hb)).trans q) ⟨_,e⟩ ?_
 exact⟨hz,its',n',r,e⟩
def HY:V->V->V->Hp->(Hp->Prop)->Prop:=fun o i v H Q=>∃p xs k j,o= .ref p/\i= .int k/\H p=some (.lst xs)/\ixN xs.length k=some j/\Q (upd H p (.lst (xs.set j v)))
def set_list:sV X HY:=by
 intro pins s σ H o i v ov iv u Q I ro ri rv h
 obtain⟨p,xs,k,j,rfl,rfl,hp,hj,q⟩:=h
 cases ro
 obtain⟨t,rfl⟩:=ri
 obtain⟨its,n,r,ho,hz⟩:=I.lst hp
 obtain⟨h1,h2,h3,h4⟩:=sX hj
 have hl:=r.length
 have hn:=oP
 have I':Inv X pins σ (upd H p (.lst (xs.set j v))) {s with heap:=s.heap.update p (Obj.mapSeq (·.setIfInBounds j u))}:=
  I.EI hp ho (vK its n j u) (r.set rv j) (by rw[qX_];exact hz) s.toks
 by_cases h0:0<=k
 · have hk:k.toNat=j:=by
    rw[seqIndex_of h0 h4]at h1
    exact Option.some.inj h1
   exact PySem.W.ki_setAt ho h0 (by omega) (by rw[qW_,<-hl];exact h4) (by rw[hk];exact⟨_,I',q⟩)
 · have hk:(k+(its.toArray.size:Int)).toNat=j:=by
    rw[seqIndex_neg (by omega) h3]at h1
    rw[qW_,<-hl]
    exact Option.some.inj h1
   exact PySem.W.ki_setBack ho (by omega) (by rw[qW_,<-hl];exact h3) (by omega) (by rw[hk];exact⟨_,I',q⟩)
def sH(lo hi:Option Int)(n:Nat):(sliceBounds lo hi none n).1=((HT.sIx n 0 lo:Nat):Int)/\(sliceBounds lo hi none n).2.1=((HT.sIx n n hi:Nat):Int)/\(sliceBounds lo hi none n).2.2=1:=by
 refine⟨?_,?_,rfl⟩
 · cases lo with
   |none=>simp [sliceBounds,HT.sIx]
   |some i=>
    simp only[sliceBounds,HT.sIx,Option.getD_none,show (1:Int) > 0 by decide,if_true]
    by_cases h:i < 0
    · simp only[h,if_true] <;> omega
    · simp only[h,if_false] <;> omega
 · cases hi with
   |none=>simp [sliceBounds,HT.sIx]
   |some i=>
    simp only[sliceBounds,HT.sIx,Option.getD_none,show (1:Int) > 0 by decide,if_true]
    by_cases h:i < 0
    · simp only[h,if_true] <;> omega
    · simp only[h,if_false] <;> omega
def qh(its:List Value)(lo hi:Option Int):slicePick its.toArray lo hi none=((its.drop (HT.sIx its.length 0 lo)).take (HT.sIx its.length its.length hi - HT.sIx its.length 0 lo)).toArray:=by
 obtain⟨h1,h2,h3⟩:=sH lo hi its.toArray.size
 unfold slicePick
 rw[h1,h2,h3]
 simp only[sliceRange_one,pick_run,qW_] <;> rfl
def Gq(K:PySem.W.Frag):V->Option Int->Option Int->Hp->VK->Prop:=fun x lo hi H Q=>∃a xs,x= .ref a/\SqL K H a xs/\∀p,H p=none->Q (.ref p) (upd H p (.lst (qd xs lo hi)))
def CS:SlR X (Gq X.K):=by
 intro pins s σ H x v vl vu lo hi sl Q I rx hs pl pu h
 obtain⟨a,xs,rfl,hx,q⟩:=h
 cases rx
 obtain⟨its,r,ht,hz⟩:=I.list hx
 have hlen:=r.length
 refine⟨"list",_,slot_list_getitem.lookup,ht.isList.typeIs,?_⟩
 refine wpAny_getItem_list_slice ht.isList hs pl pu .none (by simp) ?_ (by rw[qW_] <;> omega)
 rw[qh,<-hlen]
 refine⟨.ref s.heap.objs.size,_,I.laid (t':=s.toks) (o:= .lst (qd xs lo hi)) (fun b ob q=>Heap.get?_push_of_some _ q) (qO_ _) ?_,rfl,q _ (I.hok.fresh (qO_ _))⟩
 exact⟨Nat.le_trans (nF xs lo hi) hz,_,0,(r.drop (HT.sIx xs.length 0 lo)).take (HT.sIx xs.length xs.length hi - HT.sIx xs.length 0 lo),Heap.get?_push_size _ rfl⟩
def fS.or{f:Value}{r r':List V->Hp->VK->Prop}(h:fS X f r)(h':fS X f r'):fS X f (fun xs H Q=>r xs H Q\/r' xs H Q):=by
 intro pins s σ H xs us Q I rs q
 rcases q with q |q
 · exact h pins s σ H xs us Q I rs q
 · exact h' pins s σ H xs us Q I rs q
def sJ:fS X (.type "list") (fun xs H Q=>∃p ys,xs=[.ref p]/\(SqL X.K H p ys\/SqT X.K H p ys)/\∀l,H l=none->Q (.ref l) (upd H l (.lst ys))):=by
 intro pins s σ H xs us Q I r h
 obtain⟨p,ys,rfl,hq,q⟩:=h
 obtain⟨u,rfl,rx⟩:=vals1 r
 cases rx
 have fin:∀(its:List Value),Vals ys its->ys.length<=sizeLine->∀(h':Heap) (c':Nat),(∀b o',s.heap.get? b=some o'->h'.get? b=some o')->
  h'.get? s.heap.objs.size=some {cls:= .type "list",dict:=none,data:= .seq its.toArray c',slots:=#[]}->EP X pins σ Q (.ref s.heap.objs.size) {s with heap:=h'}:=fun its r' hz h' c' kp e=>
  ⟨.ref s.heap.objs.size,_,I.laid (t':=s.toks) kp (qO_ _) (show bR X.prog X.w _ h' _ (.lst ys)from⟨hz,its,c',r',e⟩),rfl,q _ (I.hok.fresh (qO_ _))⟩
 rcases hq with hq |hq
 · obtain⟨its,r',pl,hz⟩:=I.list hq
   have hlen:=r'.length
   obtain⟨o,ho,hc,n,hd⟩:=pl.isList
   exact call_list_seq p (.inl rfl) ho hc hd (fun h' c' kp e=>fin its r' hz h' c' kp e) (by simp only[qW_] <;> omega)
 · obtain⟨its,r',pl,hz⟩:=I.tuple hq
   have hlen:=r'.length
   obtain⟨o,ho,hc,n,hd⟩:=pl
   exact call_list_seq p (.inr rfl) ho hc hd (fun h' c' kp e=>fin its r' hz h' c' kp e) (by simp only[qW_] <;> omega)
def tyV(K:PySem.W.Frag)(T:String)(x:V)(H:Hp):Prop:=match x with
 | .str _=>T="str"
 | .int _=>T="int"
 | .ref p=>(T="list"/\∃xs,SqL K H p xs)\/(T="tuple"/\∃o,K.lookup p=some o/\o.cls= .type "tuple"/\o.dict=none)\/
    (T="dict"/\((∃kvs,H p=some (.dK kvs))\/∃kvs,H p=some (.dT kvs)))\/(T="set"/\∃S n,H p=some (.set S n))
 |_=>False
def va{pins:List (Addr×Obj)}{σ:St}{H:Hp}{s:Shared}{T:String}{x:V}{v:Value}(I:Inv X pins σ H s)(r:RelV x v)(ty:tyV X.K T x H):
 s.TypeIs v T/\∀a,v= .ref a->∃ob,s.heap.get? a=some ob/\ob.dict=none:=by
 cases x with
 |str z=>
  obtain⟨t,rfl⟩:=r
  cases (show T="str" from ty)
  exact⟨typeIs_str s z t,fun _ e=>nomatch e⟩
 |int i=>
  obtain⟨t,rfl⟩:=r
  cases (show T="int" from ty)
  exact⟨typeIs_int s i t,fun _ e=>nomatch e⟩
 |ref p=>
  cases r
  rcases ty with ⟨rfl,xs,hq⟩ |⟨rfl,o,hk,hc,hd⟩ |⟨rfl,hk⟩ |⟨rfl,S,n,hk⟩
  · obtain⟨its,_,pl,_⟩:=I.list hq
    refine⟨pl.isList.typeIs,fun a e=>?_⟩
    cases e
    obtain⟨o,n,e,c,hd,_⟩:=pl
    exact⟨o,e,hd⟩
  · refine⟨⟨o,I.kIn p o hk,hc⟩,fun a e=>?_⟩
    cases e
    exact⟨o,I.kIn _ o hk,hd⟩
  · have z:∃o,s.heap.get? p=some o/\o.ExactDict:=by
     rcases hk with ⟨kvs,hk⟩ |⟨kvs,hk⟩
     · obtain⟨_,_,_,_,o,_,_,e,ex,_⟩:=I.hok p _ hk
       exact⟨o,e,ex⟩
     · obtain⟨_,_,_,_,o,_,_,e,ex,_⟩:=I.hok p _ hk
       exact⟨o,e,ex⟩
    obtain⟨o,e,ex⟩:=z
    refine⟨⟨o,e,ex.1⟩,fun a e2=>?_⟩
    cases e2
    exact⟨o,e,ex.2.1⟩
  · obtain⟨o,_,_,_,e,ex,_⟩:=I.hok p _ hk
    refine⟨⟨o,e,ex.1⟩,fun a e2=>?_⟩
    cases e2
    exact⟨o,e,ex.2.1⟩
 |_=>exact False.elim ty
def tBM(K:PySem.W.Frag)(T:String)(r:V->List V->Hp->VK->Prop)(to:TE)(t:TA):TE:=fun σ H Q=>to σ H fun x H1=>tyV K T x H1/\t σ H1 fun xs H2=>r x xs H2 Q
variable{o e:Expr}{es:List Expr}{to:TE}{t:TA}{name:Str}{apos cpos:Pos}{T id:String}{r:V->List V->Hp->VK->Prop}
def z9(pa:PlainAttrs T)(slot:Slot T name id)(hty:typeOf (.builtin id)=pure (.type "method_descriptor"))(hm:MtR X id r)(ho:PE X o to)(ha:PA X (e :: es) t)
 (hbase:attributeBase o name X.env (eval o X.env)=eval o X.env:=by rfl)
 (hfew:((backTo cpos (starEach (e :: es) X.env)).all (fun x=>!x.1)&&(backToKw cpos (keywordEach [] X.env)).all (fun x=>x.1.isSome)
   &&decide ((e :: es).length+([]:List Keyword).length+(if ([]:List Keyword).isEmpty then 0 else 1) < 30))=true:=by rfl)
 (hline:(apos.endLine==cpos.line)=true:=by rfl) (hs:starEach (e :: es) X.env=(false,eval e X.env) :: starEach es X.env:=by rfl) (hplain:(backTo cpos (starEach es X.env)).any (·.1)=false:=by rfl):
 PE X (.Call (.Attribute o name apos) (e :: es) [] cpos) (tBM X.K T r to t):=by
 intro pins s σ H Q I h
 refine wpAny_Call_method_late hbase hfew hline rfl (thn (ho pins s σ H _ I h) fun v s1 ⟨x,H1,I1,r1,ty,q1⟩=>?_)
 obtain⟨h1,h2⟩:=va I1 r1 ty
 refine⟨T,id,pa,slot,hty,h1,h2,?_⟩
 have hA:=ha cpos pins s1 σ H1 _ I1 q1
 rw[hs]at hA ⊢
 refine Calls.callWith_builtin (by show (false||(backTo cpos (starEach es X.env)).any (·.1))=false;rw[hplain] <;> rfl) (Calls.evalArgs_plain ?_)
 exact thn hA fun us s2 ⟨vs,H2,I2,r2,q2⟩=>hm pins s2 σ H2 x vs v us Q I2 r1 r2 q2
end
def MtM(X:Cx)(id:String)(r:V->List V->Hp->VK->Prop):Prop:=
 ∀(pins:List (Addr×Obj)) (s:Shared) (σ:St) (H:Hp) (x:V) (xs:List V) (v:Value) (us:List Value) (Q:VK),Inv X pins σ H s->RelV x v->Vals xs us->r x xs H Q->
  wpAny (model X.prog X.w) X.A (call (.builtin id) (v :: us)) (EP X pins σ Q) X.xe s
def Vals.one:∀{x:V} {us:List Value},Vals [x] us->∃u,us=[u]/\RelV x u
 |_,_,.cons r .nil=>⟨_,rfl,r⟩
theorem Vals.eraseIdx:∀{xs:List V} {us:List Value} (i:Nat),Vals xs us->Vals (xs.eraseIdx i) (us.eraseIdx i)
 |_,_,_,.nil=>.nil
 |_,_,0,.cons _ t=>t
 |_,_,i+1,.cons r t=>.cons r (Vals.eraseIdx i t)
theorem Vals.rep{xs:List V}{us:List Value}(h:Vals xs us):∀k:Nat,Vals (List.replicate k xs).flatten (List.replicate k us).flatten
 |0=>.nil
 |k+1=>by
  rw[List.replicate_succ,List.replicate_succ,List.flatten_cons,List.flatten_cons]
  exact Vals.append h (Vals.rep h k)
theorem qP{α:Type}:∀(l:List α) (i:Nat),(l.eraseIdx i).length<=l.length
 | [],_=>qO_ _
 |_ :: _,0=>Nat.le_succ _
 |_ :: r,i+1=>Nat.succ_le_succ (qP r i)
theorem foldl_rep(its:List Value):∀(k:Nat) (acc:List Value),
 List.foldl (fun x1 x2=>x1++x2) acc.toArray (List.replicate k its.toArray)=(acc++(List.replicate k its).flatten).toArray
 |0,acc=>by simp
 |k+1,acc=>by
  have e:acc.toArray++its.toArray=(acc++its).toArray:=by simp
  have e2:(acc++its)++(List.replicate k its).flatten=acc++(List.replicate (k+1) its).flatten:=by
   rw[List.replicate_succ,List.flatten_cons,List.append_assoc]
  rw[<-e2,<-foldl_rep its k (acc++its),<-e,List.replicate_succ,List.foldl_cons]
section
variable{X:Cx}{pins:List (Addr×Obj)}{σ:St}{H:Hp}{s:Shared}{l b:Addr}{xs ys zs:List V}
def Inv.D7{its its':List Value}{n:Nat}{f:Array Value->Array Value}{t':Nat}(I:Inv X pins σ H s)(hH:H l=some (.lst xs))
 (e:s.heap.get? l=some {cls:= .type "list",data:= .seq its.toArray n}) (hf:f its.toArray=its'.toArray) (hv:Vals ys its') (hz:ys.length<=sizeLine):
 Inv X pins σ (upd H l (.lst ys)) {s with heap:=s.heap.update l (Obj.mapSeq f),toks:=t'}:=by
 have q:=PySem.IsL.update e f
 rw[hf]at q
 refine I.write (x:=l) (e:=l) (by rw[hH];exact trivial) (.inl rfl) (fun b' u hb hu=>(Heap.get?_update_other s.heap (Obj.mapSeq f) (Ne.symm hb)).trans hu) ⟨_,q⟩ ?_
 exact⟨hz,its',_,hv,q⟩
def Inv.GX{its:List Value}{t':Nat}(I:Inv X pins σ H s)(hv:Vals ys its)(hz:ys.length<=sizeLine):
 Inv X pins σ (upd H s.heap.objs.size (.lst ys)) {s with heap:=s.heap.push {cls:= .type "list",data:= .seq its.toArray},toks:=t'}:=
 I.laid (fun _ _ q=>Heap.get?_push_of_some _ q) (qO_ _) ⟨hz,its,0,hv,Heap.get?_push_size _ rfl⟩
theorem Inv.fresh(I:Inv X pins σ H s):H s.heap.objs.size=none:=I.hok.fresh (qO_ _)
def Inv.vH(I:Inv X pins σ H s)(hH:H l=some (.lst xs)):xs.length<=sizeLine/\∃(its:List Value) (n:Nat),Vals xs its/\xs.length=its.length/\s.heap.get? l=some {cls:= .type "list",data:= .seq its.toArray n}:=by
 obtain⟨z,its,n,r,e⟩:=I.hok l _ hH
 exact⟨z,its,n,r,r.length,e⟩
def tf{n:Nat}(h:n<=sizeLine):Builtin.List.listTooLong n=false:=by
 unfold Builtin.List.listTooLong
 exact qa_ (by omega)
end
section
variable{X:Cx}
def B6:V->List V->Hp->VK->Prop:=fun x vs H Q=>∃l xs y,x= .ref l/\vs=[y]/\H l=some (.lst xs)/\xs.length < sizeLine/\Q .non (upd H l (.lst (xs++[y])))
def qO:MtM X "list.append" B6:=by
 intro pins s σ H x vs v us Q I rx rv h
 obtain⟨l,xs,y,rfl,rfl,hH,hz,q⟩:=h
 cases rx
 obtain⟨u,rfl,ru⟩:=rv.one
 obtain⟨z,its,n,r,hl,e⟩:=I.vH hH
 refine call_meets F.slot_list_append ⟨_,e,rfl⟩ F.entry_list_append (F.args_list_append_2 _ _) (PySem.list_append l its.toArray n u (by rw[qW_];omega)) ⟨e,?_⟩
 refine⟨.non,_,I.D7 (its':=its++[u]) hH e (by simp) (r.append (.cons ru .nil)) ?_,rfl,q⟩
 rw[qN_,List.length_singleton]
 omega
def CC:V->List V->Hp->VK->Prop:=fun x vs H Q=>∃l b xs zs,x= .ref l/\vs=[.ref b]/\H l=some (.lst xs)/\H b=some (.lst zs)/\xs.length+zs.length<=sizeLine/\Q .non (upd H l (.lst (xs++zs)))
def yx:MtM X "list.extend" CC:=by
 intro pins s σ H x vs v us Q I rx rv h
 obtain⟨l,b,xs,zs,rfl,rfl,hH,hB,hz,q⟩:=h
 cases rx
 obtain⟨u,rfl,ru⟩:=rv.one
 cases ru
 obtain⟨z,its,n,r,hl,e⟩:=I.vH hH
 obtain⟨z2,its2,n2,r2,hl2,e2⟩:=I.vH hB
 have hsz:its.toArray.size+its2.toArray.size<=sizeLine:=by rw[qW_,qW_];omega
 have hlong:¬(!its.toArray.isEmpty&&Builtin.List.listTooLong (its.toArray.size+its2.toArray.size))=true:=by
  rw[tf hsz,Bool.and_false]
  exact qC_
 refine call_meets F.slot_list_extend ⟨_,e,rfl⟩ F.entry_list_extend (F.args_list_extend_2 _ _)
  (AutoSeq1.list_extend_list_list_0 l its.toArray n b its2.toArray n2 hlong (by rw[qW_];omega) (by omega)) ⟨e,e2,?_⟩
 refine⟨.non,_,I.D7 (its':=its++its2) hH e (by simp) (r.append r2) ?_,rfl,q⟩
 rw[qN_]
 omega
def DU:V->List V->Hp->VK->Prop:=fun x vs H Q=>∃l xs i k y,x= .ref l/\vs=[.int i]/\H l=some (.lst xs)/\-(2 ^ 63)<=i/\i < 2 ^ 63/\seqIndex? i xs.length=some k/\xs[k]? =some y/\Q y (upd H l (.lst (xs.eraseIdx k)))
def AV:MtM X "list.pop" DU:=by
 intro pins s σ H x vs v us Q I rx rv h
 obtain⟨l,xs,i,k,y,rfl,rfl,hH,h1,h2,hk,hy,q⟩:=h
 cases rx
 obtain⟨u,rfl,ru⟩:=rv.one
 obtain⟨t,rfl⟩:=ru
 obtain⟨z,its,n,r,hl,e⟩:=I.vH hH
 obtain⟨w,hw,rw'⟩:=r.get hy
 refine call_meets F.slot_list_pop ⟨_,e,rfl⟩ F.entry_list_pop (F.args_list_pop_2 _ _)
  (MeetsSeq.list_pop_at l its.toArray n i t k w (fitsIndex_both h1 h2) (by rw[qW_,<-hl];exact hk) (by rw[<-Array.getElem?_toList];exact hw) (by rw[qW_];omega)) ⟨e,?_⟩
 refine⟨y,_,I.D7 (its':=its.eraseIdx k) hH e ?_ (r.eraseIdx k) ?_,rw',q⟩
 · show its.toArray.eraseIdxIfInBounds k=(its.eraseIdx k).toArray
   rw[List.eraseIdxIfInBounds_toArray]
 · have:=qP xs k
   omega
def Hr:R2:=fun x y H Q=>∃l b xs zs,x= .ref l/\y= .ref b/\H l=some (.lst xs)/\H b=some (.lst zs)/\xs.length+zs.length<=sizeLine/\∀p,H p=none->Q (.ref p) (upd H p (.lst (xs++zs)))
def EB:OpR X (binaryOp .Add) Hr:=by
 intro pins s σ H x y v u Q I rx ry h
 obtain⟨l,b,xs,zs,rfl,rfl,hH,hB,hz,q⟩:=h
 cases rx
 cases ry
 obtain⟨z,its,n,r,hl,e⟩:=I.vH hH
 obtain⟨z2,its2,n2,r2,hl2,e2⟩:=I.vH hB
 refine PySem.P.add_list e e2 ?_ (by rw[qW_,qW_];omega)
 have ea:its.toArray++its2.toArray=(its++its2).toArray:=by simp
 rw[ea]
 exact⟨.ref _,_,I.GX (t':=s.toks) (r.append r2) (by rw[qN_];omega),rfl,q _ I.fresh⟩
def Gw:R2:=fun x y H Q=>∃l k xs,x= .ref l/\y= .int k/\H l=some (.lst xs)/\-(2 ^ 63)<=k/\k < 2 ^ 63/\xs.length*k.toNat<=sizeLine/\
 ∀p,H p=none->Q (.ref p) (upd H p (.lst (List.replicate k.toNat xs).flatten))
def len_rep{α:Type}(xs:List α)(k:Nat):(List.replicate k xs).flatten.length=k*xs.length:=by
 induction k with
 |zero=>simp
 |succ k ih=>rw[List.replicate_succ,List.flatten_cons,qN_,ih,Nat.succ_mul,Nat.add_comm]
def EU:OpR X (binaryOp .Mult) Gw:=by
 intro pins s σ H x y v u Q I rx ry h
 obtain⟨l,k,xs,rfl,rfl,hH,h1,h2,hz,q⟩:=h
 cases rx
 obtain⟨t,rfl⟩:=ry
 obtain⟨z,its,n,r,hl,e⟩:=I.vH hH
 have hlen:its.toArray.size*k.toNat<=sizeLine:=by rw[qW_,<-hl];exact hz
 have hcap:¬its.toArray.size*k.toNat > (2 ^ 63 - 1) / 8:=by
  have:(sizeLine:Nat)<=(2 ^ 63 - 1) / 8:=by decide
  omega
 have hfit:¬(!Builtin.List.listFitsIndex k)=true:=by
  rw[fitsIndex_both h1 h2]
  exact qC_
 have hlong:¬Builtin.List.listTooLong (its.toArray.size*k.toNat)=true:=by
  rw[tf hlen]
  exact qC_
 have hnew:List.foldl (fun x1 x2=>x1++x2) #[] (List.replicate (if its.toArray.isEmpty=true then 0 else k.toNat) its.toArray)=(List.replicate k.toNat its).flatten.toArray:=by
  have f0:∀m:Nat,List.foldl (fun x1 x2=>x1++x2) #[] (List.replicate m its.toArray)=(List.replicate m its).flatten.toArray:=fun m=>by
   have:=foldl_rep its m []
   rw[qc_]at this
   exact this
  rw[f0]
  cases its with
  |nil=>simp
  |cons a r'=>rw[if_neg (by simp)]
 refine wpAny_binaryOp_repeat_ref (T:="list") (U:="int") (by decide) ⟨_,e,rfl⟩ (fun s'=>typeIs_int s' k t) noFill_list_mul F.fills_int_mul F.slot_int_rmul repeat_list F.slot_int_index.lookup
  (call_meets F.slot_int_rmul (typeIs_int s k t) F.entry_int_rmul (F.args_int_rmul_2 _ _) (int___rmul___int_list k t l its.toArray n)
    ⟨e,rfl,⟨_,e,rfl⟩,call_meets F.slot_list_mul ⟨_,e,rfl⟩ F.entry_list_mul (F.args_list_mul_2 _ _) (AutoListH.list___mul___list_int_3 l its.toArray n k t hfit hcap hlong) ⟨e,?_⟩⟩)
 rw[hnew]
 exact⟨.ref _,_,I.GX (t':=s.toks) (r.rep k.toNat) (by rw[len_rep,Nat.mul_comm];exact hz),rfl,q _ I.fresh⟩
end
section
variable{κ:Type} [DecidableEq κ]
def jq(kvs:List (κ×V))(k:κ):Option V:=(kvs.find? fun kv=>decide (kv.1=k)).map (·.2)
def putK(kvs:List (κ×V))(k:κ)(v:V):List (κ×V):=
 if (kvs.any fun kv=>decide (kv.1=k))=true then kvs.map (fun kv=>if kv.1=k then (kv.1,v)else kv)else kvs++[(k,v)]
def o7{p:κ×V}{r:List (κ×V)}{k:κ}(e:p.1=k):jq (p :: r) k=some p.2:=by simp [jq,List.find?_cons,e]
def oI{p:κ×V}{r:List (κ×V)}{k:κ}(e:¬p.1=k):jq (p :: r) k=jq r k:=by simp [jq,List.find?_cons,e]
theorem uO(k:κ):∀kvs:List (κ×V),(kvs.any fun kv=>decide (kv.1=k))=(jq kvs k).isSome
 | []=>rfl
 |p :: r=>by
  rw[List.any_cons]
  by_cases e:p.1=k
  · simp only[o7 e,qZ_ e,Bool.true_or,Option.isSome_some]
  · rw[oI e,qa_ e,Bool.false_or];exact uO k r
def nP(kvs:List (κ×V))(k:κ)(v:V):(putK kvs k v).length<=kvs.length+1:=by
 unfold putK
 split
 · rw[qM_];omega
 · rw[qN_,List.length_cons,List.length_nil];omega
def kR.ir{o:Option V}{u:Option Value}(r:kR o u):o.isSome=u.isSome:=by
 cases o with
 |none=>cases u with
  |none=>rfl
  |some _=>exact(show False from r).elim
 |some _=>cases u with
  |none=>exact(show False from r).elim
  |some _=>rfl
def KV.val{kvs:List (κ×V)}{vs:List (κ×Value)}(r:KV kvs vs)(k:κ):kR (jq kvs k) (valueAt vs k):=by
 unfold KV at r
 induction r with
 |nil=>exact True.intro
 |@cons p q ps qs h t ih=>
  obtain⟨h1,h2⟩:=h
  by_cases e:p.1=k
  · have e':q.1=k:=h1.symm.trans e
    have b:valueAt (q :: qs) k=some q.2:=by simp [valueAt,List.find?_cons,e']
    rw[o7 e,b];exact h2
  · have e':¬q.1=k:=fun z=>e (h1.trans z)
    have b:valueAt (q :: qs) k=valueAt qs k:=by simp [valueAt,List.find?_cons,e']
    rw[oI e,b];exact ih
theorem KV.any{kvs:List (κ×V)}{vs:List (κ×Value)}(r:KV kvs vs)(k:κ):(kvs.any fun kv=>decide (kv.1=k))=vs.any fun kv=>decide (kv.1=k):=by
 unfold KV at r
 induction r with
 |nil=>rfl
 |cons h t ih=>rw[List.any_cons,List.any_cons,ih,h.1]
def KV.xT{kvs:List (κ×V)}{vs:List (κ×Value)}(r:KV kvs vs)(k:κ){y:V}{u:Value}(ry:RelV y u):
 KV (kvs.map fun kv=>if kv.1=k then (kv.1,y)else kv) (vs.map fun kv=>if kv.1=k then (kv.1,u)else kv):=by
 unfold KV at r ⊢
 induction r with
 |nil=>exact .nil
 |@cons p q ps qs h t ih=>
  rw[List.map_cons,List.map_cons]
  refine .cons ?_ ih
  obtain⟨h1,h2⟩:=h
  by_cases e:p.1=k
  · rw[if_pos e,if_pos (h1.symm.trans e)];exact⟨h1,ry⟩
  · rw[if_neg e,if_neg (fun z=>e (h1.trans z))];exact⟨h1,h2⟩
def KV.put{kvs:List (κ×V)}{vs:List (κ×Value)}(r:KV kvs vs)(k:κ){y:V}{u:Value}(ry:RelV y u):KV (putK kvs k y) (stored vs k u):=by
 unfold putK stored
 rw[r.any k]
 by_cases e:(vs.any fun kv=>decide (kv.1=k))=true
 · rw[if_pos e,if_pos e];exact r.xT k ry
 · rw[if_neg e,if_neg e];exact Paired.snoc r ⟨rfl,ry⟩
theorem KV.length{kvs:List (κ×V)}{vs:List (κ×Value)}(r:KV kvs vs):kvs.length=vs.length:=Paired.length r
end
def uw{P:Program}{w:World}{k:Key}{u:Value}(r:RelV (kV k) u):(bO P w).is k u=true:=by
 cases k with
 |inl i=>obtain⟨t,e⟩:=(show ∃t,u=Value.int i t from r);subst e;exact tR P w i t
 |inr x=>obtain⟨t,e⟩:=(show ∃t,u=Value.str x t from r);subst e;exact ud P w x t
theorem rz{P:Program}{w:World}:∀{ks:List Key} {us:List Value},Vals (ks.map kV) us->ItemsAre (bO P w) ks us
 | [],_,r=>by rw[List.map_nil]at r;cases r;exact .nil
 |k :: ks,_,r=>by
  rw[List.map_cons]at r
  cases r with
  |cons h t=>exact .cons (uw h) (rz t)
abbrev KT(H:Hp):List (List Key×V)->List (List Key×Addr×Value)->Prop:=Paired fun p q=>p.1=q.1/\H q.2.1=some (.tup (p.1.map kV))/\RelV p.2 q.2.2
def KT.val{H:Hp}{kvs:List (List Key×V)}{xs:List (List Key×Addr×Value)}(r:KT H kvs xs)(k:List Key):kR (jq kvs k) ((atKey xs k).map (·.2)):=by
 induction r with
 |nil=>exact True.intro
 |@cons p q ps qs h t ih=>
  obtain⟨h1,_,h2⟩:=h
  by_cases e:p.1=k
  · have e':q.1=k:=h1.symm.trans e
    have b:atKey (q :: qs) k=some q.2:=by simp [atKey,List.find?_cons,e']
    rw[o7 e,b];exact h2
  · have e':¬q.1=k:=fun z=>e (h1.trans z)
    have b:atKey (q :: qs) k=atKey qs k:=by simp [atKey,List.find?_cons,e']
    rw[oI e,b];exact ih
def KT.xT{H:Hp}{kvs:List (List Key×V)}{xs:List (List Key×Addr×Value)}(r:KT H kvs xs)(k:List Key){y:V}{u:Value}(ry:RelV y u):
 KT H (kvs.map fun kv=>if kv.1=k then (kv.1,y)else kv) (xs.map (putAt k u)):=by
 induction r with
 |nil=>exact .nil
 |@cons p q ps qs h t ih=>
  rw[List.map_cons,List.map_cons]
  refine .cons ?_ ih
  obtain⟨h1,h2,h3⟩:=h
  unfold putAt
  by_cases e:p.1=k
  · rw[if_pos e,if_pos (h1.symm.trans e)];exact⟨h1,h2,ry⟩
  · rw[if_neg e,if_neg (fun z=>e (h1.trans z))];exact⟨h1,h2,h3⟩
def KT.put{H:Hp}{kvs:List (List Key×V)}{xs:List (List Key×Addr×Value)}(r:KT H kvs xs)(k:List Key){b:Addr}{y:V}{u:Value}(hb:H b=some (.tup (k.map kV)))(ry:RelV y u):
 KT H (putK kvs k y) (storedH xs k b u):=by
 have e:(kvs.any fun kv=>decide (kv.1=k))=(atKey xs k).isSome:=by
  rw[uO,(r.val k).ir,Option.isSome_map]
 unfold putK storedH
 rw[e]
 by_cases q:(atKey xs k).isSome=true
 · rw[if_pos q,if_pos q];exact r.xT k ry
 · rw[if_neg q,if_neg q];exact Paired.snoc r ⟨rfl,hb,ry⟩
def KT.keeps{H H':Hp}{kvs:List (List Key×V)}{xs:List (List Key×Addr×Value)}(r:KT H kvs xs)(ht:∀b ys,H b=some (.tup ys)->H' b=some (.tup ys)):KT H' kvs xs:=
 Paired.Ct r fun _ _ z=>⟨z.1,ht _ _ z.2.1,z.2.2⟩
section
variable{P:Program}{w:World}{H:Hp}{h:Heap}{a:Addr}
def Dm{u:HO}(ok:HOk P w H h)(e:Rd H a u):bR P w H h a u:=e.ok ok
def qT{kvs:List (Key×V)}(ok:HOk P w H h)(e:Rd H a (.dK kvs)):kvs.length<=sizeLine/\(a==sysModules)=false/\∃vs,KV kvs vs/\h.DictOf (bO P w) a vs:=
 show bR P w H h a (.dK kvs)from Dm ok e
def zi{kvs:List (Key×V)}(ok:HOk P w H h)(e:H a=some (.dK kvs)):kvs.length<=sizeLine/\(a==sysModules)=false/\∃vs,KV kvs vs/\h.DictOf (bO P w) a vs:=qT ok (.inl e)
def pY{ks:List Key}(ok:HOk P w H h)(e:H a=some (.tup (ks.map kV))):(tupleKind (bO P w)).is h ks a:=by
 obtain⟨_,its,r,o,h1,h2,n,h3⟩:=(show bR P w H h a (.tup (ks.map kV))from ok a _ e)
 exact⟨o,its.toArray,n,h1,h2,h3,by simpa using rz r⟩
def uu{kvs:List (List Key×V)}(ok:HOk P w H h)(e:Rd H a (.dT kvs)):kvs.length<=sizeLine/\(a==sysModules)=false/\
 ∃xs,KT H kvs xs/\h.DictOfH (tupleKind (bO P w)) a xs:=by
 obtain⟨z,y,xs,r,o,es,ep,h1,h2,h3,h4,h5⟩:=(show bR P w H h a (.dT kvs)from Dm ok e)
 refine⟨z,y,xs,r,o,es,ep,h1,h2,h3,h4,fun x hx=>?_,h5⟩
 have all:∀{l:List (List Key×V)} {m:List (List Key×Addr×Value)},KT H l m->∀x∈m,(tupleKind (bO P w)).is h x.1 x.2.1:=by
  intro l m q
  induction q with
  |nil=>intro x hx;exact nomatch hx
  |@cons p q ps qs hq t ih=>
   intro x hx
   rcases qS_.mp hx with e |hx
   · subst e
     exact pY ok (by rw[<-hq.1];exact hq.2.1)
   · exact ih x hx
 exact all r x hx
def HC{kvs:List (List Key×V)}(ok:HOk P w H h)(e:H a=some (.dT kvs)):kvs.length<=sizeLine/\(a==sysModules)=false/\
 ∃xs,KT H kvs xs/\h.DictOfH (tupleKind (bO P w)) a xs:=uu ok (.inl e)
end
def pR(H:Hp)(a:Addr)(y:V)(r:Option V):Prop:=
 (∃kvs k,Rd H a (.dK kvs)/\y=kV k/\r=jq kvs k)\/∃kvs k b,Rd H a (.dT kvs)/\y= .ref b/\H b=some (.tup (k.map kV))/\r=jq kvs k
def Ap(H:Hp)(a:Addr)(y v:V)(H':Hp):Prop:=
 (∃kvs k,H a=some (.dK kvs)/\y=kV k/\kvs.length < sizeLine/\H'=upd H a (.dK (putK kvs k v)))\/
 ∃kvs k b,H a=some (.dT kvs)/\y= .ref b/\H b=some (.tup (k.map kV))/\kvs.length < sizeLine/\H'=upd H a (.dT (putK kvs k v))
theorem pR.k{H:Hp}{a:Addr}{kvs:List (Key×V)}{k:Key}(e:H a=some (.dK kvs)):pR H a (kV k) (jq kvs k):= .inl ⟨kvs,k,.inl e,rfl,rfl⟩
theorem Ap.k{H:Hp}{a:Addr}{kvs:List (Key×V)}{k:Key}{v:V}(e:H a=some (.dK kvs))(hl:kvs.length < sizeLine):Ap H a (kV k) v (upd H a (.dK (putK kvs k v))):= .inl ⟨kvs,k,e,rfl,hl,rfl⟩
section
variable{X:Cx}{pins:List (Addr×Obj)}{σ:St}{H:Hp}{s:Shared}{a:Addr}{y v:V}{u r:Value}{o:Option V}{A:Around}{E:Value->Shared->Prop}
def Inv.big(I:Inv X pins σ H s):sysModules < s.heap.objs.size:=by
 have h:mainGlobals < s.heap.objs.size:=(I.mod.glob.keeps I.bk).lt
 exact Nat.lt_trans (by decide) h
def xI{Q:Value->Shared->Prop}(hu:A.units+1 < cLine)(I:Inv X pins σ H s)(g:pR H a y (some v))(ry:RelV y u)(h:∀w' s',Inv X pins σ H s'->RelV v w'->Q w' s'):
 wpAny (model X.prog X.w) A (getItem (.ref a) u) Q E s:=by
 rcases g with ⟨kvs,k,e,ey,l⟩ |⟨kvs,k,b,e,ey,eb,l⟩
 · subst ey
   obtain⟨z,hd,vs,rel,dd⟩:=qT I.hok e
   obtain⟨w',hw,rw'⟩:=kR.some_of (v:=v) (o:=valueAt vs k) (by rw[l];exact rel.val k)
   exact wpAny_getItem_of (uw ry) dd.mapOf hw (h w' _ (I.tok _) rw')
 · subst ey
   cases (show u=Value.ref b from ry)
   obtain⟨z,hd,xs,rel,dd⟩:=uu I.hok e
   obtain⟨w',hw,rw'⟩:=kR.some_of (v:=v) (o:=(atKey xs k).map (·.2)) (by rw[l];exact rel.val k)
   obtain⟨p,hp,hp2⟩:=Option.map_eq_some_iff.mp hw
   refine wpAny_getItem_heap (tupleKind_room_in1 hu) (pY I.hok eb) dd hp ?_
   rw[hp2]
   exact h w' _ (I.tok _) rw'
def Ir{Q:Value->Shared->Prop}(hu:A.units+1 < cLine)(I:Inv X pins σ H s)(g:pR H a y o)(ry:RelV y u)(h:∀s',Inv X pins σ H s'->Q (.bool o.isSome) s'):
 wpAny (model X.prog X.w) A (compareOp .In u (.ref a)) Q E s:=by
 rcases g with ⟨kvs,k,e,ey,l⟩ |⟨kvs,k,b,e,ey,eb,l⟩
 · subst ey
   obtain⟨z,hd,vs,rel,dd⟩:=qT I.hok e
   refine wpAny_in_of (uw ry) hd dd.mapOf ?_
   rw[<-(rel.val k).ir,<-l]
   exact h _ (I.tok _)
 · subst ey
   cases (show u=Value.ref b from ry)
   obtain⟨z,hd,xs,rel,dd⟩:=uu I.hok e
   refine wpAny_in_heap (tupleKind_room_in1 hu) (pY I.hok eb) hd dd ?_
   have q:=(rel.val k).ir
   rw[Option.isSome_map]at q
   rw[<-q,<-l]
   exact h _ (I.tok _)
def Cq{Q:Value->Shared->Prop}(hu:A.units+1 < cLine)(I:Inv X pins σ H s)(g:pR H a y o)(ry:RelV y u)(h:∀s',Inv X pins σ H s'->Q (.bool (!o.isSome)) s'):
 wpAny (model X.prog X.w) A (compareOp .NotIn u (.ref a)) Q E s:=by
 rcases g with ⟨kvs,k,e,ey,l⟩ |⟨kvs,k,b,e,ey,eb,l⟩
 · subst ey
   obtain⟨z,hd,vs,rel,dd⟩:=qT I.hok e
   refine wpAny_notIn_of (uw ry) hd dd.mapOf ?_
   rw[<-(rel.val k).ir,<-l]
   exact h _ (I.tok _)
 · subst ey
   cases (show u=Value.ref b from ry)
   obtain⟨z,hd,xs,rel,dd⟩:=uu I.hok e
   refine wpAny_notIn_heap (tupleKind_room_in1 hu) (pY I.hok eb) hd dd ?_
   have q:=(rel.val k).ir
   rw[Option.isSome_map]at q
   rw[<-q,<-l]
   exact h _ (I.tok _)
def oC{h':Heap}{t':Nat}{ob:HO}(I:Inv X pins σ H s)(mu:Mut (H a))(hs:Heap.SameBut a s.heap h')(he:∃q,h'.get? a=some q)(new:bR X.prog X.w (upd H a ob) h' a ob):
 Inv X pins σ (upd H a ob) {s with heap:=h',toks:=t'}:=
 I.write (x:=a) (e:=a) mu (.inl rfl) (fun b q hb z=>(hs.2 b hb).trans z) he new
def DZ{P:Program}{w:World}{H':Hp}{h':Heap}{kvs:List (Key×V)}{vs:List (Key×Value)}(z:kvs.length<=sizeLine)(hd:(a==sysModules)=false)(rel:KV kvs vs)(dd:h'.DictOf (bO P w) a vs):
 bR P w H' h' a (.dK kvs):=⟨z,hd,vs,rel,dd⟩
def x8{H':Hp}{Q:Unit->Shared->Prop}(hu:A.units+1 < cLine)(I:Inv X pins σ H s)(g:Ap H a y v H')(ry:RelV y u)(rv:RelV v r)(h:∀s',Inv X pins σ H' s'->Q () s'):
 wpAny (model X.prog X.w) A (setItem (.ref a) u r) Q E s:=by
 rcases g with ⟨kvs,k,e,ey,l,eH⟩ |⟨kvs,k,b,e,ey,eb,l,eH⟩
 · subst ey eH
   obtain⟨z,hd,vs,rel,dd⟩:=zi I.hok e
   have hz:vs.length<=sizeLine:=by rw[<-rel.length];exact z
   have hl:(putK kvs k v).length<=sizeLine:=by have:=nP kvs k v;omega
   refine wpAny_setItem_pairs (hsz:=hz) (uw ry) dd fun h' dd' hs=>h _ ?_
   have he:∃q,h'.get? a=some q:=let ⟨q,_,_,hq,_⟩:=dd';⟨q,hq⟩
   exact oC I (by rw[e];exact True.intro) hs he (DZ hl hd (rel.put k rv) dd')
 · subst ey eH
   cases (show u=Value.ref b from ry)
   obtain⟨z,hd,xs,rel,dd⟩:=HC I.hok e
   have hz:xs.length<=sizeLine:=by rw[<-Paired.length rel];exact z
   have hl:(putK kvs k v).length<=sizeLine:=by have:=nP kvs k v;omega
   refine wpAny_setItem_heap (hsz:=hz) (tupleKind_room_in1 hu) (pY I.hok eb) dd fun h' dd' hs=>h _ ?_
   obtain⟨q,es,ep,hq,h2,h3,h4,_,h5⟩:=dd'
   refine oC I (by rw[e];exact True.intro) hs ⟨q,hq⟩ ⟨hl,hd,_,(rel.put k eb rv).keeps fun c ys ec=>?_,q,es,ep,hq,h2,h3,h4,h5⟩
   rw[aI (yL ec e (fun z=>nomatch z))]
   exact ec
end
section
variable{X:Cx}{pins:List (Addr×Obj)}{σ:St}{H:Hp}{s:Shared}{a:Addr}{kvs:List (Key×V)}{k:Key}{u:Value}{A:Around}{E:Value->Shared->Prop}
def GJ{Q:Value->Shared->Prop}(I:Inv X pins σ H s)(e:Rd H a (.dK kvs))(h:∀t s',Inv X pins σ H s'->Q (.int kvs.length t) s'):wpAny (model X.prog X.w) A (call (.builtin "len") [.ref a]) Q E s:=by
 obtain⟨z,hd,vs,rel,dd⟩:=qT I.hok e
 refine call_len_dict hd dd (by rw[<-rel.length];rw[sizeLine_eq]at z;omega) ?_
 rw[<-rel.length]
 exact h _ _ (I.tok _)
end
def uA{X:Cx}{pins:List (Addr×Obj)}{σ:St}{H:Hp}{s:Shared}{a:Addr}{y:V}{o:Option V}(I:Inv X pins σ H s)(g:pR H a y o):s.TypeIs (.ref a) "dict":=by
 rcases g with ⟨kvs,k,e,_,_⟩ |⟨kvs,k,b,e,_,_,_⟩
 · obtain⟨_,_,vs,_,dd⟩:=qT I.hok e
   exact dd.typeIs
 · obtain⟨_,_,xs,_,dd⟩:=uu I.hok e
   exact dd.typeIs
def zm{P:Program}{w:World}{H:Hp}(h:Heap)(hb:sysModules < h.objs.size):bR P w H (h.push {cls:= .type "dict",data:= .dict #[]}) h.objs.size (.dK []):=
 ⟨qf_ _,beq_eq_false_iff_ne.mpr (Ne.symm (Nat.ne_of_lt hb)),[],.nil,Heap.DictOf.new h⟩
def FU:TE:=fun _ H Q=>∀p,H p=none->Q (.ref p) (upd H p (.dK []))
section
variable{X:Cx}{pos:Pos}
def As:PE X (.Dict [] [] pos) FU:=fun pins s σ H Q I h=>
 wpAny_Dict_empty ⟨.ref s.heap.objs.size,_,I.laid (a:=s.heap.objs.size) (o:= .dK []) (t':=s.toks) (fun _ _ q=>Heap.get?_push_of_some _ q) (qO_ _) (zm s.heap I.big),rfl,h _ (I.hok.fresh (qO_ _))⟩
end
end L2
namespace Att
open PySem PySem.W PySem.Calls PyProof.Rows
def nV{P:Params}{h:Heap}:∀(ns:List Int) (vs:List Value),WellAll P h vs (ns.map WData.int)->IntsAre vs ns:=by
 intro ns
 induction ns with
 |nil=>
  intro vs w
  rw[List.map_nil]at w
  cases w
  exact .nil
 |cons n ns ih=>
  intro vs w
  rw[List.map_cons]at w
  cases w with
  |cons a b=>
   cases a
   exact .cons _ _ (ih _ b)
def yi{l:OpenLaw}{n:Nat}(hn:l.most=some n){P:Params}{h:Heap}{args:List WData}{vals:List Value}
 (hpre:l.row.toRowW.claim.pre args=true) (hwl:WellAll P h vals args):
 ∃a vs ns,vals=[Value.ref a]/\args=[WData.list (ns.map WData.int)]/\h.get? a=some {cls:= .type "list",data:= .seq vs.toArray}/\IntsAre vs ns/\ns.length<=n:=by
 have hsh:WShape.hasAll [] args [.list .int]=true:=(pre_splitW hpre).1
 have hc:l.pre.holds [] {args:=args}=true:=(pre_splitW hpre).2
 obtain⟨d,r,rfl,h1,h2⟩:=hasAllW_cons hsh
 obtain rfl:=hasAllW_nil h2
 obtain⟨xs,rfl,h3⟩:=hasW_list h1
 obtain⟨ns,rfl⟩:=items_int h3
 have hlen:ns.length<=n:=by
  unfold OpenLaw.pre at hc
  have h4:(WTm.not (.lt (.lit (.int (n:Int))) (.len (.arg 0)))).holds [] {args:=[.list (ns.map .int)]}=true:=by
   have h4:=(holds_andW hc).1
   rw[hn]at h4
   exact h4
  have h5:=condW_of h4 (w_not (w_lt w_lit (w_len_list (w_arg rfl))))
  rw[qM_]at h5
  refine Nat.le_of_not_lt fun q=>?_
  have q':(n:Int) < ((ns.length:Nat):Int):=by omega
  first
   |(rw[qZ_ q']at h5;exact absurd h5 (by decide))
   |(simp at h5;omega)
 cases hwl with
 |cons w1 w2=>
  cases w2
  cases w1 with
  |list ho ah=>exact⟨_,_,ns,rfl,rfl,ho,nV ns _ ah,hlen⟩
def xU(l:OpenLaw)(args:List WData):l.row.toRowW.claim.post args (.bool true) args=true:=
 postW_of (r:=l.row.toRowW) (X:=(true==true))
  (show WShape.has [] (.bool true) .bool=true by first |rfl |decide |simp [WShape.has,WShape.arms,WShape.armsAll])
  (show (WTm.eq .res (.lit (.bool true))).value [] {args:=args,res:=some (.bool true),after:=args}=some (.bool (true==true))from w_eq_bool (w_res rfl) w_lit) rfl
def tx{l:OpenLaw}{n:Nat}{q:Program}{loose:List Str}{XP:(Str->Option Value)->Heap->Prop}{YP:World->Heap->Prop}{d:DefRec}
 (hn:l.most=some n) (hdf:d.params.defaults=[])
 (call:∀(w:World) (s₀ s₁:Shared) (mg mb:Str->Option Value) (fa:Addr) (o:Obj) (pm cd doc:Value) (a:Addr) (vs:List Value) (ns:List Int),
   Ground q loose [] XP w s₀ mg mb s₁.heap->YP w s₁.heap->
   s₁.heap.get? fa=some o->o.data= .func (docDef d.name d.params d.body d.scope pm cd doc)->s₁.heap.CodeRec cd d.name->mg d.name=some (.ref fa)->
   s₁.heap.get? a=some {cls:= .type "list",data:= .seq vs.toArray}->IntsAre vs ns->ns.length<=n->s₁.gens=#[]->
   codeAny (model l.prog w) callerA (.call (.ref fa) ⟨[.ref a],[]⟩) (fun r s'=>r= .ok (.ret (.bool true))/\OldK s₁.heap s'.heap/\s'.os=s₁.os/\AllBare s'.gens) s₁):
 WalkO q loose XP YP l.row.toRowW d [] (fun f vs=>PySem.call f vs):=by
 intro w s₀ s₁ mg mb G Y fa o pm cd doc dV kV ho hd hcd hD hmg hg args vals as hpre hlay hrd hwl hlo
 obtain rfl:dV= .none:=Dflts.none hD hdf
 obtain rfl:kV= .none:=Dflts.noKw hD
 obtain⟨a,vs,ns,rfl,rfl,hobj,hints,hlen⟩:=yi hn hpre hwl
 refine enter_call (codeAny_mono (call w s₀ s₁ mg mb fa o pm cd doc a vs ns G Y ho (fd_plain hd) hcd hmg hobj hints hlen hg) fun r s' hq=>?_)
 obtain⟨rfl,h2,h3,h4⟩:=hq
 exact⟨.inl ⟨.bool true,.bool true,[],rfl,fun _=>rfl,.bool true,xU l _,fun _=>⟨List.Pairwise.nil,fun _ hm=>(nomatch hm)⟩⟩,h2,h3,h4⟩
end Att
namespace L2
open PySem PySem.Spec PyProof.Rows
theorem qQ:∀{vs:List Value} {ns:List Int},IntsAre vs ns->Vals (ns.map V.int) vs
 |_,_,.nil=>.nil
 |_,_,.cons n t h=>.cons ⟨t,rfl⟩ (qQ h)
def Ar(H:Hp):Prop:=∀b,H b=none\/∃o xs,H b=some (.frz o (.lst xs))
def Aj{P:Program}{w:World}{K:PySem.W.Frag}{mg mb:Str->Option Value}{CX:CXT}{k:Nat}{fa a:Addr}{fd:FuncData}{x:Str}{sp:Sp}{s₁:Shared}{vs:List Value}{ns:List Int}
 (KX:K.In s₁.heap) (hns:s₁.heap.Ns mainGlobals mg) (hb:s₁.heap.Ns builtinsNs mb) (hbb:∀x:Str,x≠"__name__"->mb x=bootBuiltins x) (hlim:s₁.heap.NoLimit) (hg:s₁.gens=#[])
 (ha:s₁.heap.get? a=some {cls:= .type "list",data:= .seq vs.toArray}) (hi:IntsAre vs ns) (hl:ns.length<=sizeLine) (hr:dq k callerA)
 (F:∀base:Heap,K.In base->base.Ns mainGlobals mg->aT P w K mg base CX k fa fd [x] sp) (hbind:∀(s:Shared) (u:Value),BindsTo s fd ⟨[u],[]⟩ [(x,u)])
 (hsp:∀H:Hp,Ar H->SqL K H a (ns.map V.int)->sp [.ref a] H (fun v _=>v= .bl true) fun _ _ _=>False)
 (hCX:∀H e s',CX [] H s₁ (fun _ _ _=>False) e s'->False):
 codeAny (model P w) callerA (.call (.ref fa) ⟨[.ref a],[]⟩) (fun r s'=>r= .ok (.ret (.bool true))/\OldK s₁.heap s'.heap/\s'.os=s₁.os/\AllBare s'.gens) s₁:=by
 have rv:=qQ hi
 have lenV:=hi.length
 have core:∀H:Hp,Ar H->SqL K H a (ns.map V.int)->HOk P w H s₁.heap->(∀b,H b≠none->b=a)->(H a≠none->K.lookup a=none)->
  codeAny (model P w) callerA (.call (.ref fa) ⟨[.ref a],[]⟩) (fun r s'=>r= .ok (.ret (.bool true))/\OldK s₁.heap s'.heap/\s'.os=s₁.os/\AllBare s'.gens) s₁:=by
  intro H hO hS hok hA hK
  have base_of:∀{b:Addr} {o:Obj},s₁.heap.get? b=some o->H b=none->(sT s₁.heap H).get? b=some o:=fun e n=>AQ e n
  have noA:∀{b:Addr} {o:Obj} {es:Array DictEntry} {ep:Nat},s₁.heap.get? b=some o->o.data= .dict es ep->H b=none:=fun {b o es ep} e d=>by
   cases q:H b with
   |none=>rfl
   |some u=>
    have e':b=a:=hA b (by rw[q];simp)
    subst e'
    rw[ha]at e;cases e
    have d':Data.seq vs.toArray _=Data.dict es ep:=d
    cases d'
  have nsK:∀{b:Addr} {m:Str->Option Value},s₁.heap.Ns b m->(sT s₁.heap H).Ns b m:=fun {b m} ⟨o,es,ep,e,d,r⟩=>⟨o,es,ep,base_of e (noA e d),d,r⟩
  have hKb:K.In (sT s₁.heap H):=fun b o e=>base_of (KX b o e) (by
   cases q:H b with
   |none=>rfl
   |some u=>
    have e':b=a:=hA b (by rw[q];simp)
    subst e'
    rw[hK (by rw[q];simp)]at e;cases e)
  have hM:Mod K mg (sT s₁.heap H):=⟨hKb,nsK hns,⟨mb,nsK hb,hbb⟩,let ⟨mc,h1,h2⟩:=hlim;⟨mc,nsK h1,h2⟩⟩
  have e0:vL P w K mg (sT s₁.heap H) callerA [] s₁ H:=⟨rfl,hM,fun b o e=>CJ e,Nat.le_of_eq (yB _ _),trivial,fun b hb=>absurd (show b∈([]:List Addr)from hb) (by simp),hok,.of_eq hg⟩
  refine codeAny_mono ((F _ hKb (nsK hns)).run callerA [] s₁ H ⟨[.ref a],[]⟩ [.ref a] [.ref a] _ _ hr e0 (hbind s₁ (.ref a)) (.cons rfl .nil) (hsp H hO hS)) fun r s' h=>?_
  cases r with
  |error e=>exact(hCX H e s' h).elim
  |ok fl=>
   cases fl with
   |next=>exact False.elim h
   |brk=>exact False.elim h
   |cont=>exact False.elim h
   |ret u=>
    obtain⟨v,H',os,bare,un,hok',r',q⟩:=h
    have q':v= .bl true:=q
    subst q'
    obtain rfl:u=Value.bool true:=r'
    refine⟨rfl,OldK.of_keep fun b o e=>?_,os,bare⟩
    cases q:H b with
    |none=>exact un.keep b o e q (by intro z;exact absurd (show b∈([]:List Addr)from z) (by simp)) (by simp)
    |some u=>
     rcases hO b with z |⟨ob,xs,z⟩
     · rw[q]at z;cases z
     · have z2:=un.mR b ob _ z
       obtain⟨e1,_⟩:=hok b _ z
       obtain⟨e2,_⟩:=hok' b _ z2
       rw[e]at e1;cases e1
       exact e2
 cases hk:K.lookup a with
 |some o=>
  have e:=KX a o hk
  rw[ha]at e
  cases e
  refine core (fun _=>none) (fun _=>.inl rfl) (.inr ⟨_,vs.toArray,_,hk,rfl,rfl,rfl,by rw[qW_,lenV];exact hl,by simpa using rv⟩) (fun b u z=>by have z':(none:Option HO)=some u:=z;cases z') (fun b z=>absurd rfl z) fun z=>absurd rfl z
 |none=>
  refine core (fun b=>if b=a then some (.frz {cls:= .type "list",data:= .seq vs.toArray} (.lst (ns.map V.int)))else none) (fun b=>?_) (.inl (.inr ⟨{cls:= .type "list",data:= .seq vs.toArray},if_pos rfl⟩)) (fun b u z=>?_) (fun b z=>?_) fun _=>hk
  · by_cases hb:b=a
    · exact .inr ⟨_,_,if_pos hb⟩
    · exact .inl (if_neg hb)
  · by_cases hb:b=a
    · have z':=(if_pos hb).symm.trans z
      cases z'
      subst hb
      exact⟨ha,by rw[qM_];exact hl,vs,_,rv,ha⟩
    · have z':=(if_neg hb).symm.trans z
      cases z'
  · by_cases hb:b=a
    · exact hb
    · exact absurd (if_neg hb) z
def B9{l:PySem.W.OpenLaw}{n k:Nat}{q:Program}{loose:List Str}{XP:(Str->Option Value)->Heap->Prop}{YP:World->Heap->Prop}{d:DefRec}{K:Params->PySem.W.Frag}{CX:World->CXT}{sp:World->Sp}{x:Str}
 (hn:l.most=some n) (hn2:n<=sizeLine) (hdf:d.params.defaults=[]) (hr:dq k callerA)
 (hY:∀(w:World) (h:Heap),YP w h->(K w.params).In h)
 (F:∀(w:World) (mg:Str->Option Value) (fa:Addr) (h:Heap),(K w.params).In h->h.Ns mainGlobals mg->mg d.name=some (.ref fa)->
   ∃fd:FuncData,(∀(s:Shared) (u:Value),BindsTo s fd ⟨[u],[]⟩ [(x,u)])/\
    ∀base:Heap,(K w.params).In base->base.Ns mainGlobals mg->aT l.prog w (K w.params) mg base (CX w) k fa fd [x] (sp w))
 (hsp:∀(w:World) (H:Hp) (a:Addr) (ns:List Int),ns.length<=n->Ar H->SqL (K w.params) H a (ns.map V.int)->sp w [.ref a] H (fun v _=>v= .bl true) fun _ _ _=>False)
 (hCX:∀(w:World) (H:Hp) (s:Shared) (e:Value) (s':Shared),CX w [] H s (fun _ _ _=>False) e s'->False):
 PySem.W.WalkO q loose XP YP l.row.toRowW d [] (fun f vs=>PySem.call f vs):=by
 refine Att.tx hn hdf fun w s₀ s₁ mg mb fa o pm cd doc a vs ns G Y ho hd hcd hmg hobj hints hlen hg=>?_
 have KX:=hY w _ Y
 obtain⟨fd,hb,hF⟩:=F w mg fa _ KX G.T.g hmg
 exact Aj KX G.T.g G.T.b G.T.builtins G.T.nolimit hg hobj hints (Nat.le_trans hlen hn2) hr hF hb (fun H hO hS=>hsp w H a ns hlen hO hS) fun H e s'=>hCX w H s₁ e s'
def inClass(s:Stmt)(j:Nat):Stmt:=match s with
 | .ClassDef _ _ _ body _ _ _ _ _ _ _=>body.getD j (.Pass ⟨0,0,0,0⟩)
 |_=>.Pass ⟨0,0,0,0⟩
def ml(s:Stmt):Arguments:=match s with
 | .FunctionDef _ a _ _ _ _ _ _ _ _=>a
 |_=>{posonlyargs:=[],args:=[],vararg:=none,kwonlyargs:=[],kw_defaults:=[],kwarg:=none,defaults:=[]}
def gO(s:Stmt):List Stmt:=match s with
 | .FunctionDef _ _ b _ _ _ _ _ _ _=>b
 |_=>[]
def ai(s:Stmt):Scope:=match s with
 | .FunctionDef _ _ _ _ _ _ sc _ _ _=>sc
 |_=>{kind:= .function,names:=[],isGenerator:=false,isCoroutine:=false}
abbrev CX0:CXT:=fun _ _ _ _ _ _=>False
structure Fun (K:PySem.W.Frag) (x qual:Str) (st:Stmt) (f:Addr) (fd:FuncData):Prop where
 ex:∃(oc:Value) (od:Option Addr) (kV doc pm:Value) (an:Option Addr) (cdv ct:Value) (osl:Array (Option Value)),
  fd=PySem.W.fnOf x qual (ml st) (gO st) (ai st) .none kV doc pm an cdv ct/\K.lookup f=some ⟨oc,od,.func fd,osl⟩/\PySem.W.codeIn K cdv qual=true
 kp:PySem.W.keepIn K (.ref f)=true
section
variable{P:Program}{w:World}{K:PySem.W.Frag}{mg:Str->Option Value}{base:Heap}
def Fun.ok{x qual:Str}{st:Stmt}{f:Addr}{fd:FuncData}{N ps:List Str}{k:Nat}{sp:Sp}(F:Fun K x qual st f fd)(S:av N ps (ai st))(len:∀vs H Q E,sp vs H Q E->vs.length=ps.length)
 (hbody:∀(cdv:Value) (A:Around) (outer:List Env) (s:Shared) (H:Hp) (vs:List V) (Q:VK) (E:XK),dq k (A.deeper (envOfC qual (ai st) s.heap.objs.size f cdv))->sp vs H Q E->
   ∃t,PSs (k9 CX0 P w K mg base N qual (ai st) f cdv A outer s H E).nox (gO st) t/\t {nx:=fun _ H'=>Q .non H',rt:=Q} (start N vs) H):aT P w K mg base CX0 (k+1) f fd ps sp:=by
 obtain⟨oc,od,kV,doc,pm,an,cdv,ct,osl,rfl,lk,hcd⟩:=F.ex
 refine Di lk hcd S len fun A outer s H vs Q E hr hsp=>?_
 obtain⟨t,h,q⟩:=hbody cdv A outer s H vs Q E hr hsp
 exact⟨t,h.nox,q⟩
def Fun.binds{x qual:Str}{st:Stmt}{f:Addr}{fd:FuncData}{ps:List Str}(F:Fun K x qual st f fd)
 (h:∀(kV doc pm:Value) (an:Option Addr) (cdv ct:Value) (us:List Value),us.length=ps.length->bindArgs (PySem.W.fnOf x qual (ml st) (gO st) (ai st) .none kV doc pm an cdv ct) ⟨us,[]⟩=pure (ps.zip us)):Binds K fd ps []:=by
 obtain⟨oc,od,kV,doc,pm,an,cdv,ct,osl,rfl,lk,hcd⟩:=F.ex
 exact .all (h kV doc pm an cdv ct)
def D9{x qual:Str}{st:Stmt}{f:Addr}{oc:Value}{od an:Option Addr}{osl:Array (Option Value)}{kV doc pm cdv ct:Value}(l:K.lookup f=some ⟨oc,od,.func (PySem.W.fnOf x qual (ml st) (gO st) (ai st) .none kV doc pm an cdv ct),osl⟩)
 (c:PySem.W.codeIn K cdv qual=true) (k:PySem.W.keepIn K (.ref f)=true):Fun K x qual st f (PySem.W.fnOf x qual (ml st) (gO st) (ai st) .none kV doc pm an cdv ct):=⟨⟨oc,od,kV,doc,pm,an,cdv,ct,osl,rfl,l,c⟩,k⟩
end
section
variable{X:Cx}
def xY:fS X (.builtin "len") (fun xs H Q=>∃a kvs,xs=[V.ref a]/\H a=some (.dK kvs)/\Q (.int kvs.length) H):=by
 intro pins s σ H xs us Q I r h
 obtain⟨a,kvs,rfl,ha,q⟩:=h
 obtain⟨u,rfl,ru⟩:=vals1 r
 cases ru
 exact GJ I (.inl ha) fun t s' I'=>⟨.int kvs.length,H,I',⟨t,rfl⟩,q⟩
end
def gi(H H':Hp):Prop:=∀b o,H b=some o->H' b=some o
end L2
namespace M3
open PySem
inductive D where
 |non |bl (b:Bool) |int (i:Int) |str (x:Str) |tup (xs:List D) |ref (n:Nat)
 deriving Inhabited
mutual
def D.beq:D->D->Bool
 | .non,.non=>true
 | .bl a,.bl b=>a==b
 | .int a,.int b=>a==b
 | .str a,.str b=>decide (a=b)
 | .tup a,.tup b=>D.yc a b
 | .ref a,.ref b=>a==b
 |_,_=>false
def D.yc:List D->List D->Bool
 | [],[]=>true
 |a :: r,b :: t=>D.beq a b&&D.yc r t
 |_,_=>false
end
mutual
theorem D.beq_iff:∀(x y:D),D.beq x y=true↔x=y
 | .non,y=>by cases y <;> simp [D.beq]
 | .bl a,y=>by cases y <;> simp [D.beq]
 | .int a,y=>by cases y <;> simp [D.beq]
 | .str a,y=>by cases y <;> simp [D.beq]
 | .tup a,y=>by
   cases y with
   |tup b=>simp only[D.beq,D.tup.injEq];exact D.uQ a b
   |_=>simp [D.beq]
 | .ref a,y=>by cases y <;> simp [D.beq]
theorem D.uQ:∀(x y:List D),D.yc x y=true↔x=y
 | [],y=>by cases y <;> simp [D.yc]
 |a :: r,y=>by
  cases y with
  |nil=>simp [D.yc]
  |cons b t=>
   simp only[D.yc,Bool.and_eq_true,List.cons.injEq]
   rw[D.beq_iff a b,D.uQ r t]
end
instance:DecidableEq D:=fun x y=>decidable_of_iff _ (D.beq_iff x y)
abbrev Key:=Sum Int Str
inductive O where
 |lst (xs:List D) |frz (xs:List D) |dK (kvs:List (Key×D)) |dF (kvs:List (Key×D)) |dT (kvs:List (List Int×D)) |ins (C:Nat) (fs:List (Nat×D))
 deriving Inhabited,DecidableEq
inductive Oc (α:Type) where
 |ok (a:α) |exc (c:Nat)
abbrev Hh:=List O
abbrev M(α:Type):=Hh->Option (Oc α×Hh)
def ret{α:Type}(a:α):M α:=fun G=>some (.ok a,G)
def fail{α:Type}:M α:=fun _=>none
def bnd{α β:Type}(m:M α)(k:α->M β):M β:=fun G=>match m G with
 |some (.ok a,G')=>k a G'
 |some (.exc c,G')=>some (.exc c,G')
 |none=>none
def run{α:Type}(m:M α)(G:Hh)(Q:α->Hh->Prop)(E:Nat->Hh->Prop):Prop:=match m G with
 |some (.ok a,G')=>Q a G'
 |some (.exc c,G')=>E c G'
 |none=>False
def aR{α β:Type}{m:M α}{k:α->M β}{G:Hh}{Q:β->Hh->Prop}{E:Nat->Hh->Prop}(h:run (bnd m k) G Q E):run m G (fun a G1=>run (k a) G1 Q E) E:=by
 unfold run bnd at*
 cases e:m G with
 |none=>rw[e]at h;exact h
 |some p=>
  obtain⟨o,G1⟩:=p
  rw[e]at h
  cases o with
  |ok a=>exact h
  |exc c=>exact h
def aq{α:Type}{m:M α}{G:Hh}{Q Q':α->Hh->Prop}{E E':Nat->Hh->Prop}(h:run m G Q E)(hq:∀a G',Q a G'->Q' a G')(he:∀c G',E c G'->E' c G'):run m G Q' E':=by
 unfold run at*
 cases e:m G with
 |none=>rw[e]at h;exact h
 |some p=>
  obtain⟨o,G1⟩:=p
  rw[e]at h
  cases o with
  |ok a=>exact hq _ _ h
  |exc c=>exact he _ _ h
@[simp] theorem bnd_ret {α β:Type} (a:α) (k:α->M β):bnd (ret a) k=k a:=rfl
def kg{α β γ:Type}(m:M α)(k:α->M β)(l:β->M γ):bnd (bnd m k) l=bnd m fun a=>bnd (k a) l:=by
 funext G
 unfold bnd
 cases m G with
 |none=>rfl
 |some p=>
  obtain⟨o,G1⟩:=p
  cases o <;> rfl
abbrev St:=List (Option D)
abbrev E3:=St->M D
abbrev T3:=St->M Bool
abbrev A3:=St->M (List D)
inductive Fl where
 |next |brk |cont |ret (d:D)
abbrev S3:=St->M (Fl×St)
def aa(i:Nat):E3:=fun σ=>match σ[i]? with
 |some (some d)=>ret d
 |_=>fail
def eC(d:D):E3:=fun _=>ret d
def eOp(f:D->D->M D)(a b:E3):E3:=fun σ=>bnd (a σ) fun x=>bnd (b σ) fun y=>f x y
def eUn(f:D->M D)(a:E3):E3:=fun σ=>bnd (a σ) f
def ao:A3:=fun _=>ret []
def ae(e:E3)(r:A3):A3:=fun σ=>bnd (e σ) fun x=>bnd (r σ) fun xs=>ret (x :: xs)
def aC:Nat:=16777216
def new(o:O):M D:=fun G=>some (.ok (.ref G.length),G++[o])
def cm(a:A3):E3:=fun σ=>bnd (a σ) fun xs=>if xs.length<=aC then ret (.tup xs)else fail
def dJ(a:A3):E3:=fun σ=>bnd (a σ) fun xs=>if xs.length<=aC then new (.lst xs)else fail
def aF(f:List D->M D)(a:A3):E3:=fun σ=>bnd (a σ) f
def eIf(t:T3)(a b:E3):E3:=fun σ=>bnd (t σ) fun c=>if c then a σ else b σ
def truth(d:D):M Bool:=fun G=>match d with
 | .non=>some (.ok false,G)
 | .bl b=>some (.ok b,G)
 | .int i=>some (.ok (i !=0),G)
 | .str x=>if x.length<=aC then some (.ok (x.length !=0),G)else none
 | .tup xs=>some (.ok (!xs.isEmpty),G)
 | .ref n=>match G[n]? with
   |some (.lst xs)=>some (.ok (!xs.isEmpty),G)
   |some (.frz xs)=>some (.ok (!xs.isEmpty),G)
   |some (.dK kvs)=>some (.ok (!kvs.isEmpty),G)
   |_=>none
def tOf(e:E3):T3:=fun σ=>bnd (e σ) truth
def asB(d:D):M Bool:=match d with
 | .bl b=>ret b
 |_=>fail
def tB(e:E3):T3:=fun σ=>bnd (e σ) asB
def lF(t u:T3):T3:=fun σ=>bnd (t σ) fun c=>if c then u σ else ret false
def tOr(t u:T3):T3:=fun σ=>bnd (t σ) fun c=>if c then ret true else u σ
def fO(t:T3):T3:=fun σ=>bnd (t σ) fun c=>ret (!c)
def we(a b:E3):E3:=fun σ=>bnd (a σ) fun x=>bnd (asB x) fun c=>if c then b σ else ret (.bl false)
def eOr(a b:E3):E3:=fun σ=>bnd (a σ) fun x=>bnd (asB x) fun c=>if c then ret (.bl true)else b σ
def Cf(a:E3):E3:=fun σ=>bnd (a σ) fun x=>bnd (asB x) fun c=>ret (.bl (!c))
def small(i:Int):Bool:=decide (-(2 ^ 64) < i/\i < 2 ^ 64)
def gI(x y:D):M D:=match x,y with
 | .int i,.int j=>ret (.int (i+j))
 | .str a,.str b=>if a.length+b.length<=aC then ret (.str (a++b))else fail
 | .tup a,.tup b=>if a≠ []/\a.length+b.length<=aC then ret (.tup (a++b))else fail
 | .ref i,.ref j=>fun G=>match G[i]?,G[j]? with
   |some (.lst a),some (.lst b)=>if a.length+b.length<=aC then new (.lst (a++b)) G else none
   |_,_=>none
 |_,_=>fail
def uz(x y:D):M D:=match x,y with
 | .int i,.int j=>ret (.int (i - j))
 |_,_=>fail
def fj(x y:D):M D:=match x,y with
 | .int i,.int j=>if small i||small j then ret (.int (i*j))else fail
 | .str a,.int k=>if 0<=k/\k<=1000/\a.length<=1000 then ret (.str (Txt.mul a k))else fail
 | .ref n,.int k=>fun G=>match G[n]? with
   |some (.lst xs)=>if 0<=k/\k<=1000000/\xs.length*k.toNat<=aC then new (.lst (List.replicate k.toNat xs).flatten) G else none
   |_=>none
 |_,_=>fail
def oMod(x y:D):M D:=match x,y with
 | .int i,.int j=>if 0 < j then ret (.int (i % j))else fail
 |_,_=>fail
def k6:List Int->List Int->Bool
 | [],[]=>false
 | [],_ :: _=>true
 |_ :: _,[]=>false
 |a :: r,b :: t=>if a=b then k6 r t else decide (a < b)
def intsOf:List D->Option (List Int)
 | []=>some []
 | .int i :: r=>(intsOf r).map (i :: ·)
 |_ :: _=>none
def oLt(x y:D):M D:=match x,y with
 | .int i,.int j=>ret (.bl (decide (i < j)))
 | .tup a,.tup b=>match intsOf a,intsOf b with
   |some m,some n=>ret (.bl (k6 m n))
   |_,_=>fail
 |_,_=>fail
def oGt(x y:D):M D:=match x,y with
 | .int i,.int j=>ret (.bl (decide (j < i)))
 | .tup a,.tup b=>match intsOf a,intsOf b with
   |some m,some n=>ret (.bl (k6 n m))
   |_,_=>fail
 |_,_=>fail
def oLe(x y:D):M D:=match x,y with
 | .int i,.int j=>ret (.bl (decide (i<=j)))
 |_,_=>fail
def oGe(x y:D):M D:=match x,y with
 | .int i,.int j=>ret (.bl (decide (j<=i)))
 |_,_=>fail
def eqZ(f:D->D->Option Bool):List D->List D->Option Bool
 |a :: r,b :: t=>match f a b,eqZ f r t with
  |some p,some q=>some (p&&q)
  |_,_=>none
 |_,_=>some true
def listOf(G:Hh)(n:Nat):Option (List D):=match G[n]? with
 |some (.lst xs)=>some xs
 |some (.frz xs)=>some xs
 |_=>none
def eqG(G:Hh):Nat->D->D->Option Bool
 |0,_,_=>none
 |k+1,x,y=>match x,y with
  | .non,.non=>some true
  | .bl a,.bl b=>some (a==b)
  | .int a,.int b=>some (decide (a=b))
  | .str a,.str b=>some (decide (a=b))
  | .tup a,.tup b=>(eqZ (eqG G k) a b).map (·&&decide (a.length=b.length))
  | .ref i,.ref j=>match listOf G i,listOf G j with
    |some a,some b=>if a.length=b.length then eqZ (eqG G k) a b else some false
    |_,_=>none
  | .non,.int _=>some false
  | .int _,.non=>some false
  | .non,.str _=>some false
  | .str _,.non=>some false
  | .non,.tup _=>some false
  | .tup _,.non=>some false
  | .int _,.str _=>some false
  | .str _,.int _=>some false
  | .int _,.tup _=>some false
  | .tup _,.int _=>some false
  |_,_=>none
def oEq(x y:D):M D:=fun G=>match eqG G 8 x y with
 |some b=>some (.ok (.bl b),G)
 |none=>none
def oNe(x y:D):M D:=fun G=>match eqG G 8 x y with
 |some b=>some (.ok (.bl (!b)),G)
 |none=>none
def nR(x:D):M D:=ret (.bl (decide (x= .non)))
def fQ(x:D):M D:=ret (.bl (!decide (x= .non)))
def ui(G:Hh)(x:D):List D->Option Bool
 | []=>some false
 |y :: r=>match eqG G 8 y x,ui G x r with
  |some p,some q=>some (p||q)
  |_,_=>none
def pO(d:D):Option Key:=match d with
 | .int i=>some (.inl i)
 | .str x=>some (.inr x)
 |_=>none
def nS(d:D):Option (List Int):=match d with
 | .tup xs=>intsOf xs
 |_=>none
def look{κ:Type} [DecidableEq κ](kvs:List (κ×D))(k:κ):Option D:=(kvs.find? fun kv=>decide (kv.1=k)).map (·.2)
def put{κ:Type} [DecidableEq κ](kvs:List (κ×D))(k:κ)(v:D):List (κ×D):=
 if (kvs.any fun kv=>decide (kv.1=k))then kvs.map fun kv=>if kv.1=k then (kv.1,v)else kv else kvs++[(k,v)]
def inG(G:Hh)(x y:D):Option Bool:=match y with
 | .tup ys=>ui G x ys
 | .ref n=>match G[n]? with
   |some (.lst ys)=>ui G x ys
   |some (.frz ys)=>ui G x ys
   |some (.dK kvs)=>match pO x with
    |some k=>some (look kvs k).isSome
    |none=>none
   |_=>none
 |_=>none
def mV(x y:D):M D:=fun G=>match inG G x y with
 |some b=>some (.ok (.bl (!b)),G)
 |none=>none
def ixN(n:Nat)(i:Int):Option Nat:=if 0<=i then (if i < n then some i.toNat else none)else if -(n:Int)<=i then some (i+n).toNat else none
def atI(xs:List D)(i:Int):Option D:=(ixN xs.length i).bind fun j=>xs[j]?
def lV(o:Option D):M D:=match o with
 |some d=>ret d
 |none=>fail
def oIx(x y:D):M D:=match x,y with
 | .tup xs,.int i=>lV (atI xs i)
 | .ref n,y=>fun G=>match G[n]?,y with
   |some (.lst xs),.int i=>lV (atI xs i) G
   |some (.frz xs),.int i=>lV (atI xs i) G
   |some (.dK kvs),y=>match pO y with
    |some k=>lV (look kvs k) G
    |none=>none
   |_,_=>none
 |_,_=>fail
inductive Kd where
 |non |bl |int |str |tup |lst |dic
def kdOf(G:Hh)(d:D):Option Kd:=match d with
 | .non=>some .non
 | .bl _=>some .bl
 | .int _=>some .int
 | .str _=>some .str
 | .tup _=>some .tup
 | .ref n=>match G[n]? with
   |some (.lst _)=>some .lst
   |some (.frz _)=>some .lst
   |some (.dK _)=>some .dic
   |_=>none
def CA:Kd->Kd->Bool
 | .non,.non=>true | .bl,.bl=>true | .bl,.int=>true | .int,.int=>true | .str,.str=>true | .tup,.tup=>true | .lst,.lst=>true | .dic,.dic=>true
 |_,_=>false
def bIs(c:Kd)(ds:List D):M D:=fun G=>match ds with
 | [d]=>match kdOf G d with
   |some k=>some (.ok (.bl (CA k c)),G)
   |none=>none
 |_=>none
def dG(ds:List D):M D:=fun G=>match ds with
 | [.tup xs]=>if xs.length<=aC then some (.ok (.int xs.length),G)else none
 | [.str x]=>if x.length<=aC then some (.ok (.int x.length),G)else none
 | [.ref n]=>match G[n]? with
   |some (.lst xs)=>some (.ok (.int xs.length),G)
   |some (.frz xs)=>some (.ok (.int xs.length),G)
   |some (.dK kvs)=>some (.ok (.int kvs.length),G)
   |_=>none
 |_=>none
def jr:Int->List Int->Int
 |m,[]=>m
 |m,x :: r=>jr (if x > m then x else m) r
def yn(ds:List D):M D:=fun G=>match ds with
 | [.int i,.int j]=>some (.ok (.int (if j > i then j else i)),G)
 | [.ref n]=>match G[n]? with
   |some (.lst xs)=>match intsOf xs with
    |some (m :: r)=>some (.ok (.int (jr m r)),G)
    |_=>none
   |_=>none
 |_=>none
def qW(ds:List D):M D:=fun G=>match ds with
 | [.ref n]=>match G[n]? with
   |some (.lst xs)=>new (.lst xs) G
   |some (.frz xs)=>new (.lst xs) G
   |_=>none
 | [.tup xs]=>if xs.length<=aC then new (.lst xs) G else none
 |_=>none
def vE(ds:List D):M D:=fun G=>match ds with
 | [.int i]=>some (.ok (.int i),G)
 | [.bl b]=>some (.ok (.int (if b then 1 else 0)),G)
 | [.str x]=>match PySem.intText? x with
   |some n=>if x.length<=640 then some (.ok (.int n),G)else none
   |none=>none
 |_=>none
def iL(x y:D):M D:=fun G=>match x with
 | .ref n=>match G[n]? with
   |some (.lst xs)=>if xs.length < aC then some (.ok .non,G.set n (.lst (xs++[y])))else none
   |_=>none
 |_=>none
def isL(x:D):M Unit:=fun G=>match x with
 | .ref n=>match G[n]? with
   |some (.lst _)=>some (.ok (),G)
   |_=>none
 |_=>none
def xW(o a:E3):E3:=fun σ=>bnd (o σ) fun x=>bnd (isL x) fun _=>bnd (a σ) fun y=>iL x y
def putN(f:Nat)(v:D):List (Nat×D)->List (Nat×D)
 | []=>[(f,v)]
 |(g,x) :: r=>if g=f then (g,v) :: r else (g,x) :: putN f v r
def zq(x:D)(f:Nat):M D:=fun G=>match x with
 | .ref n=>match G[n]? with
   |some (.ins C fs)=>if C < 1000 then (match fs.lookup f with
    |some d=>some (.ok d,G)
    |none=>none)else none
   |_=>none
 |_=>none
def xw(x:D)(f:Nat)(y:D):M Unit:=fun G=>match x with
 | .ref n=>match G[n]? with
   |some (.ins C fs)=>if C < 1000/\fs.length < 1000 then some (.ok (),G.set n (.ins C (putN f y fs)))else none
   |_=>none
 |_=>none
def isC(C:Nat)(x:D):M Unit:=fun G=>match x with
 | .ref n=>match G[n]? with
   |some (.ins C' _)=>if C'=C then some (.ok (),G)else none
   |_=>none
 |_=>none
def aW(o:E3)(f:Nat):E3:=fun σ=>bnd (o σ) fun x=>zq x f
def bz(o:E3)(f:Nat)(e:E3):S3:=fun σ=>bnd (e σ) fun y=>bnd (o σ) fun x=>bnd (xw x f y) fun _=>ret (.next,σ)
def aN(C:Nat)(g:List D->M D)(o:E3)(a:A3):E3:=fun σ=>bnd (o σ) fun x=>bnd (isC C x) fun _=>bnd (a σ) fun ds=>g (x :: ds)
def xj(d:D):M Unit:=match d with
 | .non=>ret ()
 |_=>fail
def j6(C:Nat)(g:List D->M D)(a:A3):E3:=fun σ=>bnd (a σ) fun ds=>bnd (new (.ins C [])) fun x=>bnd (g (x :: ds)) fun r=>bnd (xj r) fun _=>ret x
def yo(x i v:D):M Unit:=fun G=>match x with
 | .ref n=>match G[n]? with
   |some (.lst xs)=>match i with
    | .int k=>match ixN xs.length k with
      |some j=>some (.ok (),G.set n (.lst (xs.set j v)))
      |none=>none
    |_=>none
   |some (.dK kvs)=>match pO i with
    |some k=>if kvs.length < aC then some (.ok (),G.set n (.dK (put kvs k v)))else none
    |none=>none
   |_=>none
 |_=>none
def w6(o i e:E3):S3:=fun σ=>bnd (e σ) fun v=>bnd (o σ) fun x=>bnd (i σ) fun y=>bnd (yo x y v) fun _=>ret (.next,σ)
def oX:E3:=fun _=>new (.dK [])
def sIx(n d:Nat):Option Int->Nat
 |none=>d
 |some v=>if v < 0 then (v+(n:Int)).toNat else min v.toNat n
def cutD(xs:List D)(lo hi:Option Int):List D:=(xs.drop (sIx xs.length 0 lo)).take (sIx xs.length xs.length hi - sIx xs.length 0 lo)
abbrev P3:=St->M (Option Int)
def tF:P3:=fun _=>ret none
def asI(d:D):M (Option Int):=match d with
 | .int i=>ret (some i)
 |_=>fail
def oT(e:E3):P3:=fun σ=>bnd (e σ) asI
def oSl(x:D)(lo hi:Option Int):M D:=fun G=>match x with
 | .tup xs=>if sIx xs.length 0 lo=0/\sIx xs.length xs.length hi=xs.length then none else some (.ok (.tup (cutD xs lo hi)),G)
 | .ref n=>match G[n]? with
   |some (.lst xs)=>new (.lst (cutD xs lo hi)) G
   |some (.frz xs)=>new (.lst (cutD xs lo hi)) G
   |_=>none
 |_=>none
def eSl(e:E3)(lo hi:P3):E3:=fun σ=>bnd (e σ) fun x=>bnd (lo σ) fun l=>bnd (hi σ) fun h=>oSl x l h
def jg(x y:D):M D:=fun G=>match x,y with
 | .ref n,.ref m=>match G[n]?,G[m]? with
   |some (.lst xs),some (.lst ys)=>if xs.length+ys.length<=aC then some (.ok .non,G.set n (.lst (xs++ys)))else none
   |_,_=>none
 |_,_=>none
def lc(x i:D):M D:=fun G=>match x,i with
 | .ref n,.int i=>match G[n]? with
   |some (.lst xs)=>match ixN xs.length i with
    |some k=>match xs[k]? with
     |some y=>if -(2 ^ 62)<=i/\i < 2 ^ 62 then some (.ok y,G.set n (.lst (xs.eraseIdx k)))else none
     |none=>none
    |none=>none
   |_=>none
 |_,_=>none
def tN(o a:E3):E3:=fun σ=>bnd (o σ) fun x=>bnd (isL x) fun _=>bnd (a σ) fun y=>jg x y
def sA(o a:E3):E3:=fun σ=>bnd (o σ) fun x=>bnd (isL x) fun _=>bnd (a σ) fun y=>lc x y
def t8(x:D):M D:=fun G=>match x with
 | .ref n=>match G[n]? with
   |some (.dK kvs)=>new (.lst (kvs.map (·.2))) G
   |_=>none
 |_=>none
def zE(o:E3):E3:=fun σ=>bnd (o σ) t8
structure Src where
 xs:List D
 ck:Hh->Bool
abbrev I3:=St->M Src
def srcOf(d:D):M Src:=match d with
 | .tup xs=>ret ⟨xs,fun _=>true⟩
 | .ref n=>fun G=>match G[n]? with
   |some (.lst xs)=>some (.ok ⟨xs,fun G'=>decide (G'[n]? =some (.lst xs))⟩,G)
   |some (.frz xs)=>some (.ok ⟨xs,fun G'=>decide (G'[n]? =some (.frz xs))⟩,G)
   |_=>none
 |_=>fail
def iOf(e:E3):I3:=fun σ=>bnd (e σ) srcOf
def rA(i:Int):Bool:=decide (-(2 ^ 62)<=i/\i < 2 ^ 62)
def rng(i:Int)(n:Nat):List D:=(List.range n).map fun(k:Nat)=>.int (i+(k:Int))
def BX(x:D):M Src:=match x with
 | .int j=>if rA j then ret ⟨rng 0 j.toNat,fun _=>true⟩else fail
 |_=>fail
def gK(a:E3):I3:=fun σ=>bnd (a σ) BX
def dR(σ:St)(cap:List Nat):St:=cap.map fun i=>(σ[i]?).join
def b6(ck:Hh->Bool)(cond:D->M Bool)(elt:D->M D):List D->List D->M (List D)
 | [],acc=>fun G=>if ck G then some (.ok acc,G)else none
 |x :: r,acc=>fun G=>if ck G then bnd (cond x) (fun c=>if c then bnd (elt x) (fun y=>if acc.length < aC then b6 ck cond elt r (acc++[y])else fail)else b6 ck cond elt r acc) G else none
def gz(it:I3)(cap:List Nat)(cond:T3)(elt:E3):E3:=fun σ=>bnd (it σ) fun s=>
 bnd (b6 s.ck (fun x=>cond (some x :: dR σ cap)) (fun x=>elt (some x :: dR σ cap)) s.xs []) fun ys=>new (.lst ys)
def kU:T3:=fun _=>ret true
def bf:S3:=fun σ=>ret (.next,σ)
def aw(a b:S3):S3:=fun σ=>bnd (a σ) fun r=>match r.1 with
 | .next=>b r.2
 |f=>ret (f,r.2)
def bD(i:Nat)(e:E3):S3:=fun σ=>bnd (e σ) fun d=>ret (.next,σ.set i (some d))
def lD:List Nat->List D->St->Option St
 | [],[],σ=>some σ
 |i :: r,d :: t,σ=>lD r t (σ.set i (some d))
 |_,_,_=>none
def gUn(is:List Nat)(d:D)(σ:St):M St:=match d with
 | .tup ds=>match lD is ds σ with
   |some σ'=>ret σ'
   |none=>fail
 |_=>fail
def gNm(i:Nat)(d:D)(σ:St):M St:=ret (σ.set i (some d))
def sUn(is:List Nat)(e:E3):S3:=fun σ=>bnd (e σ) fun d=>bnd (gUn is d σ) fun σ'=>ret (.next,σ')
def cj(e:E3):S3:=fun σ=>bnd (e σ) fun _=>ret (.next,σ)
def aG(e:E3):S3:=fun σ=>bnd (e σ) fun d=>ret (.ret d,σ)
def sIf(t:T3)(a b:S3):S3:=fun σ=>bnd (t σ) fun c=>if c then a σ else b σ
def forL(ck:Hh->Bool)(body:D->St->M (Fl×St)):List D->St->M (Fl×St)
 | [],σ=>fun G=>if ck G then some (.ok (.next,σ),G)else none
 |x :: r,σ=>fun G=>if ck G then bnd (body x σ) (fun p=>match p.1 with
    | .next=>forL ck body r p.2
    | .cont=>forL ck body r p.2
    | .brk=>ret (.next,p.2)
    | .ret d=>ret (.ret d,p.2)) G else none
def i0(t:T3)(body:S3):Nat->St->M (Fl×St)
 |0,_=>fail
 |k+1,σ=>bnd (t σ) fun c=>if c then bnd (body σ) (fun p=>match p.1 with
   | .next=>i0 t body k p.2
   | .cont=>i0 t body k p.2
   | .brk=>ret (.next,p.2)
   | .ret d=>ret (.ret d,p.2))else ret (.next,σ)
def sZ:Nat:=1000000000
def sE(t:T3)(body:S3):S3:=fun σ=>i0 t body sZ σ
def jF(it:I3)(g:D->St->M St)(body:S3):S3:=fun σ=>bnd (it σ) fun s=>forL s.ck (fun x σ=>bnd (g x σ) body) s.xs σ
def iz(xs:List D):List D:=xs.mapIdx fun i x=>.tup [.int (i:Int),x]
def o9(d:D):M Src:=fun G=>match d with
 | .ref n=>match G[n]? with
   |some (.lst xs)=>some (.ok ⟨iz xs,fun G'=>decide (G'[n]? =some (.lst xs))⟩,G)
   |some (.frz xs)=>some (.ok ⟨iz xs,fun G'=>decide (G'[n]? =some (.frz xs))⟩,G)
   |_=>none
 |_=>none
def zC(e:E3):I3:=fun σ=>bnd (e σ) o9
def IM:Key->D
 | .inl i=>.int i
 | .inr x=>.str x
def eK(kvs:List (Key×D)):List D:=kvs.map fun kv=>.tup [IM kv.1,kv.2]
def uG(n:Nat)(kvs:List (Key×D))(m:M (Fl×St)):M (Fl×St):=fun G=>match m (G.set n (.dF kvs))with
 |some (.ok p,G')=>if G'[n]? =some (.dF kvs)then some (.ok p,G'.set n (.dK kvs))else none
 |_=>none
def vc(body:D->St->M (Fl×St))(σ:St)(d:D):M (Fl×St):=fun G=>match d with
 | .ref n=>match G[n]? with
   |some (.dK kvs)=>uG n kvs (forL (fun _=>true) body (eK kvs) σ) G
   |_=>none
 |_=>none
def uZ(e:E3)(g:D->St->M St)(body:S3):S3:=fun σ=>bnd (e σ) (vc (fun x σ=>bnd (g x σ) body) σ)
def qM(x i v:D):M Unit:=fun G=>match x with
 | .ref n=>match G[n]? with
   |some (.dT kvs)=>match nS i with
    |some k=>if kvs.length < aC then some (.ok (),G.set n (.dT (put kvs k v)))else none
    |none=>none
   |_=>none
 |_=>none
def Ao(o i e:E3):S3:=fun σ=>bnd (e σ) fun v=>bnd (o σ) fun x=>bnd (i σ) fun y=>bnd (qM x y v) fun _=>ret (.next,σ)
def zk(k v:E3):E3:=fun σ=>bnd (new (.dT [])) fun x=>bnd (k σ) fun a=>bnd (v σ) fun b=>bnd (qM x a b) fun _=>ret x
def gZ(x y:D)(G:Hh):Option (Option D):=match y with
 | .ref n=>match G[n]? with
   |some (.dT kvs)=>(nS x).map (look kvs)
   |_=>none
 |_=>none
def zA(x y:D):M D:=fun G=>(gZ x y G).map fun o=>(.ok (.bl o.isSome),G)
def kz(x y:D):M D:=fun G=>(gZ x y G).map fun o=>(.ok (.bl (!o.isSome)),G)
def xQ(x y:D):M D:=fun G=>match gZ y x G with
 |some (some d)=>some (.ok d,G)
 |_=>none
def throw{α:Type}(c:Nat):M α:=fun G=>some (.exc c,G)
def lj(c:Nat)(a:A3):S3:=fun σ=>bnd (a σ) fun xs=>if xs.length<=aC then throw c else fail
def pick(c:Nat):List ((Nat->Bool)×S3)->Option S3
 | []=>none
 |(m,f) :: r=>if m c then some f else pick c r
def vg(e:E3)(k:D->St->Fl×St)(ms:List ((Nat->Bool)×S3)):S3:=fun σ G=>match e σ G with
 |some (.ok d,G')=>some (.ok (k d σ),G')
 |some (.exc c,G')=>match pick c ms with
  |some f=>f σ G'
  |none=>none
 |none=>none
def Bz{e:E3}{k:D->St->Fl×St}{ms:List ((Nat->Bool)×S3)}{σ:St}{G:Hh}{Q:Fl×St->Hh->Prop}{Z:Nat->Hh->Prop}(h:run (vg e k ms σ) G Q Z):
 run (e σ) G (fun d G'=>Q (k d σ) G') fun c G'=>∃f,pick c ms=some f/\run (f σ) G' Q Z:=by
 unfold run vg at*
 cases q:e σ G with
 |none=>rw[q]at h;exact h
 |some p=>
  obtain⟨o,G1⟩:=p
  rw[q]at h
  cases o with
  |ok d=>exact h
  |exc c=>
   dsimp only at h ⊢
   cases z:pick c ms with
   |none=>rw[z]at h;exact False.elim h
   |some f=>rw[z]at h;exact⟨f,rfl,h⟩
def fnM(n:Nat)(pad:St)(body:S3):List D->M D:=fun ds=>if ds.length=n then bnd (body (ds.map some++pad)) (fun p=>match p.1 with
 | .ret d=>ret d
 | .next=>ret .non
 |_=>fail)else fail
def BD(x y:D):M D:=match x,y with
 | .tup a,.tup b=>match intsOf a,intsOf b with
   |some m,some n=>ret (.bl (!k6 m n))
   |_,_=>fail
 |_,_=>fail
section
variable{α β:Type}{G G':Hh}{E:Nat->Hh->Prop}{σ:St}
def ay{m:M α}{k:α->M β}{Q:β->Hh->Prop}(h:run m G (fun a G1=>run (k a) G1 Q E) E):run (bnd m k) G Q E:=by
 unfold run bnd at*
 cases e:m G with
 |none=>rw[e]at h;exact h
 |some p=>
  obtain⟨o,G1⟩:=p
  rw[e]at h
  cases o with
  |ok a=>exact h
  |exc c=>exact h
def fL{a:α}{Q:α->Hh->Prop}(h:Q a G):run (ret a) G Q E:=h
def w_ite{c:Bool}{m m':M α}{Q:α->Hh->Prop}(h1:c=true->run m G Q E)(h2:c=false->run m' G Q E):run (if c=true then m else m') G Q E:=by
 cases c with
 |true=>exact h1 rfl
 |false=>exact h2 rfl
def lM{m m':M α}{Q:α->Hh->Prop}(h1:run m G Q E):run (if true=true then m else m') G Q E:=h1
def mT{m m':M α}{Q:α->Hh->Prop}(h1:run m' G Q E):run (if false=true then m else m') G Q E:=h1
def ol{m m':M α}{Q:α->Hh->Prop}(h1:run m' G Q E):run (if (!true)=true then m else m') G Q E:=h1
def ox{m m':M α}{Q:α->Hh->Prop}(h1:run m G Q E):run (if (!false)=true then m else m') G Q E:=h1
def aP{m:M α}{Q:α->Hh->Prop}{a:α}(h:m G=some (.ok a,G'))(q:Q a G'):run m G Q E:=by
 unfold run;rw[h];exact q
variable{Q:D->Hh->Prop}{QB:Bool->Hh->Prop}{QA:List D->Hh->Prop}{QS:Fl×St->Hh->Prop}
def w_var{i:Nat}{d:D}(e:σ[i]? =some (some d))(h:Q d G):run (aa i σ) G Q E:=by
 unfold aa;rw[e];exact h
def w_c{d:D}(h:Q d G):run (eC d σ) G Q E:=h
def aD{f:D->D->M D}{a b:E3}(h:run (a σ) G (fun x G1=>run (b σ) G1 (fun y G2=>run (f x y) G2 Q E) E) E):run (eOp f a b σ) G Q E:=
 ay (aq h (fun _ _ q=>ay q) fun _ _ q=>q)
def lL{f:D->M D}{a:E3}(h:run (a σ) G (fun x G1=>run (f x) G1 Q E) E):run (eUn f a σ) G Q E:=ay h
def aB(h:QA [] G):run (ao σ) G QA E:=h
def aj{e:E3}{r:A3}(h:run (e σ) G (fun x G1=>run (r σ) G1 (fun xs G2=>QA (x :: xs) G2) E) E):run (ae e r σ) G QA E:=
 ay (aq h (fun _ _ q=>ay q) fun _ _ q=>q)
def wu{a:A3}(h:run (a σ) G (fun xs G1=>xs.length<=aC/\Q (.tup xs) G1) E):run (cm a σ) G Q E:=
 ay (aq h (fun _ _ q=>by rw[if_pos q.1];exact q.2) fun _ _ q=>q)
def yR{a:A3}(h:run (a σ) G (fun xs G1=>xs.length<=aC/\Q (.ref G1.length) (G1++[.lst xs])) E):run (dJ a σ) G Q E:=
 ay (aq h (fun _ _ q=>by rw[if_pos q.1];exact q.2) fun _ _ q=>q)
def bT{f:List D->M D}{a:A3}(h:run (a σ) G (fun ds G1=>run (f ds) G1 Q E) E):run (aF f a σ) G Q E:=ay h
def jM{e:E3}(h:run (e σ) G (fun x G1=>run (truth x) G1 QB E) E):run (tOf e σ) G QB E:=ay h
def dI{e:E3}(h:run (e σ) G (fun x G1=>run (asB x) G1 QB E) E):run (tB e σ) G QB E:=ay h
def cn{b:Bool}(h:QB b G):run (asB (.bl b)) G QB E:=h
def lA{b:Bool}(h:QB b G):run (truth (.bl b)) G QB E:=h
def lH{t:T3}(h:run (t σ) G (fun c G1=>QB (!c) G1) E):run (fO t σ) G QB E:=ay h
def kc{t u:T3}(h:run (t σ) G (fun c G1=>run (if c=true then u σ else ret false) G1 QB E) E):run (lF t u σ) G QB E:=ay h
def oY{t u:T3}(h:run (t σ) G (fun c G1=>run (if c=true then ret true else u σ) G1 QB E) E):run (tOr t u σ) G QB E:=ay h
def wd{a b:E3}(h:run (a σ) G (fun x G1=>run (asB x) G1 (fun c G2=>run (if c=true then b σ else ret (.bl false)) G2 Q E) E) E):run (we a b σ) G Q E:=
 ay (aq h (fun _ _ q=>ay q) fun _ _ q=>q)
def HX{a b:E3}(h:run (a σ) G (fun x G1=>run (asB x) G1 (fun c G2=>run (if c=true then ret (.bl true)else b σ) G2 Q E) E) E):run (eOr a b σ) G Q E:=
 ay (aq h (fun _ _ q=>ay q) fun _ _ q=>q)
def EM{a:E3}(h:run (a σ) G (fun x G1=>run (asB x) G1 (fun c G2=>Q (.bl (!c)) G2) E) E):run (Cf a σ) G Q E:=
 ay (aq h (fun _ _ q=>ay q) fun _ _ q=>q)
def GV{t:T3}{a b:E3}(h:run (t σ) G (fun c G1=>run (if c=true then a σ else b σ) G1 Q E) E):run (eIf t a b σ) G Q E:=ay h
def Ah{i j:Int}(h:Q (.int (i+j)) G):run (gI (.int i) (.int j)) G Q E:=h
def Aq{a b:Str}(hl:a.length+b.length<=aC)(h:Q (.str (a++b)) G):run (gI (.str a) (.str b)) G Q E:=by
 show run (if a.length+b.length<=aC then ret (D.str (a++b))else fail) G Q E
 rw[if_pos hl];exact h
def zS{i j:Nat}{a b:List D}(h1:G[i]? =some (.lst a))(h2:G[j]? =some (.lst b))(hl:a.length+b.length<=aC)(h:Q (.ref G.length) (G++[.lst (a++b)])):run (gI (.ref i) (.ref j)) G Q E:=by
 refine aP (G':=G++[.lst (a++b)]) (a:= .ref G.length) ?_ h
 show (match G[i]?,G[j]? with
  |some (.lst a),some (.lst b)=>if a.length+b.length<=aC then new (.lst (a++b)) G else none
  |_,_=>none)=_
 rw[h1,h2]
 show (if a.length+b.length<=aC then new (.lst (a++b)) G else none)=_
 rw[if_pos hl];rfl
def zH{i j:Int}(h:Q (.int (i - j)) G):run (uz (.int i) (.int j)) G Q E:=h
def zg{i j:Int}(c:(small i||small j)=true)(h:Q (.int (i*j)) G):run (fj (.int i) (.int j)) G Q E:=by
 show run (if (small i||small j)=true then ret (D.int (i*j))else fail) G Q E
 rw[if_pos c];exact h
def FR{i j:Int}(c:small i=true)(h:Q (.int (i*j)) G):run (fj (.int i) (.int j)) G Q E:=zg (by rw[c];rfl) h
def Fj{i j:Int}(c:small j=true)(h:Q (.int (i*j)) G):run (fj (.int i) (.int j)) G Q E:=zg (by rw[c];exact Bool.or_true _) h
def m5{i j:Int}(c:0 < j)(h:Q (.int (i % j)) G):run (oMod (.int i) (.int j)) G Q E:=by
 show run (if 0 < j then ret (D.int (i % j))else fail) G Q E
 rw[if_pos c];exact h
def A0{i j:Int}(h:Q (.bl (decide (i < j))) G):run (oLt (.int i) (.int j)) G Q E:=h
def Hb{i j:Int}(h:Q (.bl (decide (j < i))) G):run (oGt (.int i) (.int j)) G Q E:=h
def C9{i j:Int}(h:Q (.bl (decide (i<=j))) G):run (oLe (.int i) (.int j)) G Q E:=h
def Gy{i j:Int}(h:Q (.bl (decide (j<=i))) G):run (oGe (.int i) (.int j)) G Q E:=h
def Ho{a b:List D}{m n:List Int}(e1:intsOf a=some m)(e2:intsOf b=some n)(h:Q (.bl (k6 n m)) G):run (oGt (.tup a) (.tup b)) G Q E:=by
 show run (match intsOf a,intsOf b with
  |some m,some n=>ret (.bl (k6 n m))
  |_,_=>fail) G Q E
 rw[e1,e2];exact h
def w_eq{x y:D}{b:Bool}(e:eqG G 8 x y=some b)(h:Q (.bl b) G):run (oEq x y) G Q E:=by
 refine aP (a:= .bl b) (G':=G) ?_ h
 unfold oEq;rw[e]
def qE{x y:D}{b:Bool}(e:eqG G 8 x y=some b)(h:Q (.bl (!b)) G):run (oNe x y) G Q E:=by
 refine aP (a:= .bl (!b)) (G':=G) ?_ h
 unfold oNe;rw[e]
def BE{x y:D}{b:Bool}(e:inG G x y=some b)(h:Q (.bl (!b)) G):run (mV x y) G Q E:=by
 refine aP (a:= .bl (!b)) (G':=G) ?_ h
 unfold mV;rw[e]
def bi{xs:List D}{i:Int}{d:D}(e:atI xs i=some d)(h:Q d G):run (oIx (.tup xs) (.int i)) G Q E:=by
 refine aP (a:=d) (G':=G) ?_ h
 show lV (atI xs i) G=_
 rw[e];rfl
def eE{n:Nat}{xs:List D}{i:Int}{d:D}(hl:G[n]? =some (.lst xs))(e:atI xs i=some d)(h:Q d G):run (oIx (.ref n) (.int i)) G Q E:=by
 refine aP (a:=d) (G':=G) ?_ h
 unfold oIx
 dsimp only
 rw[hl]
 show lV (atI xs i) G=_
 rw[e];rfl
def Gg{n:Nat}{xs:List D}{i:Int}{d:D}(hl:G[n]? =some (.frz xs))(e:atI xs i=some d)(h:Q d G):run (oIx (.ref n) (.int i)) G Q E:=by
 refine aP (a:=d) (G':=G) ?_ h
 unfold oIx
 dsimp only
 rw[hl]
 show lV (atI xs i) G=_
 rw[e];rfl
def xh{x:D}(h:Q (.bl (decide (x= .non))) G):run (nR x) G Q E:=h
def g8{x:D}(h:Q (.bl (!decide (x= .non))) G):run (fQ x) G Q E:=h
def rS{z:Int}(h:Q (.bl true) G):run (bIs .int [(.int z)]) G Q E:=h
def uH{z:Int}(h:Q (.bl false) G):run (bIs .bl [(.int z)]) G Q E:=h
def sg{z:Str}(h:Q (.bl true) G):run (bIs .str [(.str z)]) G Q E:=h
def sQ{z:List D}(h:Q (.bl true) G):run (bIs .tup [(.tup z)]) G Q E:=h
def iT{n:Nat}{xs:List D}(hl:G[n]? =some (.lst xs))(h:Q (.bl true) G):run (bIs .lst [.ref n]) G Q E:=by
 refine aP (a:= .bl true) (G':=G) ?_ h
 unfold bIs kdOf;dsimp only;rw[hl];rfl
def ED{xs:List D}(hl:xs.length<=aC)(h:Q (.int xs.length) G):run (dG [.tup xs]) G Q E:=by
 refine aP (a:= .int xs.length) (G':=G) ?_ h
 show (if xs.length<=aC then some (Oc.ok (D.int xs.length),G)else none)=_
 rw[if_pos hl]
def dD{n:Nat}{xs:List D}(hl:G[n]? =some (.lst xs))(h:Q (.int xs.length) G):run (dG [.ref n]) G Q E:=by
 refine aP (a:= .int xs.length) (G':=G) ?_ h
 unfold dG;dsimp only;rw[hl]
def F2{n:Nat}{xs:List D}(hl:G[n]? =some (.frz xs))(h:Q (.int xs.length) G):run (dG [.ref n]) G Q E:=by
 refine aP (a:= .int xs.length) (G':=G) ?_ h
 unfold dG;dsimp only;rw[hl]
def Dk{o a:E3}(h:run (o σ) G (fun x G1=>run (isL x) G1 (fun _ G2=>run (a σ) G2 (fun y G3=>run (iL x y) G3 Q E) E) E) E):run (xW o a σ) G Q E:=
 ay (aq h (fun _ _ q=>ay (aq q (fun _ _ q=>ay q) fun _ _ q=>q)) fun _ _ q=>q)
def mG{n:Nat}{xs:List D}{QU:Unit->Hh->Prop}(hl:G[n]? =some (.lst xs))(h:QU () G):run (isL (.ref n)) G QU E:=by
 refine aP (a:=()) (G':=G) ?_ h
 unfold isL;dsimp only;rw[hl]
def DC{n:Nat}{xs:List D}{m:Int}{r:List Int}(hl:G[n]? =some (.lst xs))(e:intsOf xs=some (m :: r))(h:Q (.int (jr m r)) G):run (yn [.ref n]) G Q E:=by
 refine aP (a:= .int (jr m r)) (G':=G) ?_ h
 unfold yn;dsimp only;rw[hl];dsimp only;rw[e]
def BO{n:Nat}{xs:List D}(hl:G[n]? =some (.lst xs))(h:Q (.ref G.length) (G++[.lst xs])):run (qW [.ref n]) G Q E:=by
 refine aP (a:= .ref G.length) (G':=G++[.lst xs]) ?_ h
 unfold qW;dsimp only;rw[hl];rfl
def yH{n:Nat}{xs:List D}{y:D}(hl:G[n]? =some (.lst xs))(hz:xs.length < aC)(h:Q .non (G.set n (.lst (xs++[y])))):run (iL (.ref n) y) G Q E:=by
 refine aP (a:= .non) (G':=G.set n (.lst (xs++[y]))) ?_ h
 unfold iL;dsimp only;rw[hl];dsimp only;rw[if_pos hz]
def mw{e:E3}{QI:Src->Hh->Prop}(h:run (e σ) G (fun x G1=>run (srcOf x) G1 QI E) E):run (iOf e σ) G QI E:=ay h
def eS{n:Nat}{xs:List D}{QI:Src->Hh->Prop}(hl:G[n]? =some (.lst xs))(h:QI ⟨xs,fun G'=>decide (G'[n]? =some (.lst xs))⟩ G):run (srcOf (.ref n)) G QI E:=by
 refine aP (G':=G) ?_ h
 unfold srcOf;dsimp only;rw[hl]
def gN{a:E3}{QI:Src->Hh->Prop}(h:run (a σ) G (fun x G1=>run (BX x) G1 QI E) E):run (gK a σ) G QI E:=ay h
def mD{i:Int}{n k:Nat}{x:D}(h:(rng i n)[k]? =some x):x= .int (i+k)/\k < n:=by
 unfold rng at h
 rw[qQ_]at h
 by_cases hk:k < n
 · rw[List.getElem?_range hk]at h
   simp at h
   exact⟨h.symm,hk⟩
 · rw[List.getElem?_eq_none (by simpa using hk)]at h
   cases h
def oh{i:Int}{n:Nat}:(rng i n).length=n:=by simp [rng]
theorem kA{ck:Hh->Bool}{cond:D->M Bool}{elt:D->M D}{xs:List D}(P:Nat->List D->Hh->Prop)
 (hck:∀i acc G,P i acc G->ck G=true)
 (hs:∀i x acc G,xs[i]? =some x->P i acc G->run (cond x) G (fun c G1=>if c=true then run (elt x) G1 (fun y G2=>acc.length < aC/\P (i+1) (acc++[y]) G2) E else P (i+1) acc G1) E)
 (hd:∀acc G,P xs.length acc G->QA acc G):∀(r:List D) (i:Nat) (acc:List D) (G:Hh),xs.drop i=r->i<=xs.length->P i acc G->run (b6 ck cond elt r acc) G QA E
 | [],i,acc,G,e,hi,p=>by
   have hl:i=xs.length:=by
    have:=congrArg List.length e
    simp at this
    omega
   subst hl
   refine aP (G':=G) (a:=acc) ?_ (hd acc G p)
   unfold b6;rw[if_pos (hck _ _ _ p)]
 |x :: r,i,acc,G,e,hi,p=>by
  have hx:xs[i]? =some x:=by
   have:=congrArg (fun l=>l[0]?) e
   simpa using this
  have hlt:i < xs.length:=(qB_.mp hx).1
  have er:xs.drop (i+1)=r:=by
   have:=congrArg List.tail e
   simpa using this
  have key:run (bnd (cond x) (fun c=>if c=true then bnd (elt x) (fun y=>if acc.length < aC then b6 ck cond elt r (acc++[y])else fail)else b6 ck cond elt r acc)) G QA E:=by
   refine ay (aq (hs i x acc G hx p) (fun c G1 q=>?_) fun _ _ q=>q)
   cases c with
   |false=>exact kA P hck hs hd r (i+1) acc G1 er hlt q
   |true=>
    refine ay (aq q (fun y G2 q2=>?_) fun _ _ q=>q)
    rw[if_pos q2.1]
    exact kA P hck hs hd r (i+1) (acc++[y]) G2 er hlt q2.2
  unfold run at key ⊢
  rw[show b6 ck cond elt (x :: r) acc G=bnd (cond x) (fun c=>if c=true then bnd (elt x) (fun y=>if acc.length < aC then b6 ck cond elt r (acc++[y])else fail)else b6 ck cond elt r acc) G by
   conv=>lhs;unfold b6
   rw[if_pos (hck _ _ _ p)]]
  exact key
def rL{it:I3}{cap:List Nat}{cond:T3}{elt:E3}
 (h:run (it σ) G (fun s G1=>run (b6 s.ck (fun x=>cond (some x :: dR σ cap)) (fun x=>elt (some x :: dR σ cap)) s.xs []) G1 (fun ys G2=>Q (.ref G2.length) (G2++[.lst ys])) E) E):run (gz it cap cond elt σ) G Q E:=
 ay (aq h (fun s G1 q=>ay q) fun _ _ q=>q)
def sK(b:S3)(r:Fl×St):M (Fl×St):=match r.1 with
 | .next=>b r.2
 |f=>ret (f,r.2)
def aA{a b:S3}(h:run (a σ) G (fun r G1=>run (sK b r) G1 QS E) E):run (aw a b σ) G QS E:=ay h
def w_next{b:S3}{σ':St}(h:run (b σ') G QS E):run (sK b (.next,σ')) G QS E:=h
def FH{b:S3}{σ':St}{d:D}(h:QS (.ret d,σ') G):run (sK b (.ret d,σ')) G QS E:=h
def cZ(h:QS (.next,σ) G):run (bf σ) G QS E:=h
def bB{i:Nat}{e:E3}(h:run (e σ) G (fun d G1=>QS (.next,σ.set i (some d)) G1) E):run (bD i e σ) G QS E:=ay h
def AG{is:List Nat}{e:E3}(h:run (e σ) G (fun d G1=>run (gUn is d σ) G1 (fun σ' G2=>QS (.next,σ') G2) E) E):run (sUn is e σ) G QS E:=
 ay (aq h (fun _ _ q=>ay q) fun _ _ q=>q)
def wO{is:List Nat}{ds:List D}{σ':St}{QG:St->Hh->Prop}(e:lD is ds σ=some σ')(h:QG σ' G):run (gUn is (.tup ds) σ) G QG E:=by
 show run (match lD is ds σ with
  |some σ'=>ret σ'
  |none=>fail) G QG E
 rw[e];exact h
def dZ{e:E3}(h:run (e σ) G (fun _ G1=>QS (.next,σ) G1) E):run (cj e σ) G QS E:=ay h
def bI{e:E3}(h:run (e σ) G (fun d G1=>QS (.ret d,σ) G1) E):run (aG e σ) G QS E:=ay h
def b8{t:T3}{a b:S3}(h:run (t σ) G (fun c G1=>run (if c=true then a σ else b σ) G1 QS E) E):run (sIf t a b σ) G QS E:=ay h
theorem oG{ck:Hh->Bool}{body:D->St->M (Fl×St)}{xs:List D}(P:Nat->St->Hh->Prop)
 (hck:∀i σ G,P i σ G->ck G=true)
 (hs:∀i x σ G,xs[i]? =some x->P i σ G->run (body x σ) G (fun p G1=>match p.1 with
   | .next=>P (i+1) p.2 G1
   | .cont=>P (i+1) p.2 G1
   | .brk=>QS (.next,p.2) G1
   | .ret d=>QS (.ret d,p.2) G1) E)
 (hd:∀σ G,P xs.length σ G->QS (.next,σ) G):∀(r:List D) (i:Nat) (σ:St) (G:Hh),xs.drop i=r->i<=xs.length->P i σ G->run (forL ck body r σ) G QS E
 | [],i,σ,G,e,hi,p=>by
   have hl:i=xs.length:=by
    have:=congrArg List.length e
    simp at this
    omega
   subst hl
   refine aP (G':=G) (a:=(.next,σ)) ?_ (hd σ G p)
   unfold forL;rw[if_pos (hck _ _ _ p)]
 |x :: r,i,σ,G,e,hi,p=>by
  have hx:xs[i]? =some x:=by
   have:=congrArg (fun l=>l[0]?) e
   simpa using this
  have hlt:i < xs.length:=(qB_.mp hx).1
  have er:xs.drop (i+1)=r:=by
   have:=congrArg List.tail e
   simpa using this
  have key:run (bnd (body x σ) (fun p=>match p.1 with
   | .next=>forL ck body r p.2
   | .cont=>forL ck body r p.2
   | .brk=>ret (.next,p.2)
   | .ret d=>ret (.ret d,p.2))) G QS E:=by
   refine ay (aq (hs i x σ G hx p) (fun c G1 q=>?_) fun _ _ q=>q)
   obtain⟨f,σ1⟩:=c
   cases f with
   |next=>exact oG P hck hs hd r (i+1) σ1 G1 er hlt q
   |cont=>exact oG P hck hs hd r (i+1) σ1 G1 er hlt q
   |brk=>exact q
   |ret d=>exact q
  unfold run at key ⊢
  rw[show forL ck body (x :: r) σ G=bnd (body x σ) (fun p=>match p.1 with
   | .next=>forL ck body r p.2
   | .cont=>forL ck body r p.2
   | .brk=>ret (.next,p.2)
   | .ret d=>ret (.ret d,p.2)) G by
   conv=>lhs;unfold forL
   rw[if_pos (hck _ _ _ p)]
   all_goals rfl]
  exact key
def nG{it:I3}{g:D->St->M St}{body:S3}(h:run (it σ) G (fun s G1=>run (forL s.ck (fun x σ=>bnd (g x σ) body) s.xs σ) G1 QS E) E):run (jF it g body σ) G QS E:=ay h
def jk{i:Nat}{d:D}{QG:St->Hh->Prop}(h:QG (σ.set i (some d)) G):run (gNm i d σ) G QG E:=h
def fK(p:Fl×St):M D:=match p.1 with
 | .ret d=>ret d
 | .next=>ret .non
 |_=>fail
def Eb{n:Nat}{pad:St}{body:S3}{ds:List D}(hl:ds.length=n)(h:run (body (ds.map some++pad)) G (fun p G1=>run (fK p) G1 Q E) E):run (fnM n pad body ds) G Q E:=by
 unfold fnM
 rw[if_pos hl]
 exact ay h
def j5{d:D}{σ':St}(h:Q d G):run (fK (.ret d,σ')) G Q E:=h
def rJ{σ':St}(h:Q .non G):run (fK (.next,σ')) G Q E:=h
end
section
variable{α β:Type}{G G':Hh}{E:Nat->Hh->Prop}{σ:St}
variable{Q:D->Hh->Prop}{QB:Bool->Hh->Prop}{QA:List D->Hh->Prop}{QS:Fl×St->Hh->Prop}{QU:Unit->Hh->Prop}
def Bp{c:Nat}{a:A3}(h:run (a σ) G (fun xs G1=>xs.length<=aC/\E c G1) E):run (lj c a σ) G QS E:=
 ay (aq h (fun xs G1 ⟨l,q⟩=>by show run (if xs.length<=aC then throw c else fail) G1 QS E;rw[if_pos l];exact q) fun _ _ z=>z)
def Gp{e:E3}{k:D->St->Fl×St}{ms:List ((Nat->Bool)×S3)}(h:run (e σ) G (fun d G'=>QS (k d σ) G') fun c G'=>∃f,pick c ms=some f/\run (f σ) G' QS E):run (vg e k ms σ) G QS E:=by
 unfold run vg at*
 cases q:e σ G with
 |none=>rw[q]at h;exact h
 |some p=>
  obtain⟨o,G1⟩:=p
  rw[q]at h
  cases o with
  |ok d=>exact h
  |exc c=>
   obtain⟨f,hf,hr⟩:=h
   dsimp only
   rw[hf]
   exact hr
def w_fld{o:E3}{f:Nat}(h:run (o σ) G (fun x G1=>run (zq x f) G1 Q E) E):run (aW o f σ) G Q E:=ay h
def bh{n C f:Nat}{fs:List (Nat×D)}{d:D}(hn:G[n]? =some (.ins C fs))(hC:C < 1000)(hf:fs.lookup f=some d)(h:Q d G):run (zq (.ref n) f) G Q E:=by
 unfold run zq
 dsimp only
 rw[hn]
 dsimp only
 rw[if_pos hC,hf]
 exact h
def Es{n C f:Nat}{fs:List (Nat×D)}{y:D}(hn:G[n]? =some (.ins C fs))(hl:C < 1000/\fs.length < 1000)(h:QU () (G.set n (.ins C (putN f y fs)))):run (xw (.ref n) f y) G QU E:=by
 unfold run xw
 dsimp only
 rw[hn]
 dsimp only
 rw[if_pos hl]
 exact h
def bU{n C:Nat}{fs:List (Nat×D)}(hn:G[n]? =some (.ins C fs))(h:QU () G):run (isC C (.ref n)) G QU E:=by
 unfold run isC
 dsimp only
 rw[hn]
 dsimp only
 rw[if_pos rfl]
 exact h
def fv{o e:E3}{f:Nat}(h:run (e σ) G (fun y G1=>run (o σ) G1 (fun x G2=>run (xw x f y) G2 (fun _ G3=>QS (.next,σ) G3) E) E) E):run (bz o f e σ) G QS E:=
 ay (aq h (fun y G1 q=>ay (aq q (fun x G2 q=>ay q) fun _ _ z=>z)) fun _ _ z=>z)
def bu{C:Nat}{g:List D->M D}{o:E3}{a:A3}(h:run (o σ) G (fun x G1=>run (isC C x) G1 (fun _ G2=>run (a σ) G2 (fun ds G3=>run (g (x :: ds)) G3 Q E) E) E) E):run (aN C g o a σ) G Q E:=
 ay (aq h (fun x G1 q=>ay (aq q (fun _ G2 q=>ay q) fun _ _ z=>z)) fun _ _ z=>z)
def Fe{C:Nat}{g:List D->M D}{a:A3}(h:run (a σ) G (fun ds G1=>run (g (.ref G1.length :: ds)) (G1++[.ins C []]) (fun r G2=>r= .non/\Q (.ref G1.length) G2) E) E):run (j6 C g a σ) G Q E:=
 ay (aq h (fun ds G1 q=>ay (show run (bnd (g (.ref G1.length :: ds)) fun r=>bnd (xj r) fun _=>ret (D.ref G1.length)) (G1++[.ins C []]) Q E from ay (aq q (fun r G2 ⟨e,q⟩=>by subst e;exact q) fun _ _ z=>z))) fun _ _ z=>z)
def FZ{o i e:E3}(h:run (e σ) G (fun v G1=>run (o σ) G1 (fun x G2=>run (i σ) G2 (fun y G3=>run (yo x y v) G3 (fun _ G4=>QS (.next,σ) G4) E) E) E) E):run (w6 o i e σ) G QS E:=
 ay (aq h (fun v G1 q=>ay (aq q (fun x G2 q=>ay (aq q (fun y G3 q=>ay q) fun _ _ z=>z)) fun _ _ z=>z)) fun _ _ z=>z)
def Fs{n:Nat}{kvs:List (Key×D)}{i v:D}{k:Key}(hn:G[n]? =some (.dK kvs))(hk:pO i=some k)(hl:kvs.length < aC)(h:QU () (G.set n (.dK (put kvs k v)))):run (yo (.ref n) i v) G QU E:=by
 unfold run yo
 dsimp only
 rw[hn]
 dsimp only
 rw[hk]
 dsimp only
 rw[if_pos hl]
 exact h
def C7{n:Nat}{kvs:List (Key×D)}{i d:D}{k:Key}(hn:G[n]? =some (.dK kvs))(hk:pO i=some k)(e:look kvs k=some d)(h:Q d G):run (oIx (.ref n) i) G Q E:=by
 unfold run oIx
 dsimp only
 rw[hn]
 cases i with
 |int z=>dsimp only;rw[hk];dsimp only;rw[e];exact h
 |str z=>dsimp only;rw[hk];dsimp only;rw[e];exact h
 |_=>cases hk
def tK{o a:E3}(h:run (o σ) G (fun x G1=>run (isL x) G1 (fun _ G2=>run (a σ) G2 (fun y G3=>run (jg x y) G3 Q E) E) E) E):run (tN o a σ) G Q E:=
 ay (aq h (fun x G1 q=>ay (aq q (fun _ G2 q=>ay q) fun _ _ z=>z)) fun _ _ z=>z)
def yh{n m:Nat}{xs ys:List D}(hn:G[n]? =some (.lst xs))(hm:G[m]? =some (.lst ys))(hl:xs.length+ys.length<=aC)(h:Q .non (G.set n (.lst (xs++ys)))):run (jg (.ref n) (.ref m)) G Q E:=by
 unfold run jg
 dsimp only
 rw[hn,hm]
 dsimp only
 rw[if_pos hl]
 exact h
def wM{o a:E3}(h:run (o σ) G (fun x G1=>run (isL x) G1 (fun _ G2=>run (a σ) G2 (fun y G3=>run (lc x y) G3 Q E) E) E) E):run (sA o a σ) G Q E:=
 ay (aq h (fun x G1 q=>ay (aq q (fun _ G2 q=>ay q) fun _ _ z=>z)) fun _ _ z=>z)
def yJ{n k:Nat}{xs:List D}{i:Int}{y:D}(hn:G[n]? =some (.lst xs))(hk:ixN xs.length i=some k)(hy:xs[k]? =some y)(hi:-(2 ^ 62)<=i/\i < 2 ^ 62)(h:Q y (G.set n (.lst (xs.eraseIdx k)))):run (lc (.ref n) (.int i)) G Q E:=by
 unfold run lc
 dsimp only
 rw[hn]
 dsimp only
 rw[hk]
 dsimp only
 rw[hy]
 dsimp only
 rw[if_pos hi]
 exact h
def FG{o:E3}(h:run (o σ) G (fun x G1=>run (t8 x) G1 Q E) E):run (zE o σ) G Q E:=ay h
def CL{n:Nat}{kvs:List (Key×D)}(hn:G[n]? =some (.dK kvs))(h:Q (.ref G.length) (G++[.lst (kvs.map (·.2))])):run (t8 (.ref n)) G Q E:=by
 unfold run t8
 dsimp only
 rw[hn]
 exact h
def HZ{e:E3}{lo hi:P3}(h:run (e σ) G (fun x G1=>run (lo σ) G1 (fun l G2=>run (hi σ) G2 (fun r G3=>run (oSl x l r) G3 Q E) E) E) E):run (eSl e lo hi σ) G Q E:=
 ay (aq h (fun x G1 q=>ay (aq q (fun l G2 q=>ay q) fun _ _ z=>z)) fun _ _ z=>z)
end
end M3
namespace L3
open PySem PySem.Spec PyProof.Rows L2
structure Tab where
 cls:Nat->Option Addr
 nm:Nat->Str
mutual
def Den(K:PySem.W.Frag)(H:Hp)(μ:List Addr):M3.D->V->Prop
 | .non,v=>v= .non
 | .bl b,v=>v= .bl b
 | .int i,v=>v= .int i
 | .str x,v=>v= .str x
 | .ref n,v=>∃a,μ[n]? =some a/\v= .ref a
 | .tup ds,v=>∃a vs,v= .ref a/\SqT K H a vs/\ax K H μ ds vs
def ax(K:PySem.W.Frag)(H:Hp)(μ:List Addr):List M3.D->List V->Prop
 | [],vs=>vs=[]
 |d :: ds,vs=>∃v r,vs=v :: r/\Den K H μ d v/\ax K H μ ds r
end
structure Keeps (H H':Hp):Prop where
 tup:∀b xs,H b=some (.tup xs)->H' b=some (.tup xs)
 frz:∀b o u,H b=some (.frz o u)->H' b=some (.frz o u)
def Keeps.refl(H:Hp):Keeps H H:=⟨fun _ _ h=>h,fun _ _ _ h=>h⟩
def Keeps.trans{A B C:Hp}(a:Keeps A B)(b:Keeps B C):Keeps A C:=⟨fun _ _ h=>b.tup _ _ (a.tup _ _ h),fun _ _ _ h=>b.frz _ _ _ (a.frz _ _ _ h)⟩
def Keeps.of_same{H H':Hp}(h:gi H H'):Keeps H H':=⟨fun _ _ e=>h _ _ e,fun _ _ _ e=>h _ _ e⟩
def gi.new{H:Hp}{p:Addr}(o:HO)(h:H p=none):gi H (upd H p o):=fun b u e=>by rw[aI (cp e h)];exact e
def Keeps.write{H:Hp}{a:Addr}{o o':HO}(h:H a=some o)(ht:∀xs,o≠.tup xs)(hf:∀q u,o≠.frz q u):Keeps H (upd H a o'):=
 ⟨fun b xs e=>by rw[aI (yL e h (fun z=>ht xs z.symm))];exact e,fun b q u e=>by rw[aI (yL e h (fun z=>hf q u z.symm))];exact e⟩
def SqT.keeps{K:PySem.W.Frag}{H H':Hp}{a:Addr}{xs:List V}(k:Keeps H H')(h:SqT K H a xs):SqT K H' a xs:=by
 rcases h with (h |⟨o,h⟩) |h
 · exact .inl (.inl (k.tup _ _ h))
 · exact .inl (.inr ⟨o,k.frz _ _ _ h⟩)
 · exact .inr h
def SqF(K:PySem.W.Frag)(H:Hp)(a:Addr)(xs:List V):Prop:=
 (∃o,H a=some (.frz o (.lst xs)))\/
   ∃(o:Obj) (its:Array Value) (n:Nat),K.lookup a=some o/\o.cls= .type "list"/\o.dict=none/\o.data= .seq its n/\its.size<=sizeLine/\Vals xs its.toList
def SqF.keeps{K:PySem.W.Frag}{H H':Hp}{a:Addr}{xs:List V}(k:Keeps H H')(h:SqF K H a xs):SqF K H' a xs:=by
 rcases h with ⟨o,h⟩ |h
 · exact .inl ⟨o,k.frz _ _ _ h⟩
 · exact .inr h
def SqF.sq{K:PySem.W.Frag}{H:Hp}{a:Addr}{xs:List V}(h:SqF K H a xs):SqL K H a xs:=by
 rcases h with ⟨o,h⟩ |h
 · exact .inl (.inr ⟨o,h⟩)
 · exact .inr h
structure Up (μ μ':List Addr) (H H':Hp):Prop where
 pre:μ <+: μ'
 keeps:Keeps H H'
 rest:∀b o,H b=some o->b∉μ->H' b=some o/\b∉μ'
theorem Up.refl(μ:List Addr)(H:Hp):Up μ μ H H:=⟨List.prefix_refl _,Keeps.refl _,fun _ _ h n=>⟨h,n⟩⟩
theorem Up.trans{μ μ1 μ2:List Addr}{H H1 H2:Hp}(a:Up μ μ1 H H1)(b:Up μ1 μ2 H1 H2):Up μ μ2 H H2:=⟨a.pre.trans b.pre,a.keeps.trans b.keeps,fun c o h n=>let ⟨h1,n1⟩:=a.rest c o h n;b.rest c o h1 n1⟩
def Up.same{μ:List Addr}{H H':Hp}(h:gi H H'):Up μ μ H H':=⟨List.prefix_refl _,Keeps.of_same h,fun c o e n=>⟨h c o e,n⟩⟩
theorem Up.new{μ:List Addr}{H:Hp}{p:Addr}(u:HO)(hp:H p=none):Up μ (μ++[p]) H (upd H p u):=⟨⟨[p],rfl⟩,Keeps.of_same (gi.new u hp),fun c o e n=>⟨gi.new u hp c o e,fun z=>by
 rcases qG_.mp z with z |z
 · exact n z
 · simp at z;subst z;rw[hp]at e;cases e⟩⟩
def Up.uj{μ:List Addr}{H:Hp}{a:Addr}{o o':HO}{n:Nat}(ea:μ[n]? =some a)(h:H a=some o)(ht:∀xs,o≠.tup xs)(hf:∀q u,o≠.frz q u):Up μ μ H (upd H a o'):=
 ⟨List.prefix_refl _,Keeps.write h ht hf,fun c u e nc=>⟨by rw[aI (by rintro rfl;exact nc (qD_ ea))];exact e,nc⟩⟩
def Up.at{μ μ':List Addr}{H H':Hp}(u:Up μ μ' H H'){n:Nat}{a:Addr}(h:μ[n]? =some a):μ'[n]? =some a:=by
 obtain⟨r,rfl⟩:=u.pre
 rw[qK_ (qB_.mp h).1]
 exact h
theorem E5{μ μ':List Addr}(u:μ <+: μ'){n:Nat}{a:Addr}(h:μ[n]? =some a):μ'[n]? =some a:=by
 obtain⟨r,rfl⟩:=u
 rw[qK_ (qB_.mp h).1]
 exact h
mutual
theorem Den.mono{K:PySem.W.Frag}{μ μ':List Addr}{H H':Hp}(p:μ <+: μ')(k:Keeps H H'):∀{d:M3.D} {v:V},Den K H μ d v->Den K H' μ' d v
 | .non,_,h=>h
 | .bl _,_,h=>h
 | .int _,_,h=>h
 | .str _,_,h=>h
 | .ref _,_,⟨a,e,h⟩=>⟨a,E5 p e,h⟩
 | .tup ds,_,⟨a,vs,e,h,r⟩=>⟨a,vs,e,SqT.keeps k h,ax.mono p k r⟩
theorem ax.mono{K:PySem.W.Frag}{μ μ':List Addr}{H H':Hp}(p:μ <+: μ')(k:Keeps H H'):∀{ds:List M3.D} {vs:List V},ax K H μ ds vs->ax K H' μ' ds vs
 | [],_,h=>h
 |_ :: _,_,⟨v,r,e,h,t⟩=>⟨v,r,e,Den.mono p k h,ax.mono p k t⟩
end
def Den.up{K:PySem.W.Frag}{μ μ':List Addr}{H H':Hp}(u:Up μ μ' H H'){d:M3.D}{v:V}(h:Den K H μ d v):Den K H' μ' d v:=Den.mono u.pre u.keeps h
def ax.up{K:PySem.W.Frag}{μ μ':List Addr}{H H':Hp}(u:Up μ μ' H H'){ds:List M3.D}{vs:List V}(h:ax K H μ ds vs):ax K H' μ' ds vs:=ax.mono u.pre u.keeps h
theorem ax.length{K:PySem.W.Frag}{μ:List Addr}{H:Hp}:∀{ds:List M3.D} {vs:List V},ax K H μ ds vs->ds.length=vs.length
 | [],_,h=>by cases (show _=[]from h);rfl
 |_ :: _,_,⟨v,r,e,_,t⟩=>by subst e;simp [ax.length t]
theorem ax.get{K:PySem.W.Frag}{μ:List Addr}{H:Hp}:∀{ds:List M3.D} {vs:List V} {i:Nat} {d:M3.D},ax K H μ ds vs->ds[i]? =some d->∃v,vs[i]? =some v/\Den K H μ d v
 | [],_,_,_,_,e=>by simp at e
 |d :: ds,_,0,d',⟨v,r,e,h,t⟩,q=>by
  subst e
  simp at q
  subst q
  exact⟨v,rfl,h⟩
 |d :: ds,_,i+1,d',⟨v,r,e,h,t⟩,q=>by
  subst e
  obtain⟨w,h1,h2⟩:=ax.get (i:=i) t (by simpa using q)
  exact⟨w,by simpa using h1,h2⟩
def ax.get'{K:PySem.W.Frag}{μ:List Addr}{H:Hp}{ds:List M3.D}{vs:List V}{i:Nat}{v:V}(h:ax K H μ ds vs)(e:vs[i]? =some v):∃d,ds[i]? =some d/\Den K H μ d v:=by
 have hl:i < ds.length:=by rw[h.length];exact(qB_.mp e).1
 obtain⟨w,e1,h1⟩:=ax.get h (qA_ hl)
 rw[e]at e1
 cases e1
 exact⟨_,qA_ hl,h1⟩
theorem ax.append{K:PySem.W.Frag}{μ:List Addr}{H:Hp}:∀{ds es:List M3.D} {vs ws:List V},ax K H μ ds vs->ax K H μ es ws->ax K H μ (ds++es) (vs++ws)
 | [],_,_,_,h,t=>by cases (show _=[]from h);exact t
 |_ :: _,_,_,_,⟨v,r,e,h,t⟩,s=>by subst e;exact⟨v,r++_,rfl,h,ax.append t s⟩
def ax.one{K:PySem.W.Frag}{μ:List Addr}{H:Hp}{d:M3.D}{v:V}(h:Den K H μ d v):ax K H μ [d] [v]:=⟨v,[],rfl,h,rfl⟩
theorem ax.ints{K:PySem.W.Frag}{μ:List Addr}{H:Hp}:∀{ns:List Int} {vs:List V},ax K H μ (ns.map M3.D.int) vs->vs=ns.map V.int
 | [],_,h=>h
 |n :: ns,_,⟨v,r,e,h,t⟩=>by
  subst e
  have e1:v=V.int n:=h
  rw[e1,ax.ints t];rfl
theorem ax.sk{K:PySem.W.Frag}{μ:List Addr}{H:Hp}:∀{ns:List Int},ax K H μ (ns.map M3.D.int) (ns.map V.int)
 | []=>rfl
 |n :: ns=>⟨_,_,rfl,rfl,ax.sk⟩
def isF:M3.O->Bool
 | .frz _=>true
 |_=>false
def isW:M3.O->Bool
 | .frz _=>false
 | .dF _=>false
 |_=>true
def isW.nf{o:M3.O}(h:isW o=true):isF o=false:=by cases o <;> first |rfl |cases h
def IY(x:List Int×Addr×Value):DictEntry:=⟨reduceHash (Builtin.Tuple.tupleHashOf (x.1.map hashInt)),.ref x.2.1,x.2.2⟩
def lK(a:Addr)(xs:List (List Int×Addr×Value))(h:Heap):Prop:=(a==sysModules)=false/\xs.length<=sizeLine/\∃o es ep,h.get? a=some o/\o.ExactDict/\o.data= .dict es ep/\es.toList=xs.map IY/\(xs.map (·.1)).Nodup
def ObD(T:Tab)(K:PySem.W.Frag)(H:Hp)(μ:List Addr):M3.O->Addr->Prop
 | .lst xs,a=>∃vs,H a=some (.lst vs)/\ax K H μ xs vs
 | .frz xs,a=>∃vs,SqF K H a vs/\ax K H μ xs vs
 | .dK kvs,a=>∃ws,H a=some (.dK ws)/\Paired (fun(p:M3.Key×M3.D) (q:L2.Key×V)=>p.1=q.1/\Den K H μ p.2 q.2) kvs ws
 | .dF kvs,a=>∃ob ws,H a=some (.frz ob (.dK ws))/\Paired (fun(p:M3.Key×M3.D) (q:L2.Key×V)=>p.1=q.1/\Den K H μ p.2 q.2) kvs ws
 | .dT kvs,a=>∃xs,H a=some (.ext (lK a xs))/\Paired (fun(p:List Int×M3.D) (q:List Int×Addr×Value)=>p.1=q.1/\SqT K H q.2.1 (p.1.map V.int)/\∃v,Den K H μ p.2 v/\RelV v q.2.2) kvs xs
 | .ins C fs,a=>∃Ca dx ws,T.cls C=some Ca/\H a=some (.ins Ca dx ws)/\Paired (fun(p:Nat×M3.D) (q:Str×V)=>q.1=T.nm p.1/\Den K H μ p.2 q.2) fs ws
structure Sim (T:Tab) (K:PySem.W.Frag) (μ:List Addr) (H:Hp) (G:M3.Hh):Prop where
 len:μ.length=G.length
 obj:∀(n:Nat) a o,μ[n]? =some a->G[n]? =some o->ObD T K H μ o a
 inj:∀(n m:Nat) a o o',n≠m->μ[n]? =some a->μ[m]? =some a->G[n]? =some o->G[m]? =some o'->isF o=true\/isF o'=true
def ObD.some_of{T:Tab}{K:PySem.W.Frag}{μ:List Addr}{H:Hp}{o:M3.O}{a:Addr}(h:ObD T K H μ o a)(hf:isW o=true):∃u,H a=some u/\(∀xs,u≠.tup xs)/\∀q w,u≠.frz q w:=by
 cases o with
 |lst xs=>obtain⟨vs,e,_⟩:=h;exact⟨_,e,(fun _ z=>nomatch z),fun _ _ z=>nomatch z⟩
 |frz xs=>cases hf
 |dK kvs=>obtain⟨vs,e,_⟩:=h;exact⟨_,e,(fun _ z=>nomatch z),fun _ _ z=>nomatch z⟩
 |dF kvs=>cases hf
 |dT kvs=>obtain⟨vs,e,_⟩:=h;exact⟨_,e,(fun _ z=>nomatch z),fun _ _ z=>nomatch z⟩
 |ins C fs=>obtain⟨Ca,dx,ws,_,e,_⟩:=h;exact⟨_,e,(fun _ z=>nomatch z),fun _ _ z=>nomatch z⟩
def ObD.live{T:Tab}{K:PySem.W.Frag}{μ:List Addr}{H:Hp}{o:M3.O}{a:Addr}(h:ObD T K H μ o a)(hf:isF o=false):∃u,H a=some u:=by
 cases o with
 |frz xs=>cases hf
 |dF kvs=>obtain⟨ob,ws,e,_⟩:=h;exact⟨_,e⟩
 |lst xs=>obtain⟨u,e,_⟩:=h.some_of rfl;exact⟨u,e⟩
 |dK xs=>obtain⟨u,e,_⟩:=h.some_of rfl;exact⟨u,e⟩
 |dT xs=>obtain⟨u,e,_⟩:=h.some_of rfl;exact⟨u,e⟩
 |ins C fs=>obtain⟨u,e,_⟩:=h.some_of rfl;exact⟨u,e⟩
theorem ObD.mono{T:Tab}{K:PySem.W.Frag}{μ μ':List Addr}{H H':Hp}{o:M3.O}{a:Addr}(h:ObD T K H μ o a)(p:μ <+: μ')(k:Keeps H H')(e:∀x,H a=some x->H' a=some x):ObD T K H' μ' o a:=by
 cases o with
 |lst xs=>obtain⟨vs,q,r⟩:=h;exact⟨vs,e _ q,ax.mono p k r⟩
 |frz xs=>obtain⟨vs,q,r⟩:=h;exact⟨vs,SqF.keeps k q,ax.mono p k r⟩
 |dK kvs=>obtain⟨vs,q,r⟩:=h;exact⟨vs,e _ q,Paired.imp' (fun _ _ z=>⟨z.1,Den.mono p k z.2⟩) r⟩
 |dF kvs=>obtain⟨ob,vs,q,r⟩:=h;exact⟨ob,vs,e _ q,Paired.imp' (fun _ _ z=>⟨z.1,Den.mono p k z.2⟩) r⟩
 |dT kvs=>obtain⟨vs,q,r⟩:=h;exact⟨vs,e _ q,Paired.imp' (fun _ _ z=>⟨z.1,SqT.keeps k z.2.1,let ⟨v,x,y⟩:=z.2.2;⟨v,Den.mono p k x,y⟩⟩) r⟩
 |ins C fs=>obtain⟨Ca,dx,ws,c,q,r⟩:=h;exact⟨Ca,dx,ws,c,e _ q,Paired.imp' (fun _ _ z=>⟨z.1,Den.mono p k z.2⟩) r⟩
def ObD.gH{T:Tab}{K:PySem.W.Frag}{μ μ':List Addr}{H H':Hp}{o:M3.O}{a:Addr}(h:ObD T K H μ o a)(u:Up μ μ' H H')(e:∀x,H a=some x->H' a=some x):ObD T K H' μ' o a:=h.mono u.pre u.keeps e
section
variable{T:Tab}{K:PySem.W.Frag}{μ:List Addr}{H H':Hp}{G:M3.Hh}
theorem Sim.same(S:Sim T K μ H G)(h:gi H H'):Sim T K μ H' G:=
 ⟨S.len,fun n a o e1 e2=>(S.obj n a o e1 e2).gH (Up.same h) (h a),S.inj⟩
theorem Sim.new(S:Sim T K μ H G){p:Addr}{u:HO}{o:M3.O}(hp:H p=none)(hf:isF o=false)(ho:ObD T K (upd H p u) (μ++[p]) o p):Sim T K (μ++[p]) (upd H p u) (G++[o]):=by
 have sm:=gi.new u hp
 have up:Up μ (μ++[p]) H (upd H p u):=Up.new u hp
 have old:∀(n:Nat) a o',(μ++[p])[n]? =some a->(G++[o])[n]? =some o'->(μ[n]? =some a/\G[n]? =some o')\/(n=G.length/\a=p/\o'=o):=by
  intro n a o' e1 e2
  by_cases h:n < G.length
  · rw[qK_ (by rw[S.len];exact h)]at e1
    rw[qK_ h]at e2
    exact .inl ⟨e1,e2⟩
  · have hn:n=G.length:=by
     have:=(qB_.mp e2).1
     rw[qN_]at this
     simp at this
     omega
    subst hn
    rw[<-S.len]at e1
    simp at e1 e2
    exact .inr ⟨rfl,e1.symm,e2.symm⟩
 have free:∀(n:Nat) a o',μ[n]? =some a->G[n]? =some o'->isF o'=false->a≠p:=by
  intro n a o' e1 e2 hf'
  obtain⟨w,hw⟩:=(S.obj n a o' e1 e2).live hf'
  exact cp hw hp
 refine⟨by simp [S.len],fun n a o' e1 e2=>?_,fun n m a o1 o2 hnm e1 e2 e3 e4=>?_⟩
 · rcases old n a o' e1 e2 with ⟨h1,h2⟩ |⟨_,rfl,rfl⟩
   · exact(S.obj n a o' h1 h2).gH up (sm a)
   · exact ho
 · rcases old n a o1 e1 e3 with ⟨h1,h2⟩ |⟨rfl,rfl,rfl⟩
   · rcases old m a o2 e2 e4 with ⟨h3,h4⟩ |⟨rfl,rfl,rfl⟩
     · exact S.inj n m a o1 o2 hnm h1 h3 h2 h4
     · cases q:isF o1 with
       |true=>exact .inl rfl
       |false=>exact absurd rfl (free n a o1 h1 h2 q)
   · rcases old m a o2 e2 e4 with ⟨h3,h4⟩ |⟨h3,_,_⟩
     · cases q:isF o2 with
       |true=>exact .inr rfl
       |false=>exact absurd rfl (free m a o2 h3 h4 q)
     · exact absurd h3.symm hnm
theorem Sim.set(S:Sim T K μ H G){n:Nat}{a:Addr}{o o':M3.O}{u:HO}(e1:μ[n]? =some a)(e2:G[n]? =some o)(hfw:isW o=true)(hf':isF o'=false)(ho:ObD T K (upd H a u) μ o' a):Sim T K μ (upd H a u) (G.set n o'):=by
 have hf:=isW.nf hfw
 obtain⟨w,hw,h1,h2⟩:=(S.obj n a o e1 e2).some_of hfw
 have up:Up μ μ H (upd H a u):=Up.uj e1 hw h1 h2
 have hl:=(qB_.mp e2).1
 refine⟨by rw[qX_];exact S.len,fun m b ob q1 q2=>?_,fun m k b o1 o2 hmk q1 q2 q3 q4=>?_⟩
 · by_cases h:m=n
   · subst h
     rw[e1]at q1
     cases q1
     rw[qU_ hl]at q2
     cases q2
     exact ho
   · rw[qV_ (Ne.symm h)]at q2
     cases q:isF ob with
     |true=>
      cases ob with
      |frz xs=>
       obtain⟨vs,z,r⟩:=S.obj m b _ q1 q2
       exact⟨vs,SqF.keeps up.keeps z,ax.up up r⟩
      |_=>cases q
     |false=>
      have hb:b≠a:=by
       rintro rfl
       rcases S.inj m n b ob o h q1 e1 q2 e2 with z |z
       · rw[q]at z;cases z
       · rw[hf]at z;cases z
      exact(S.obj m b ob q1 q2).gH up fun x z=>by rw[aI hb];exact z
 · have back:∀(m:Nat) ob,(G.set n o')[m]? =some ob->∃ob',G[m]? =some ob'/\isF ob'=isF ob:=by
    intro m ob q
    by_cases h:m=n
    · subst h
      rw[qU_ hl]at q
      cases q
      exact⟨o,e2,by rw[hf,hf']⟩
    · rw[qV_ (Ne.symm h)]at q
      exact⟨ob,q,rfl⟩
   obtain⟨p1,r1,f1⟩:=back m o1 q3
   obtain⟨p2,r2,f2⟩:=back k o2 q4
   rw[<-f1,<-f2]
   exact S.inj m k b p1 p2 hmk q1 q2 r1 r2
def Up.set(S:Sim T K μ H G){n:Nat}{a:Addr}{o:M3.O}(u:HO)(e1:μ[n]? =some a)(e2:G[n]? =some o)(hf:isW o=true):Up μ μ H (upd H a u):=by
 obtain⟨w,hw,h1,h2⟩:=(S.obj n a o e1 e2).some_of hf
 exact Up.uj e1 hw h1 h2
end
structure StD (K:PySem.W.Frag) (H:Hp) (μ:List Addr) (σ3:M3.St) (σ:L2.St):Prop where
 len:σ3.length=σ.length
 at_:∀(i:Nat) d,σ3[i]? =some (some d)->∃v,σ[i]? =some (some v)/\Den K H μ d v
theorem StD.up{K:PySem.W.Frag}{H H':Hp}{μ μ':List Addr}{σ3:M3.St}{σ:L2.St}(u:Up μ μ' H H')(s:StD K H μ σ3 σ):StD K H' μ' σ3 σ:=
 ⟨s.len,fun i d e=>let ⟨v,h1,h2⟩:=s.at_ i d e;⟨v,h1,Den.up u h2⟩⟩
theorem StD.set{K:PySem.W.Frag}{H:Hp}{μ:List Addr}{σ3:M3.St}{σ:L2.St}(s:StD K H μ σ3 σ){d:M3.D}{v:V}(i:Nat)(h:Den K H μ d v):StD K H μ (σ3.set i (some d)) (σ.set i (some v)):=by
 refine⟨by rw[qX_,qX_];exact s.len,fun j d' e=>?_⟩
 by_cases hj:j=i
 · subst hj
   have hl:j < σ3.length:=by
    have:=(qB_.mp e).1
    rw[qX_]at this
    exact this
   rw[qU_ hl]at e
   cases e
   exact⟨v,by rw[qU_ (by rw[<-s.len];exact hl)],h⟩
 · rw[qV_ (Ne.symm hj)]at e
   rw[qV_ (Ne.symm hj)]
   exact s.at_ j d' e
structure EX where
 x:List Addr->Hp->Nat->M3.Hh->Prop
 up:∀{μ μ':List Addr} {H H':Hp} {c:Nat} {G:M3.Hh},Up μ μ' H H'->x μ H c G->x μ' H' c G
def EX.upE{α:Type}(E:EX){m:M3.M α}{G:M3.Hh}{P:α->M3.Hh->Prop}{μ μ':List Addr}{H H':Hp}(u:Up μ μ' H H')(h:M3.run m G P (E.x μ H)):M3.run m G P (E.x μ' H'):=M3.aq h (fun _ _ q=>q) fun _ _ q=>E.up u q
def du(T:Tab)(K:PySem.W.Frag)(μ:List Addr)(H:Hp)(Q:VK)(d:M3.D)(G':M3.Hh):Prop:=∀v H' μ',Up μ μ' H H'->Sim T K μ' H' G'->Den K H' μ' d v->Q v H'
def nQ(T:Tab)(K:PySem.W.Frag)(μ:List Addr)(H:Hp)(Q:Bool->Hp->Prop)(b:Bool)(G':M3.Hh):Prop:=∀H' μ',Up μ μ' H H'->Sim T K μ' H' G'->Q b H'
def Dd(T:Tab)(K:PySem.W.Frag)(μ:List Addr)(H:Hp)(Q:List V->Hp->Prop)(ds:List M3.D)(G':M3.Hh):Prop:=∀vs H' μ',Up μ μ' H H'->Sim T K μ' H' G'->ax K H' μ' ds vs->Q vs H'
def eG(T:Tab)(K:PySem.W.Frag)(μ:List Addr)(H:Hp)(D:Ends)(r:M3.Fl×M3.St)(G':M3.Hh):Prop:=∀σ' H' μ',Up μ μ' H H'->Sim T K μ' H' G'->StD K H' μ' r.2 σ'->match r.1 with
 | .next=>D.nx σ' H'
 | .brk=>D.bk σ' H'
 | .cont=>D.ct σ' H'
 | .ret d=>∀v,Den K H' μ' d v->D.rt v H'
section
variable{T:Tab}{K:PySem.W.Frag}{μ μ':List Addr}{H H':Hp}{G:M3.Hh}
def du.up{Q:VK}{d:M3.D}(u:Up μ μ' H H')(h:du T K μ H Q d G):du T K μ' H' Q d G:=fun v H2 μ2 u2 S r=>h v H2 μ2 (u.trans u2) S r
def nQ.up{Q:Bool->Hp->Prop}{d:Bool}(u:Up μ μ' H H')(h:nQ T K μ H Q d G):nQ T K μ' H' Q d G:=fun H2 μ2 u2 S=>h H2 μ2 (u.trans u2) S
def eG.up{D:Ends}{r:M3.Fl×M3.St}(u:Up μ μ' H H')(h:eG T K μ H D r G):eG T K μ' H' D r G:=fun v H2 μ2 u2 S r=>h v H2 μ2 (u.trans u2) S r
end
def tE(T:Tab)(K:PySem.W.Frag)(Y:EX)(f:M3.E3):TE:=fun σ H Q=>∃μ σ3 G,Sim T K μ H G/\StD K H μ σ3 σ/\M3.run (f σ3) G (du T K μ H Q) (Y.x μ H)
def tT(T:Tab)(K:PySem.W.Frag)(Y:EX)(f:M3.T3):TT:=fun σ H Q=>∃μ σ3 G,Sim T K μ H G/\StD K H μ σ3 σ/\M3.run (f σ3) G (nQ T K μ H Q) (Y.x μ H)
def tA(T:Tab)(K:PySem.W.Frag)(Y:EX)(f:M3.A3):TA:=fun σ H Q=>∃μ σ3 G,Sim T K μ H G/\StD K H μ σ3 σ/\M3.run (f σ3) G (Dd T K μ H Q) (Y.x μ H)
def tS(T:Tab)(K:PySem.W.Frag)(Y:EX)(f:M3.S3):TS:=fun D σ H=>∃μ σ3 G,Sim T K μ H G/\StD K H μ σ3 σ/\M3.run (f σ3) G (eG T K μ H D) (Y.x μ H)
def bq{Y:EX}{α:Type}{T:Tab}{K:PySem.W.Frag}{μ:List Addr}{H:Hp}{m:M3.M M3.D}{k:M3.D->M3.M α}{G:M3.Hh}{P:α->M3.Hh->Prop}{R:VK}(h:M3.run (M3.bnd m k) G P (Y.x μ H))
 (f:∀d G1 v H1 μ1,Up μ μ1 H H1->Sim T K μ1 H1 G1->Den K H1 μ1 d v->M3.run (k d) G1 P (Y.x μ1 H1)->R v H1):M3.run m G (du T K μ H R) (Y.x μ H):=
 M3.aq (M3.aR h) (fun d G1 q v H1 μ1 u S r=>f d G1 v H1 μ1 u S r (Y.upE u q)) fun _ _ z=>z
def rh{Y:EX}{α:Type}{T:Tab}{K:PySem.W.Frag}{μ:List Addr}{H:Hp}{m:M3.M Bool}{k:Bool->M3.M α}{G:M3.Hh}{P:α->M3.Hh->Prop}{R:Bool->Hp->Prop}(h:M3.run (M3.bnd m k) G P (Y.x μ H))
 (f:∀b G1 H1 μ1,Up μ μ1 H H1->Sim T K μ1 H1 G1->M3.run (k b) G1 P (Y.x μ1 H1)->R b H1):M3.run m G (nQ T K μ H R) (Y.x μ H):=
 M3.aq (M3.aR h) (fun d G1 q H1 μ1 u S=>f d G1 H1 μ1 u S (Y.upE u q)) fun _ _ z=>z
def nA{Y:EX}{α:Type}{T:Tab}{K:PySem.W.Frag}{μ:List Addr}{H:Hp}{m:M3.M (List M3.D)}{k:List M3.D->M3.M α}{G:M3.Hh}{P:α->M3.Hh->Prop}{R:List V->Hp->Prop}(h:M3.run (M3.bnd m k) G P (Y.x μ H))
 (f:∀ds G1 vs H1 μ1,Up μ μ1 H H1->Sim T K μ1 H1 G1->ax K H1 μ1 ds vs->M3.run (k ds) G1 P (Y.x μ1 H1)->R vs H1):M3.run m G (Dd T K μ H R) (Y.x μ H):=
 M3.aq (M3.aR h) (fun d G1 q v H1 μ1 u S r=>f d G1 v H1 μ1 u S r (Y.upE u q)) fun _ _ z=>z
def cD{α:Type}{m:M3.M α}{G:M3.Hh}{P P':α->M3.Hh->Prop}{X:Nat->M3.Hh->Prop}(h:M3.run m G P X)(f:∀a G',P a G'->P' a G'):M3.run m G P' X:=M3.aq h f fun _ _ z=>z
section
variable{X:Cx}{T:Tab}{Y:EX}{a b e:Expr}{es:List Expr}{fa fb:M3.E3}{pos:Pos}{tt:M3.T3}
def PE.of{t u:TE}(h:PE X e t)(f:∀σ H Q,u σ H Q->t σ H Q):PE X e u:=fun pins s σ H Q I q=>h pins s σ H Q I (f σ H Q q)
def PT.of{t u:TT}(h:PT X e t)(f:∀σ H Q,u σ H Q->t σ H Q):PT X e u:=fun pins s σ H Q I q=>h pins s σ H Q I (f σ H Q q)
def PW.of{t u:TT}(h:PW X e t)(f:∀σ H Q,u σ H Q->t σ H Q):PW X e u:=fun wh pins s σ H Q I q=>h wh pins s σ H Q I (f σ H Q q)
def PA.of{t u:TA}(h:PA X es t)(f:∀σ H Q,u σ H Q->t σ H Q):PA X es u:=fun ps pins s σ H Q I q=>h ps pins s σ H Q I (f σ H Q q)
def PS.of{st:Stmt}{t u:TS}(h:PS X st t)(f:∀D σ H,u D σ H->t D σ H):PS X st u:=fun pins s σ H D I q=>h pins s σ H D I (f D σ H q)
def PSs.of{st:List Stmt}{t u:TS}(h:PSs X st t)(f:∀D σ H,u D σ H->t D σ H):PSs X st u:=fun pins s σ H D I q=>h pins s σ H D I (f D σ H q)
def dt(i:Nat){x:Str}(hN:X.N[i]? =some x:=by rfl)(hv:Vis X.env.scope x:=by first |exact Or.inl rfl |exact Or.inr (Or.inl rfl) |exact Or.inr (Or.inr rfl))(hd:(x==("__debug__":Str))=false:=by decide)
 (hcd:(x==("__classdict__":Str))=false:=by decide):PE X (.Name x pos) (tE T X.K Y (M3.aa i)):=by
 refine PE.of (Fp hN hv hd hcd) fun σ H Q ⟨μ,σ3,G,S,sd,h⟩=>?_
 unfold M3.aa at h
 cases q:σ3[i]? with
 |none=>rw[q]at h;exact False.elim h
 |some o=>
  rw[q]at h
  cases o with
  |none=>exact False.elim h
  |some d=>
   obtain⟨v,e,r⟩:=sd.at_ i d q
   exact⟨v,e,h v H μ (Up.refl _ _) S r⟩
def mI{d:M3.D}{v:V}(h:PE X e (tC v))(hd:∀H μ,Den X.K H μ d v):PE X e (tE T X.K Y (M3.eC d)):=
 PE.of h fun σ H Q ⟨μ,σ3,G,S,sd,q⟩=>q v H μ (Up.refl _ _) S (hd H μ)
def rj{i j}:PE X (.Constant (.int i) j pos) (tE T X.K Y (M3.eC (.int i))):=mI DT fun _ _=>rfl
def Ia{c j}:PE X (.Constant (.bool c) j pos) (tE T X.K Y (M3.eC (.bl c))):=mI GB fun _ _=>rfl
def GH{j}:PE X (.Constant .none j pos) (tE T X.K Y (M3.eC .non)):=mI F3 fun _ _=>rfl
def Ib{x j}:PE X (.Constant (.str x) j pos) (tE T X.K Y (M3.eC (.str x))):=mI EN fun _ _=>rfl
def Br2(T:Tab)(K:PySem.W.Frag)(Y:EX)(g:M3.D->M3.D->M3.M M3.D)(r:R2):Prop:=
 ∀μ H G x y v w Q,Sim T K μ H G->Den K H μ x v->Den K H μ y w->M3.run (g x y) G (du T K μ H Q) (Y.x μ H)->r v w H Q
def zM{g:M3.D->M3.D->M3.M M3.D}{r:R2}{K:PySem.W.Frag}(br:Br2 T K Y g r){σ:L2.St}{H:Hp}{Q:VK}(h:tE T K Y (M3.eOp g fa fb) σ H Q):tOp r (tE T K Y fa) (tE T K Y fb) σ H Q:=by
 obtain⟨μ,σ3,G,S,sd,h⟩:=h
 refine⟨μ,σ3,G,S,sd,bq h fun x G1 v H1 μ1 u1 S1 d1 h1=>⟨μ1,σ3,G1,S1,sd.up u1,bq h1 fun y G2 w H2 μ2 u2 S2 d2 h2=>?_⟩⟩
 exact br μ2 H2 G2 x y v w Q S2 (Den.up u2 d1) d2 (cD h2 fun _ _ q=>q.up (u1.trans u2))
def Cr{op:Operator}{g:M3.D->M3.D->M3.M M3.D}{r:R2}(br:OpR X (binaryOp op) r/\Br2 T X.K Y g r)(ha:PE X a (tE T X.K Y fa))(hb:PE X b (tE T X.K Y fb)):PE X (.BinOp a op b pos) (tE T X.K Y (M3.eOp g fa fb)):=
 PE.of (GY br.1 ha hb) fun _ _ _ h=>zM br.2 h
def Aw{op:CmpOp}{g:M3.D->M3.D->M3.M M3.D}{r:R2}(br:OpR X (compareOp op) r/\Br2 T X.K Y g r)(ha:PE X a (tE T X.K Y fa))(hb:PE X b (tE T X.K Y fb))(hm:behindInMarks op b=false):PE X (.Compare a [op] [b] pos) (tE T X.K Y (M3.eOp g fa fb)):=
 PE.of (BH br.1 ha hb hm) fun _ _ _ h=>zM br.2 h
def se{x:M3.D}{G:M3.Hh}{P:Bool->M3.Hh->Prop}{Z:Nat->M3.Hh->Prop}(h:M3.run (M3.asB x) G P Z):∃c,x= .bl c/\P c G:=by
 cases x with
 |bl c=>exact⟨c,rfl,h⟩
 |_=>exact False.elim h
def Fo{K:PySem.W.Frag}{f:M3.E3}{σ:L2.St}{H:Hp}{Q:Bool->Hp->Prop}(h:tT T K Y (M3.tB f) σ H Q):Dp (tE T K Y f) σ H Q:=by
 obtain⟨μ,σ3,G,S,sd,h⟩:=h
 refine⟨μ,σ3,G,S,sd,bq h fun x G1 v H1 μ1 u1 S1 d1 h1=>?_⟩
 obtain⟨c,rfl,q⟩:=se h1
 exact⟨c,d1,q H1 μ1 u1 S1⟩
def kY{op:CmpOp}{g:M3.D->M3.D->M3.M M3.D}{r:R2}(br:OpR X (compareOp op) r/\Br2 T X.K Y g r)(ha:PE X a (tE T X.K Y fa))(hb:PE X b (tE T X.K Y fb))(hm:behindInMarks op b=false):PT X (.Compare a [op] [b] pos) (tT T X.K Y (M3.tB (M3.eOp g fa fb))):=by
 refine PT.of (Bn br.1 ha hb hm) fun σ H Q h=>?_
 obtain⟨μ,σ3,G,S,sd,h⟩:=Fo h
 exact zM br.2 ⟨μ,σ3,G,S,sd,h⟩
end
def bX:M3.aC=sizeLine:=by rw[sizeLine_eq];rfl
section
variable{X:Cx}{T:Tab}{Y:EX}{a b e:Expr}{es:List Expr}{fa fb:M3.E3}{ta tb:M3.T3}{f3:M3.A3}{pos:Pos}{rest:List Expr}
def GR{op}{f:M3.E3}(h:PE X a (tE T X.K Y f)):PE X (.BoolOp op [a] pos) (tE T X.K Y f):=EY h
def Gf(ha:PE X a (tE T X.K Y fa))(hb:PE X (.BoolOp .And (b :: rest) pos) (tE T X.K Y fb)):PE X (.BoolOp .And (a :: b :: rest) pos) (tE T X.K Y (M3.we fa fb)):=by
 refine PE.of (DR ha hb) fun σ H Q ⟨μ,σ3,G,S,sd,h⟩=>⟨μ,σ3,G,S,sd,bq h fun x G1 v H1 μ1 u1 S1 d1 h1=>?_⟩
 obtain⟨c,rfl,q⟩:=se (M3.aR h1)
 refine⟨c,d1,?_⟩
 cases c with
 |true=>exact⟨μ1,σ3,G1,S1,sd.up u1,cD q fun _ _ z=>z.up u1⟩
 |false=>exact q _ H1 μ1 u1 S1 rfl
def Ik(ha:PE X a (tE T X.K Y fa))(hb:PE X (.BoolOp .Or (b :: rest) pos) (tE T X.K Y fb)):PE X (.BoolOp .Or (a :: b :: rest) pos) (tE T X.K Y (M3.eOr fa fb)):=by
 refine PE.of (HR ha hb) fun σ H Q ⟨μ,σ3,G,S,sd,h⟩=>⟨μ,σ3,G,S,sd,bq h fun x G1 v H1 μ1 u1 S1 d1 h1=>?_⟩
 obtain⟨c,rfl,q⟩:=se (M3.aR h1)
 refine⟨c,d1,?_⟩
 cases c with
 |true=>exact q _ H1 μ1 u1 S1 rfl
 |false=>exact⟨μ1,σ3,G1,S1,sd.up u1,cD q fun _ _ z=>z.up u1⟩
def Gh(ha:PE X a (tE T X.K Y fa)):PE X (.UnaryOp .Not a pos) (tE T X.K Y (M3.Cf fa)):=by
 refine PE.of (Et ha) fun σ H Q ⟨μ,σ3,G,S,sd,h⟩=>⟨μ,σ3,G,S,sd,bq h fun x G1 v H1 μ1 u1 S1 d1 h1=>?_⟩
 obtain⟨c,rfl,q⟩:=se (M3.aR h1)
 exact⟨c,d1,q _ H1 μ1 u1 S1 rfl⟩
def H0{j pos'}(ha:PE X a (tE T X.K Y fa)):PE X (.Compare a [.Is] [.Constant .none j pos'] pos) (tE T X.K Y (M3.eUn M3.nR fa)):=by
 refine PE.of (zx (A5 ha)) fun σ H Q ⟨μ,σ3,G,S,sd,h⟩=>⟨μ,σ3,G,S,sd,bq h fun x G1 v H1 μ1 u1 S1 d1 h1=>?_⟩
 refine h1 _ H1 μ1 u1 S1 ?_
 cases x with
 |non=>cases (show v= .non from d1);rfl
 |bl b=>cases (show v= .bl b from d1);rfl
 |int b=>cases (show v= .int b from d1);rfl
 |str b=>cases (show v= .str b from d1);rfl
 |ref n=>obtain⟨_,_,rfl⟩:=d1;rfl
 |tup ds=>obtain⟨_,_,rfl,_⟩:=d1;rfl
def DW{j pos'}(ha:PE X a (tE T X.K Y fa)):PE X (.Compare a [.IsNot] [.Constant .none j pos'] pos) (tE T X.K Y (M3.eUn M3.fQ fa)):=by
 refine PE.of (zx (wz ha)) fun σ H Q ⟨μ,σ3,G,S,sd,h⟩=>⟨μ,σ3,G,S,sd,bq h fun x G1 v H1 μ1 u1 S1 d1 h1=>?_⟩
 refine h1 _ H1 μ1 u1 S1 ?_
 cases x with
 |non=>cases (show v= .non from d1);rfl
 |bl b=>cases (show v= .bl b from d1);rfl
 |int b=>cases (show v= .int b from d1);rfl
 |str b=>cases (show v= .str b from d1);rfl
 |ref n=>obtain⟨_,_,rfl⟩:=d1;rfl
 |tup ds=>obtain⟨_,_,rfl,_⟩:=d1;rfl
def FV(ha:PT X a (tT T X.K Y ta)):PW X (.BoolOp .And [a] pos) (tT T X.K Y ta):=B2 ha
def HE(ha:PT X a (tT T X.K Y ta)):PW X (.BoolOp .Or [a] pos) (tT T X.K Y ta):=En ha
def w_and(ha:PT X a (tT T X.K Y ta))(hb:PW X (.BoolOp .And (b :: rest) pos) (tT T X.K Y tb)):PW X (.BoolOp .And (a :: b :: rest) pos) (tT T X.K Y (M3.lF ta tb)):=by
 refine PW.of (D1 ha hb) fun σ H Q ⟨μ,σ3,G,S,sd,h⟩=>⟨μ,σ3,G,S,sd,rh h fun c G1 H1 μ1 u1 S1 h1=>?_⟩
 cases c with
 |true=>exact⟨μ1,σ3,G1,S1,sd.up u1,cD h1 fun _ _ z=>z.up u1⟩
 |false=>exact h1 H1 μ1 u1 S1
def w_or(ha:PT X a (tT T X.K Y ta))(hb:PW X (.BoolOp .Or (b :: rest) pos) (tT T X.K Y tb)):PW X (.BoolOp .Or (a :: b :: rest) pos) (tT T X.K Y (M3.tOr ta tb)):=by
 refine PW.of (GN ha hb) fun σ H Q ⟨μ,σ3,G,S,sd,h⟩=>⟨μ,σ3,G,S,sd,rh h fun c G1 H1 μ1 u1 S1 h1=>?_⟩
 cases c with
 |true=>exact h1 H1 μ1 u1 S1
 |false=>exact⟨μ1,σ3,G1,S1,sd.up u1,cD h1 fun _ _ z=>z.up u1⟩
def HS(ha:PT X a (tT T X.K Y ta)):PT X (.UnaryOp .Not a pos) (tT T X.K Y (M3.fO ta)):=by
 refine PT.of (EV ha) fun σ H Q ⟨μ,σ3,G,S,sd,h⟩=>⟨μ,σ3,G,S,sd,rh h fun c G1 H1 μ1 u1 S1 h1=>?_⟩
 exact h1 H1 μ1 u1 S1
def EH{Z:Nat->M3.Hh->Prop}{K:PySem.W.Frag}{μ:List Addr}{H:Hp}{G:M3.Hh}{x:M3.D}{v:V}{P:Bool->M3.Hh->Prop}(S:Sim T K μ H G)(d:Den K H μ x v)(h:M3.run (M3.truth x) G P Z):∃k,DK K v H k/\P k G:=by
 cases x with
 |non=>cases (show v= .non from d);exact⟨false,rfl,h⟩
 |bl b=>cases (show v= .bl b from d);exact⟨b,rfl,h⟩
 |int b=>cases (show v= .int b from d);exact⟨_,rfl,h⟩
 |str b=>
  cases (show v= .str b from d)
  unfold M3.run M3.truth at h
  dsimp only at h
  by_cases hl:b.length<=M3.aC
  · rw[if_pos hl]at h
    refine⟨b.length !=0,⟨by rw[<-bX];exact hl,?_⟩,h⟩
    cases q:b.length with
    |zero=>rfl
    |succ n=>rfl
  · rw[if_neg hl]at h
    exact False.elim h
 |tup ds=>
  obtain⟨a,vs,rfl,sq,r⟩:=d
  refine⟨!ds.isEmpty,.inr (.inl ⟨vs,sq,?_⟩),h⟩
  have:=r.length
  cases ds <;> cases vs <;> simp_all
 |ref n=>
  obtain⟨a,e,rfl⟩:=d
  unfold M3.run M3.truth at h
  dsimp only at h
  cases q:G[n]? with
  |none=>rw[q]at h;exact False.elim h
  |some o=>
   rw[q]at h
   have ob:=S.obj n a o e q
   cases o with
   |lst xs=>
    obtain⟨vs,e1,r⟩:=ob
    refine⟨_,.inl ⟨vs,SqL.of e1,rfl⟩,?_⟩
    have:=r.length
    cases xs <;> cases vs <;> simp_all
   |frz xs=>
    obtain⟨vs,e1,r⟩:=ob
    refine⟨_,.inl ⟨vs,e1.sq,rfl⟩,?_⟩
    have:=r.length
    cases xs <;> cases vs <;> simp_all
   |dK kvs=>
    obtain⟨ws,e1,r⟩:=ob
    refine⟨_,.inr (.inr ⟨ws,e1,rfl⟩),?_⟩
    have:=Paired.length r
    cases kvs <;> cases ws <;> simp_all
   |dF kvs=>exact False.elim h
   |dT kvs=>exact False.elim h
   |ins C fs=>exact False.elim h
def Hv{f:M3.E3}(h:PE X e (tE T X.K Y f))(he:∀whole,isTrue e X.env whole=(do let v <-whole;standAt e.pos;holding [v] (truthy v)):=by intro _;rfl):PT X e (tT T X.K Y (M3.tOf f)):=by
 refine PT.of (yV h he) fun σ H Q ⟨μ,σ3,G,S,sd,h⟩=>⟨μ,σ3,G,S,sd,bq h fun x G1 v H1 μ1 u1 S1 d1 h1=>?_⟩
 obtain⟨k,t,q⟩:=EH S1 d1 h1
 exact⟨k,t,q H1 μ1 u1 S1⟩
def IH{c:Expr}(hc:PT X c (tT T X.K Y ta))(ha:PE X a (tE T X.K Y fa))(hb:PE X b (tE T X.K Y fb)):PE X (.IfExp c a b pos) (tE T X.K Y (M3.eIf ta fa fb)):=by
 refine PE.of (yS hc ha hb) fun σ H Q ⟨μ,σ3,G,S,sd,h⟩=>⟨μ,σ3,G,S,sd,rh h fun c G1 H1 μ1 u1 S1 h1=>?_⟩
 cases c with
 |true=>exact⟨μ1,σ3,G1,S1,sd.up u1,cD h1 fun _ _ z=>z.up u1⟩
 |false=>exact⟨μ1,σ3,G1,S1,sd.up u1,cD h1 fun _ _ z=>z.up u1⟩
def qX:PA X [] (tA T X.K Y M3.ao):=PA.of lx fun σ H Q ⟨μ,σ3,G,S,sd,h⟩=>h [] H μ (Up.refl _ _) S rfl
def ff{r:M3.A3}(ha:PE X e (tE T X.K Y fa))(hr:PA X es (tA T X.K Y r))(hs:starEach (e :: es) X.env=(false,eval e X.env) :: starEach es X.env:=by rfl):PA X (e :: es) (tA T X.K Y (M3.ae fa r)):=by
 refine PA.of (gY ha hr hs) fun σ H Q ⟨μ,σ3,G,S,sd,h⟩=>⟨μ,σ3,G,S,sd,bq h fun x G1 v H1 μ1 u1 S1 d1 h1=>⟨μ1,σ3,G1,S1,sd.up u1,nA h1 fun xs G2 vs H2 μ2 u2 S2 d2 h2=>?_⟩⟩
 exact h2 _ H2 μ2 (u1.trans u2) S2 ⟨v,vs,rfl,Den.up u2 d1,d2⟩
def Ba{x1}(h:PA X es (tA T X.K Y f3)):PE X (.Tuple es x1 pos) (tE T X.K Y (M3.cm f3)):=by
 refine PE.of (F4 h) fun σ H Q ⟨μ,σ3,G,S,sd,h⟩=>⟨μ,σ3,G,S,sd,nA h fun xs G1 vs H1 μ1 u1 S1 d1 h1=>?_⟩
 by_cases hl:xs.length<=M3.aC
 · rw[if_pos hl]at h1
   refine⟨by rw[<-d1.length,<-bX];exact hl,fun p hp=>?_⟩
   have u2:Up μ1 μ1 H1 (upd H1 p (.tup vs)):=Up.same (gi.new _ hp)
   exact h1 _ _ μ1 (u1.trans u2) (S1.same (gi.new _ hp)) ⟨p,vs,rfl,SqT.of aK,ax.up u2 d1⟩
 · rw[if_neg hl]at h1;exact False.elim h1
def Gx(h:PA X es (tA T X.K Y f3)):PE X (.List es pos) (tE T X.K Y (M3.dJ f3)):=by
 refine PE.of (D4 h) fun σ H Q ⟨μ,σ3,G,S,sd,h⟩=>⟨μ,σ3,G,S,sd,nA h fun xs G1 vs H1 μ1 u1 S1 d1 h1=>?_⟩
 by_cases hl:xs.length<=M3.aC
 · rw[if_pos hl]at h1
   refine⟨by rw[<-d1.length,<-bX];exact hl,fun p hp=>?_⟩
   have u2:=Up.new (μ:=μ1) (.lst vs) hp
   refine h1 _ _ (μ1++[p]) (u1.trans u2) (S1.new hp rfl ⟨vs,aK,ax.up u2 d1⟩) ⟨p,?_,rfl⟩
   rw[<-S1.len];simp
 · rw[if_neg hl]at h1;exact False.elim h1
def pI:PSs X [] (tS T X.K Y M3.bf):=PSs.of BB fun D σ H ⟨μ,σ3,G,S,sd,h⟩=>h σ H μ (Up.refl _ _) S sd
def df{st:Stmt}{f:M3.S3}(h:PS X st (tS T X.K Y f)):PSs X [st] (tS T X.K Y f):=BA h
def bV{st:Stmt}{sts:List Stmt}{f g:M3.S3}(h1:PS X st (tS T X.K Y f))(h2:PSs X sts (tS T X.K Y g)):PSs X (st :: sts) (tS T X.K Y (M3.aw f g)):=by
 refine PSs.of (zD h1 h2) fun D σ H ⟨μ,σ3,G,S,sd,h⟩=>⟨μ,σ3,G,S,sd,cD (M3.aR h) fun r G1 q σ1 H1 μ1 u1 S1 sd1=>?_⟩
 obtain⟨fl,σ2⟩:=r
 cases fl with
 |next=>exact⟨μ1,σ2,G1,S1,sd1,cD (Y.upE u1 q) fun _ _ z=>z.up u1⟩
 |brk=>exact q σ1 H1 μ1 u1 S1 sd1
 |cont=>exact q σ1 H1 μ1 u1 S1 sd1
 |ret d=>exact q σ1 H1 μ1 u1 S1 sd1
def wZ{i:Nat}{x:Str}{pos':Pos}(hN:X.N.Nodup)(hi:X.N[i]? =some x)(hx:Loc X.env.scope x)(he:PE X e (tE T X.K Y fa))(hs:swapsWith e (some (.Name x pos')) pos.line X.env=pure false:=by rfl)(hf:X.fn x=true\/X.env.scope.names.lookup x=some .local:=by first |exact .inl rfl |exact .inr rfl |assumption):
 PS X (.Assign [.Name x pos'] e pos) (tS T X.K Y (M3.bD i fa)):=by
 refine PS.of (Fw hN hi hx he hs hf) fun D σ H ⟨μ,σ3,G,S,sd,h⟩=>⟨μ,σ3,G,S,sd,bq h fun d G1 v H1 μ1 u1 S1 d1 h1=>?_⟩
 exact h1 _ H1 μ1 u1 S1 ((sd.up u1).set i d1)
def vf(he:PE X e (tE T X.K Y fa))(hs:swapsWith e none pos.line X.env=pure false:=by rfl):PS X (.Expr e pos) (tS T X.K Y (M3.cj fa)):=by
 refine PS.of (CF he hs) fun D σ H ⟨μ,σ3,G,S,sd,h⟩=>⟨μ,σ3,G,S,sd,bq h fun d G1 v H1 μ1 u1 S1 d1 h1=>?_⟩
 exact h1 _ H1 μ1 u1 S1 (sd.up u1)
def y_ret(he:PE X e (tE T X.K Y fa)):PS X (.Return (some e) pos) (tS T X.K Y (M3.aG fa)):=by
 refine PS.of (DJ he) fun D σ H ⟨μ,σ3,G,S,sd,h⟩=>⟨μ,σ3,G,S,sd,bq h fun d G1 v H1 μ1 u1 S1 d1 h1=>?_⟩
 exact h1 _ H1 μ1 u1 S1 (sd.up u1) v d1
def vU{c:Expr}{p q:List Stmt}{f g:M3.S3}(hc:PT X c (tT T X.K Y ta))(ha:PSs X p (tS T X.K Y f))(hb:PSs X q (tS T X.K Y g)):PS X (.If c p q pos) (tS T X.K Y (M3.sIf ta f g)):=by
 refine PS.of (Hg hc ha hb) fun D σ H ⟨μ,σ3,G,S,sd,h⟩=>⟨μ,σ3,G,S,sd,rh h fun c G1 H1 μ1 u1 S1 h1=>?_⟩
 cases c with
 |true=>exact⟨μ1,σ3,G1,S1,sd.up u1,cD h1 fun _ _ z=>z.up u1⟩
 |false=>exact⟨μ1,σ3,G1,S1,sd.up u1,cD h1 fun _ _ z=>z.up u1⟩
def HL(T:Tab)(K:PySem.W.Frag)(μ:List Addr)(H:Hp)(Q:L2.St->Hp->Prop)(σ3:M3.St)(G':M3.Hh):Prop:=∀σ' H' μ',Up μ μ' H H'->Sim T K μ' H' G'->StD K H' μ' σ3 σ'->Q σ' H'
def tG(T:Tab)(K:PySem.W.Frag)(Y:EX)(g:M3.D->M3.St->M3.M M3.St):TG:=fun v σ H Q=>∃μ σ3 G d,Sim T K μ H G/\StD K H μ σ3 σ/\Den K H μ d v/\M3.run (g d σ3) G (HL T K μ H Q) (Y.x μ H)
def PG.of{tg:Expr}{t u:TG}(h:PG X tg t)(f:∀v σ H Q,u v σ H Q->t v σ H Q):PG X tg u:=fun pins s σ H v w Q I r q=>h pins s σ H v w Q I r (f v σ H Q q)
def DL{i:Nat}{x:Str}(hN:X.N.Nodup)(hi:X.N[i]? =some x)(hx:Loc X.env.scope x)(hf:X.fn x=true\/X.env.scope.names.lookup x=some .local:=by first |exact .inl rfl |exact .inr rfl |assumption):PG X (.Name x pos) (tG T X.K Y (M3.gNm i)):=
 PG.of (r9 hN hi hx hf) fun v σ H Q ⟨μ,σ3,G,d,S,sd,r,h⟩=>h _ H μ (Up.refl _ _) S (sd.set i r)
def tGs(K:PySem.W.Frag)(is:List Nat):TGs:=fun vs σ H Q=>∃μ σ3 ds σ3',StD K H μ σ3 σ/\ax K H μ ds vs/\M3.lD is ds σ3=some σ3'/\∀σ',StD K H μ σ3' σ'->Q σ' H
def PGs.of{ts:List Expr}{t u:TGs}(h:PGs X ts t)(f:∀v σ H Q,u v σ H Q->t v σ H Q):PGs X ts u:=fun pins s σ H v w Q I r q=>h pins s σ H v w Q I r (f v σ H Q q)
def Dh:PGs X [] (tGs X.K []):=by
 refine PGs.of Cb fun vs σ H Q ⟨μ,σ3,ds,σ3',sd,r,e,h⟩=>?_
 cases ds with
 |nil=>
  cases e
  exact⟨r,h σ sd⟩
 |cons d t=>cases e
def rO{i:Nat}{is:List Nat}{x:Str}{ts:List Expr}(hN:X.N.Nodup)(hi:X.N[i]? =some x)(hx:Loc X.env.scope x)(ht:PGs X ts (tGs X.K is))(hf:X.fn x=true\/X.env.scope.names.lookup x=some .local:=by first |exact .inl rfl |exact .inr rfl |assumption)
 (hs:(assignEach (.Name x pos :: ts) X.env).map (·.2)=assign (.Name x pos) X.env :: (assignEach ts X.env).map (·.2):=by rfl):PGs X (.Name x pos :: ts) (tGs X.K (i :: is)):=by
 refine PGs.of (AR (r9 hN hi hx hf) ht hs) fun vs σ H Q ⟨μ,σ3,ds,σ3',sd,r,e,h⟩=>?_
 cases ds with
 |nil=>cases e
 |cons d t=>
  obtain⟨v,rv,rfl,d1,d2⟩:=r
  exact⟨v,rv,rfl,μ,σ3.set i (some d),t,σ3',sd.set i d1,d2,e,h⟩
theorem pv:∀{is:List Nat} {ds:List M3.D} {σ σ':M3.St},M3.lD is ds σ=some σ'->ds.length=is.length
 | [],[],_,_,_=>rfl
 | [],_ :: _,_,_,h=>by cases h
 |_ :: _,[],_,_,h=>by cases h
 |i :: r,d :: t,_,_,h=>by
  have:=pv (is:=r) (ds:=t) h
  simp [this]
def FJ{ts:List Expr}{k:Nat}{is:List Nat}(hc:X.calm=true)(h:PGs X ts (tGs X.K is))(hn:(assignEach ts X.env).length=is.length:=by rfl)(hst:(assignEach ts X.env).findIdx? (·.1)=none:=by rfl):PG X (.Tuple ts k pos) (tG T X.K Y (M3.gUn is)):=by
 refine PG.of (ER hc h hn hst) fun v σ H Q ⟨μ,σ3,G,d,S,sd,r,h⟩=>?_
 cases d with
 |tup ds=>
  obtain⟨a,vs,rfl,sq,r⟩:=r
  unfold M3.gUn at h
  dsimp only at h
  cases q:M3.lD is ds σ3 with
  |none=>rw[q]at h;exact False.elim h
  |some σ3'=>
   rw[q]at h
   refine⟨a,vs,rfl,sq,by rw[<-r.length];exact pv q,μ,σ3,ds,σ3',sd,r,q,fun σ' sd'=>h σ' H μ (Up.refl _ _) S sd'⟩
 |_=>exact False.elim h
def Gk{tg:Expr}{is:List Nat}(he:PE X e (tE T X.K Y fa))(hg:PG X tg (tG T X.K Y (M3.gUn is)))(hs:swapsWithSole [tg] e pos.line X.env=pure false:=by rfl)(hw:swappedStores [tg] e X.env=pure none:=by rfl)
 (h1:(assignEach [tg] X.env).map (·.2)=[assign tg X.env]:=by rfl):PS X (.Assign [tg] e pos) (tS T X.K Y (M3.sUn is fa)):=by
 refine PS.of (v7 he hg hs hw h1) fun D σ H ⟨μ,σ3,G,S,sd,h⟩=>⟨μ,σ3,G,S,sd,bq h fun d G1 v H1 μ1 u1 S1 d1 h1=>?_⟩
 refine⟨μ1,σ3,G1,d,S1,sd.up u1,d1,cD (M3.aR h1) fun σ4 G2 q σ' H' μ' u' S' sd'=>?_⟩
 exact q σ' H' μ' (u1.trans u') S' sd'
def ju{Z:Nat->M3.Hh->Prop}{c:Prop} [Decidable c]{α:Type}{m:M3.M α}{G:M3.Hh}{P:α->M3.Hh->Prop}(h:M3.run (if c then m else M3.fail) G P Z):c/\M3.run m G P Z:=by
 by_cases hc:c
 · rw[if_pos hc]at h;exact⟨hc,h⟩
 · rw[if_neg hc]at h;exact False.elim h
def BC:OpR X (binaryOp .Sub) (rI0 fun i j=>.int (i - j))/\Br2 T X.K Y M3.uz (rI0 fun i j=>.int (i - j)):=⟨Er,by
 intro μ H G x y v w Q S dx dy h
 cases x with
 |int i=>cases y with
  |int j=>exact⟨i,j,dx,dy,h _ H μ (Up.refl _ _) S rfl⟩
  |_=>exact False.elim h
 |_=>exact False.elim h⟩
def tJ{i:Int}(h:M3.small i=true):-(2 ^ 64) < i/\i < 2 ^ 64:=of_decide_eq_true h
def Bk:OpR X (binaryOp .Mult) (fun x y H Q=>∃s k,x= .str s/\y= .int k/\(0<=k/\k<=1000/\s.length<=1000)/\Q (.str (Txt.mul s k)) H):=by
 intro pins s σ H x y v u Q I rx ry h
 obtain⟨z,k,rfl,rfl,⟨h0,h1,h2⟩,q⟩:=h
 obtain⟨t,rfl⟩:=rx
 obtain⟨t',rfl⟩:=ry
 refine SB.mul ⟨?_,fun _ _=>?_,fun _ _=>?_⟩ fun t' tk=>⟨.str _,H,I.tok _,⟨_,rfl⟩,q⟩
 · rw[qa_ (by omega),qa_ (by omega)];rfl
 · rename_i hk _
   have hk':0 < k:=by omega
   have h3:(z.length:Int)*k<=1000*1000:=Int.mul_le_mul (by omega) h1 h0 (by decide)
   have:=Int.le_ediv_of_mul_le hk' (show (z.length:Int)*k<=2 ^ 63 - 1 by omega)
   omega
 · have h3:z.length*k.toNat<=1000*1000:=Nat.mul_le_mul h2 (by omega)
   have h4:sizeLine=16777216:=sizeLine_eq
   show decide (z.length*k.toNat > sizeLine)=false
   exact qa_ (by omega)
def C6:R2:=fun x y H Q=>rI CW (fun i j=>.int (i*j)) x y H Q\/((∃s k,x= .str s/\y= .int k/\(0<=k/\k<=1000/\s.length<=1000)/\Q (.str (Txt.mul s k)) H)\/Gw x y H Q)
theorem ax.rep{K:PySem.W.Frag}{H:Hp}{μ:List Addr}{ds:List M3.D}{vs:List V}(h:ax K H μ ds vs):∀k:Nat,ax K H μ (List.replicate k ds).flatten (List.replicate k vs).flatten
 |0=>rfl
 |k+1=>by
  rw[List.replicate_succ,List.replicate_succ,List.flatten_cons,List.flatten_cons]
  exact h.append (ax.rep h k)
def CO:OpR X (binaryOp .Mult) C6/\Br2 T X.K Y M3.fj C6:=⟨FY.or (Bk.or EU),by
 intro μ H G x y v w Q S dx dy h
 cases x with
 |int i=>cases y with
  |int j=>
   obtain⟨c,h⟩:=ju (c:=(M3.small i||M3.small j)=true) h
   refine .inl ⟨i,j,dx,dy,?_,h _ H μ (Up.refl _ _) S rfl⟩
   rcases Bool.or_eq_true _ _ |>.mp c with c |c
   · exact .inl (tJ c)
   · exact .inr (tJ c)
  |_=>exact False.elim h
 |str s=>cases y with
  |int k=>
   obtain⟨c,h⟩:=ju (c:=0<=k/\k<=1000/\s.length<=1000) h
   exact .inr (.inl ⟨s,k,dx,dy,c,h _ H μ (Up.refl _ _) S rfl⟩)
  |_=>exact False.elim h
 |ref n=>cases y with
  |int k=>
   unfold M3.run M3.fj at h
   dsimp only at h
   cases q1:G[n]? with
   |none=>rw[q1]at h;exact False.elim h
   |some o1=>
    cases o1 with
    |lst xs=>
     rw[q1]at h
     dsimp only at h
     by_cases c:0<=k/\k<=1000000/\xs.length*k.toNat<=M3.aC
     · rw[if_pos c]at h
       obtain⟨c1,c2,c3⟩:=c
       obtain⟨p,ep,rfl⟩:=dx
       obtain⟨vs,hp,rp⟩:=S.obj n p _ ep q1
       refine .inr (.inr ⟨p,k,vs,rfl,dy,hp,by omega,by omega,by rw[<-rp.length,<-bX];exact c3,fun t ht=>?_⟩)
       have u2:=Up.new (μ:=μ) (.lst (List.replicate k.toNat vs).flatten) ht
       refine h _ _ (μ++[t]) u2 (S.new ht rfl ⟨_,aK,ax.up u2 (rp.rep k.toNat)⟩) ⟨t,?_,rfl⟩
       rw[<-S.len];simp
     · rw[if_neg c]at h;exact False.elim h
    |_=>rw[q1]at h;exact False.elim h
  |_=>exact False.elim h
 |_=>exact False.elim h⟩
def Cc:OpR X (binaryOp .Mod) (rI (fun _ j=>0 < j) fun i j=>.int (i % j))/\Br2 T X.K Y M3.oMod (rI (fun _ j=>0 < j) fun i j=>.int (i % j)):=⟨DN,by
 intro μ H G x y v w Q S dx dy h
 cases x with
 |int i=>cases y with
  |int j=>
   obtain⟨c,h⟩:=ju (c:=0 < j) h
   exact⟨i,j,dx,dy,c,h _ H μ (Up.refl _ _) S rfl⟩
  |_=>exact False.elim h
 |_=>exact False.elim h⟩
def C8(K:PySem.W.Frag):R2:=fun x y H Q=>rI0 (fun i j=>.int (i+j)) x y H Q\/(fun x y H Q=>(∃i j,x= .str i/\y= .str j/\i.length+j.length<=sizeLine/\Q (.str (i++j)) H)\/(fun x y H Q=>CY K x y H Q\/Hr x y H Q) x y H Q) x y H Q
def BP:OpR X (binaryOp .Add) (C8 X.K)/\Br2 T X.K Y M3.gI (C8 X.K):=⟨EF.or (vO.or (CQ.or EB)),by
 intro μ H G x y v w Q S dx dy h
 cases x with
 |int i=>cases y with
  |int j=>exact .inl ⟨i,j,dx,dy,h _ H μ (Up.refl _ _) S rfl⟩
  |_=>exact False.elim h
 |str p=>cases y with
  |str q=>
   obtain⟨c,h⟩:=ju (c:=p.length+q.length<=M3.aC) h
   exact .inr (.inl ⟨p,q,dx,dy,by rw[<-bX];exact c,h _ H μ (Up.refl _ _) S rfl⟩)
  |_=>exact False.elim h
 |tup ds=>cases y with
  |tup es=>
   obtain⟨⟨c1,c2⟩,h⟩:=ju (c:=ds≠ []/\ds.length+es.length<=M3.aC) h
   obtain⟨p,vs,rfl,sp,rp⟩:=dx
   obtain⟨q,ws,rfl,sq,rq⟩:=dy
   refine .inr (.inr (.inl ⟨p,q,vs,ws,rfl,rfl,sp,sq,?_,by rw[<-rp.length,<-rq.length,<-bX];exact c2,fun z=>?_,fun z t ht=>?_⟩))
   · intro z;subst z
     cases ds with
     |nil=>exact c1 rfl
     |cons d t=>obtain⟨_,_,e,_⟩:=rp;cases e
   · subst z
     refine h _ H μ (Up.refl _ _) S ⟨p,vs,rfl,sp,?_⟩
     have:es=[]:=by
      have:=rq.length
      cases es with
      |nil=>rfl
      |cons _ _=>simp at this
     subst this
     rw[qY_];exact rp
   · have u2:Up μ μ H (upd H t (.tup (vs++ws))):=Up.same (gi.new _ ht)
     exact h _ _ μ u2 (S.same (gi.new _ ht)) ⟨t,_,rfl,SqT.of aK,ax.up u2 (rp.append rq)⟩
  |_=>exact False.elim h
 |ref i=>cases y with
  |ref j=>
   unfold M3.run M3.gI at h
   dsimp only at h
   cases q1:G[i]? with
   |none=>rw[q1]at h;exact False.elim h
   |some o1=>
    cases o1 with
    |lst xs=>
     cases q2:G[j]? with
     |none=>rw[q1,q2]at h;exact False.elim h
     |some o2=>
      cases o2 with
      |lst ys=>
       rw[q1,q2]at h
       dsimp only at h
       by_cases c:xs.length+ys.length<=M3.aC
       · rw[if_pos c]at h
         obtain⟨p,ep,rfl⟩:=dx
         obtain⟨q,eq,rfl⟩:=dy
         obtain⟨vs,hp,rp⟩:=S.obj i p _ ep q1
         obtain⟨ws,hq,rq⟩:=S.obj j q _ eq q2
         refine .inr (.inr (.inr ⟨p,q,vs,ws,rfl,rfl,hp,hq,by rw[<-rp.length,<-rq.length,<-bX];exact c,fun t ht=>?_⟩))
         have u2:=Up.new (μ:=μ) (.lst (vs++ws)) ht
         refine h _ _ (μ++[t]) u2 (S.new ht rfl ⟨_,aK,ax.up u2 (rp.append rq)⟩) ⟨t,?_,rfl⟩
         rw[<-S.len];simp
       · rw[if_neg c]at h;exact False.elim h
      |_=>rw[q1,q2]at h;exact False.elim h
    |_=>rw[q1]at h;exact False.elim h
  |_=>exact False.elim h
 |_=>exact False.elim h⟩
def Ef:OpR X (compareOp .LtE) (rI0 fun i j=>.bl (decide (i<=j)))/\Br2 T X.K Y M3.oLe (rI0 fun i j=>.bl (decide (i<=j))):=⟨GG,by
 intro μ H G x y v w Q S dx dy h
 cases x with
 |int i=>cases y with
  |int j=>exact⟨i,j,dx,dy,h _ H μ (Up.refl _ _) S rfl⟩
  |_=>exact False.elim h
 |_=>exact False.elim h⟩
def Fm:OpR X (compareOp .GtE) (rI0 fun i j=>.bl (decide (j<=i)))/\Br2 T X.K Y M3.oGe (rI0 fun i j=>.bl (decide (j<=i))):=⟨Ii,by
 intro μ H G x y v w Q S dx dy h
 cases x with
 |int i=>cases y with
  |int j=>exact⟨i,j,dx,dy,h _ H μ (Up.refl _ _) S rfl⟩
  |_=>exact False.elim h
 |_=>exact False.elim h⟩
theorem cH:∀{ds:List M3.D} {ns:List Int},M3.intsOf ds=some ns->ds=ns.map M3.D.int
 | [],_,h=>by cases h;rfl
 |d :: r,ns,h=>by
  cases d with
  |int i=>
   have h:(M3.intsOf r).map (i :: ·)=some ns:=h
   cases q:M3.intsOf r with
   |none=>rw[q]at h;cases h
   |some m=>
    rw[q]at h
    cases h
    rw[cH q];rfl
  |_=>cases h
theorem om:∀(a b:List Int),M3.k6 a b=HT.lexLt a b
 | [],[]=>rfl
 | [],_ :: _=>rfl
 |_ :: _,[]=>rfl
 |a :: r,b :: t=>by
  show (if a=b then M3.k6 r t else decide (a < b))=if a=b then HT.lexLt r t else decide (a < b)
  rw[om r t]
def Bv(K:PySem.W.Frag):R2:=fun x y H Q=>rI0 (fun i j=>.bl (decide (i < j))) x y H Q\/He K x y H Q
def Ff(hu:X.A.units < cLine):OpR X (compareOp .Lt) (Bv X.K)/\Br2 T X.K Y M3.oLt (Bv X.K):=⟨Gr.or (FT hu),by
 intro μ H G x y v w Q S dx dy h
 cases x with
 |int i=>cases y with
  |int j=>exact .inl ⟨i,j,dx,dy,h _ H μ (Up.refl _ _) S rfl⟩
  |_=>exact False.elim h
 |tup ds=>cases y with
  |tup es=>
   unfold M3.oLt at h
   dsimp only at h
   cases q1:M3.intsOf ds with
   |none=>rw[q1]at h;exact False.elim h
   |some m=>
    cases q2:M3.intsOf es with
    |none=>rw[q1,q2]at h;exact False.elim h
    |some n=>
     rw[q1,q2]at h
     rw[cH q1]at dx
     rw[cH q2]at dy
     obtain⟨p,vs,rfl,sp,rp⟩:=dx
     obtain⟨q,ws,rfl,sq,rq⟩:=dy
     rw[ax.ints rp]at sp
     rw[ax.ints rq]at sq
     refine .inr ⟨p,q,m,n,rfl,rfl,sp,sq,?_⟩
     rw[<-om]
     exact h _ H μ (Up.refl _ _) S rfl
  |_=>exact False.elim h
 |_=>exact False.elim h⟩
end
open PySem PySem.Spec PyProof.Rows L2 PySem.SeqAt
section
variable{X:Cx}{T:Tab}{Y:EX}{pins:List (Addr×Obj)}{σ:L2.St}{H:Hp}{s:Shared}{μ:List Addr}{G:M3.Hh}
theorem lQ{f:M3.D->M3.D->Option Bool}:∀{xs ys:List M3.D} {b:Bool},M3.eqZ f xs ys=some b->∃e:Nat->Bool,(∀(j:Nat) x y,xs[j]? =some x->ys[j]? =some y->f x y=some (e j))/\b=(List.range (min xs.length ys.length)).all e
 | [],ys,b,h=>⟨fun _=>true,(fun j x y h=>by simp at h),by cases ys <;> (cases h;simp)⟩
 |x :: xs,[],b,h=>⟨fun _=>true,(fun j x y _ h=>by simp at h),by cases h;simp⟩
 |x :: xs,y :: ys,b,h=>by
  unfold M3.eqZ at h
  cases q:f x y with
  |none=>rw[q]at h;cases h
  |some p=>
   cases q2:M3.eqZ f xs ys with
   |none=>rw[q,q2]at h;cases h
   |some r=>
    rw[q,q2]at h
    cases h
    obtain⟨e,h1,h2⟩:=lQ q2
    refine⟨fun j=>match j with
     |0=>p
     |j+1=>e j,fun j a b e1 e2=>?_,?_⟩
    · cases j with
      |zero=>
       simp at e1 e2
       subst e1 e2
       exact q
      |succ j=>exact h1 j a b (by simpa using e1) (by simpa using e2)
    · rw[h2]
      simp only[List.length_cons,Nat.succ_min_succ,List.range_succ_eq_map,List.all_cons,List.all_map]
      rfl
def w9(I:Inv X pins σ H s){a:Addr}{vs ws:List V}(h1:SqL X.K H a vs)(h2:SqT X.K H a ws):False:=by
 obtain⟨its,_,⟨o,n,e,c,_⟩,_⟩:=I.list h1
 obtain⟨its2,_,⟨o2,e2,c2,_⟩,_⟩:=I.tuple h2
 rw[e]at e2
 cases e2
 rw[c]at c2
 injection c2 with c3
 exact absurd c3 (by decide)
def dk(S:Sim T X.K μ H G){n:Nat}{a:Addr}{xs:List M3.D}(e:μ[n]? =some a)(h:M3.listOf G n=some xs):∃vs,SqL X.K H a vs/\ax X.K H μ xs vs:=by
 unfold M3.listOf at h
 cases q:G[n]? with
 |none=>rw[q]at h;cases h
 |some o=>
  rw[q]at h
  have ob:=S.obj n a o e q
  cases o with
  |lst ys=>cases h;obtain⟨vs,e1,r⟩:=ob;exact⟨vs,SqL.of e1,r⟩
  |frz ys=>cases h;obtain⟨vs,e1,r⟩:=ob;exact⟨vs,e1.sq,r⟩
  |_=>cases h
def sc:V->Option M3.D
 | .non=>some .non
 | .bl b=>some (.bl b)
 | .int i=>some (.int i)
 | .str x=>some (.str x)
 |_=>none
def j8{K:PySem.W.Frag}{x d:M3.D}{v:V}(h:Den K H μ x v)(e:sc v=some d):x=d:=by
 cases x with
 |non=>cases (show v= .non from h);cases e;rfl
 |bl b=>cases (show v= .bl b from h);cases e;rfl
 |int i=>cases (show v= .int i from h);cases e;rfl
 |str z=>cases (show v= .str z from h);cases e;rfl
 |ref n=>obtain⟨a,_,rfl⟩:=h;cases e
 |tup ds=>obtain⟨a,vs,rfl,_⟩:=h;cases e
def fk{K:PySem.W.Frag}{x:M3.D}{v:V}(h:Den K H μ x v)(e:sc v=none):(∃n a,x= .ref n/\v= .ref a/\μ[n]? =some a)\/∃ds a vs,x= .tup ds/\v= .ref a/\SqT K H a vs/\ax K H μ ds vs:=by
 cases x with
 |non=>cases (show v= .non from h);cases e
 |bl b=>cases (show v= .bl b from h);cases e
 |int i=>cases (show v= .int i from h);cases e
 |str z=>cases (show v= .str z from h);cases e
 |ref n=>obtain⟨a,e1,rfl⟩:=h;exact .inl ⟨n,a,rfl,rfl,e1⟩
 |tup ds=>obtain⟨a,vs,rfl,h1,h2⟩:=h;exact .inr ⟨ds,a,vs,rfl,rfl,h1,h2⟩
def DA{k:Nat}{v w:V}{d y:M3.D}{b:Bool}(dy:Den X.K H μ y w)(hv:sc v=some d)(hw:sc w=none)(h:M3.eqG G k d y=some b):b=false:=by
 cases k with
 |zero=>cases h
 |succ k=>
  rcases fk dy hw with ⟨n,a,rfl,rfl,_⟩ |⟨ds,a,vs,rfl,rfl,_⟩ <;> cases v <;> (try cases hv) <;> (try cases h) <;> rfl
def Dz{k:Nat}{v w:V}{d y:M3.D}{b:Bool}(dy:Den X.K H μ y w)(hv:sc v=some d)(hw:sc w=none)(h:M3.eqG G k y d=some b):b=false:=by
 cases k with
 |zero=>cases h
 |succ k=>
  rcases fk dy hw with ⟨n,a,rfl,rfl,_⟩ |⟨ds,a,vs,rfl,rfl,_⟩ <;> cases v <;> (try cases hv) <;> (try cases h) <;> rfl
def jR{k n m:Nat}{b:Bool}(h:M3.eqG G (k+1) (.ref n) (.ref m)=some b):∃xs ys,M3.listOf G n=some xs/\M3.listOf G m=some ys/\(if xs.length=ys.length then M3.eqZ (M3.eqG G k) xs ys else some false)=some b:=by
 have h:(match M3.listOf G n,M3.listOf G m with
  |some a,some b=>if a.length=b.length then M3.eqZ (M3.eqG G k) a b else some false
  |_,_=>none)=some b:=h
 cases q1:M3.listOf G n with
 |none=>rw[q1]at h;cases h
 |some xs=>
  cases q2:M3.listOf G m with
  |none=>rw[q1,q2]at h;cases h
  |some ys=>rw[q1,q2]at h;exact⟨xs,ys,rfl,rfl,h⟩
def ma{k:Nat}{ds es:List M3.D}{b:Bool}(h:M3.eqG G (k+1) (.tup ds) (.tup es)=some b):∃p,M3.eqZ (M3.eqG G k) ds es=some p/\b=(p&&decide (ds.length=es.length)):=by
 have h:(M3.eqZ (M3.eqG G k) ds es).map (·&&decide (ds.length=es.length))=some b:=h
 cases q:M3.eqZ (M3.eqG G k) ds es with
 |none=>rw[q]at h;cases h
 |some p=>rw[q]at h;cases h;exact⟨p,rfl,rfl⟩
theorem y7(I:Inv X pins σ H s)(S:Sim T X.K μ H G):∀(k:Nat) {x y x' y':M3.D} {v w:V} {b b':Bool},Den X.K H μ x v->Den X.K H μ x' v->Den X.K H μ y w->Den X.K H μ y' w->
 M3.eqG G k x y=some b->M3.eqG G k x' y'=some b'->b=b'
 |0,_,_,_,_,_,_,_,_,_,_,_,_,h,_=>by cases h
 |k+1,x,y,x',y',v,w,b,b',dx,dx',dy,dy',h,h'=>by
  have items:∀{xs xs' ys ys':List M3.D} {vs ws:List V} {p q:Bool},ax X.K H μ xs vs->ax X.K H μ xs' vs->ax X.K H μ ys ws->ax X.K H μ ys' ws->M3.eqZ (M3.eqG G k) xs ys=some p->M3.eqZ (M3.eqG G k) xs' ys'=some q->p=q:=by
   intro xs xs' ys ys' vs ws p q r1 r2 r3 r4 e1 e2
   obtain⟨f,hf,rfl⟩:=lQ e1
   obtain⟨g,hg,rfl⟩:=lQ e2
   have l1:=r1.length
   have l2:=r2.length
   have l3:=r3.length
   have l4:=r4.length
   rw[show min xs'.length ys'.length=min xs.length ys.length by omega]
   have key:∀j∈List.range (min xs.length ys.length),f j=g j:=by
    intro j hj
    have hj:=List.mem_range.mp hj
    have j1:j < xs.length:=by omega
    have j2:j < ys.length:=by omega
    have j3:j < xs'.length:=by omega
    have j4:j < ys'.length:=by omega
    obtain⟨v1,a1,d1⟩:=r1.get (qA_ j1)
    obtain⟨v2,a2,d2⟩:=r2.get (qA_ j3)
    obtain⟨v3,a3,d3⟩:=r3.get (qA_ j2)
    obtain⟨v4,a4,d4⟩:=r4.get (qA_ j4)
    rw[a1]at a2;cases a2
    rw[a3]at a4;cases a4
    exact y7 I S k d1 d2 d3 d4 (hf j _ _ (qA_ j1) (qA_ j2)) (hg j _ _ (qA_ j3) (qA_ j4))
   generalize List.range (min xs.length ys.length)=L at key
   induction L with
   |nil=>rfl
   |cons j r ih=>rw[List.all_cons,List.all_cons,key j qI_,ih fun i hi=>key i (qR_ _ hi)]
  cases hv:sc v with
  |some d1=>
   have e1:=j8 dx hv
   have e2:=j8 dx' hv
   cases hw:sc w with
   |some d2=>
    have e3:=j8 dy hw
    have e4:=j8 dy' hw
    subst e1 e2 e3 e4
    rw[h]at h'
    cases h'
    rfl
   |none=>
    subst e1 e2
    rw[DA dy hv hw h,DA dy' hv hw h']
  |none=>
   cases hw:sc w with
   |some d2=>
    have e3:=j8 dy hw
    have e4:=j8 dy' hw
    subst e3 e4
    rw[Dz dx hw hv h,Dz dx' hw hv h']
   |none=>
    rcases fk dx hv with ⟨n,a,rfl,rfl,en⟩ |⟨ds,a,vs,rfl,rfl,sq,r⟩
    · rcases fk dy hw with ⟨m,c,rfl,rfl,em⟩ |⟨es,c,ws,rfl,rfl,sq2,r2⟩
      · obtain⟨xs,ys,l1,l2,h⟩:=jR h
        obtain⟨vs1,q1,r1⟩:=dk S en l1
        obtain⟨vs2,q2,r2⟩:=dk S em l2
        rcases fk dx' hv with ⟨n',a',rfl,ea,en'⟩ |⟨ds',a',vs',rfl,ea,sq',r'⟩
        · cases ea
          rcases fk dy' hw with ⟨m',c',rfl,ec,em'⟩ |⟨es',c',ws',rfl,ec,sq2',r2'⟩
          · cases ec
            obtain⟨xs',ys',l1',l2',h'⟩:=jR h'
            obtain⟨vs1',q1',r1'⟩:=dk S en' l1'
            obtain⟨vs2',q2',r2'⟩:=dk S em' l2'
            cases I.jL q1 q1'
            cases I.jL q2 q2'
            have z1:=r1.length
            have z2:=r1'.length
            have z3:=r2.length
            have z4:=r2'.length
            by_cases c:xs.length=ys.length
            · rw[if_pos c]at h
              rw[if_pos (by omega)]at h'
              exact items r1 r1' r2 r2' h h'
            · rw[if_neg c]at h
              rw[if_neg (by omega)]at h'
              cases h;cases h';rfl
          · cases h'
        · cases ea
          exact(w9 I q1 sq').elim
      · cases h
    · rcases fk dy hw with ⟨m,c,rfl,rfl,em⟩ |⟨es,c,ws,rfl,rfl,sq2,r2⟩
      · cases h
      · obtain⟨p,hz,rfl⟩:=ma h
        rcases fk dx' hv with ⟨n',a',rfl,ea,en'⟩ |⟨ds',a',vs',rfl,ea,sq',r'⟩
        · cases ea
          rcases fk dy' hw with ⟨m',c',rfl,ec,em'⟩ |⟨es',c',ws',rfl,ec,sq2',r2'⟩
          · obtain⟨xs',ys',l1',l2',h'⟩:=jR h'
            obtain⟨vs1',q1',r1'⟩:=dk S en' l1'
            exact(w9 I q1' sq).elim
          · cases h'
        · cases ea
          rcases fk dy' hw with ⟨m',c',rfl,ec,em'⟩ |⟨es',c',ws',rfl,ec,sq2',r2'⟩
          · cases h'
          · cases ec
            obtain⟨p',hz',rfl⟩:=ma h'
            cases I.kC sq sq'
            cases I.kC sq2 sq2'
            have z1:=r.length
            have z2:=r'.length
            have z3:=r2.length
            have z4:=r2'.length
            rw[items r r' r2 r2' hz hz',z1,z2,z3,z4]
theorem si(I:Inv X pins σ H s)(S:Sim T X.K μ H G):∀(k:Nat) {x y:M3.D} {v:V} {b:Bool},Den X.K H μ x v->Den X.K H μ y v->M3.eqG G k x y=some b->b=true
 |0,_,_,_,_,_,_,h=>by cases h
 |k+1,x,y,v,b,dx,dy,h=>by
  have items:∀{xs ys:List M3.D} {vs:List V} {p:Bool},ax X.K H μ xs vs->ax X.K H μ ys vs->M3.eqZ (M3.eqG G k) xs ys=some p->p=true:=by
   intro xs ys vs p r1 r2 e1
   obtain⟨f,hf,rfl⟩:=lQ e1
   rw[List.all_eq_true]
   intro j hj
   have hj:=List.mem_range.mp hj
   have j1:j < xs.length:=by omega
   have j2:j < ys.length:=by omega
   obtain⟨v1,a1,d1⟩:=r1.get (qA_ j1)
   obtain⟨v2,a2,d2⟩:=r2.get (qA_ j2)
   rw[a1]at a2;cases a2
   exact si I S k d1 d2 (hf j _ _ (qA_ j1) (qA_ j2))
  cases hv:sc v with
  |some d=>
   have e1:=j8 dx hv
   have e2:=j8 dy hv
   subst e1 e2
   cases v with
   |non=>cases hv;cases h;rfl
   |bl c=>cases hv;cases h;simp
   |int c=>cases hv;cases h;simp
   |str c=>cases hv;cases h;simp
   |_=>cases hv
  |none=>
   rcases fk dx hv with ⟨n,a,rfl,rfl,en⟩ |⟨ds,a,vs,rfl,rfl,sq,r⟩
   · rcases fk dy hv with ⟨m,c,rfl,ec,em⟩ |⟨es,c,ws,rfl,ec,sq2,r2⟩
     · cases ec
       obtain⟨xs,ys,l1,l2,h⟩:=jR h
       obtain⟨vs1,q1,r1⟩:=dk S en l1
       obtain⟨vs2,q2,r2⟩:=dk S em l2
       cases I.jL q1 q2
       rw[if_pos (r1.length.trans r2.length.symm)]at h
       exact items r1 r2 h
     · cases h
   · rcases fk dy hv with ⟨m,c,rfl,ec,em⟩ |⟨es,c,ws,rfl,ec,sq2,r2⟩
     · cases h
     · cases ec
       obtain⟨p,hz,rfl⟩:=ma h
       cases I.kC sq sq2
       rw[items r r2 hz,qZ_ (r.length.trans r2.length.symm)]
       rfl
def wC{K:PySem.W.Frag}{ds:List M3.D}{vs:List V}{its:List Value}(r:ax K H μ ds vs)(q:Vals vs its){j:Nat}(h:j < its.toArray.size):∃d v,ds[j]? =some d/\Den K H μ d v/\RelV v its.toArray[j]:=by
 have hl:j < its.length:=by simpa using h
 have h2:j < vs.length:=by rw[q.length];exact hl
 obtain⟨u,e,rv⟩:=q.get (qA_ h2)
 obtain⟨d,e1,r1⟩:=r.get' (qA_ h2)
 refine⟨d,_,e1,r1,?_⟩
 rw[qA_ hl]at e
 cases e
 simpa using rv
theorem wL(I:Inv X pins σ H s)(S:Sim T X.K μ H G):∀(k:Nat) {x y:M3.D} {v w:V} {u u':Value} {b:Bool} {A:Around},A.units+k < cLine->Den X.K H μ x v->Den X.K H μ y w->RelV v u->RelV w u'->M3.eqG G k x y=some b->
 EqAt A s u u' b/\RcAt A s u u' b/\RcNeAt A s u u' (!b)
 |0,_,_,_,_,_,_,_,_,_,_,_,_,_,h=>by cases h
 |k+1,x,y,v,w,u,u',b,A,hu,dx,dy,ru,ru',h=>by
  have hu0:A.units < cLine:=by omega
  have hu1:A.in1.units+k < cLine:=by show A.units+1+k < cLine;omega
  have items:∀{xs ys:List M3.D} {vs ws:List V} {is js:List Value} {p:Bool},ax X.K H μ xs vs->ax X.K H μ ys ws->Vals vs is->Vals ws js->M3.eqZ (M3.eqG G k) xs ys=some p->
   ∃e:Nat->Bool,(∀j (h1:j < is.toArray.size) (h2:j < js.toArray.size),EqAt A.in1 s is.toArray[j] js.toArray[j] (e j))/\p=(List.range (min is.toArray.size js.toArray.size)).all e:=by
   intro xs ys vs ws is js p r1 r2 q1 q2 hz
   obtain⟨e,he,rfl⟩:=lQ hz
   refine⟨e,fun j h1 h2=>?_,?_⟩
   · obtain⟨d1,v1,a1,b1,c1⟩:=wC r1 q1 h1
     obtain⟨d2,v2,a2,b2,c2⟩:=wC r2 q2 h2
     exact(wL I S k hu1 b1 b2 c1 c2 (he j _ _ a1 a2)).1
   · have l1:=r1.length
     have l2:=r2.length
     have l3:=q1.length
     have l4:=q2.length
     rw[show min is.toArray.size js.toArray.size=min xs.length ys.length by simp;omega]
  cases x with
  |non=>
   cases (show v= .non from dx)
   cases (show u=Value.none from ru)
   cases y with
   |non=>cases (show w= .non from dy);cases (show u'=Value.none from ru');cases h;exact⟨.same _,.none_none,.none_none⟩
   |int j=>cases (show w= .int j from dy);obtain⟨t,rfl⟩:=(show ∃t,u'=Value.int j t from ru');cases h;exact⟨.none_int _ _,.none_int _ _,.none_int _ _⟩
   |str j=>cases (show w= .str j from dy);obtain⟨t,rfl⟩:=(show ∃t,u'=Value.str j t from ru');cases h;exact⟨.none_str _ _,.none_str _ _,.none_str _ _⟩
   |tup es=>obtain⟨a,vs,rfl,sq,r⟩:=dy;cases (show u'=Value.ref a from ru');cases h;obtain⟨its,_,p,_⟩:=I.tuple sq;exact⟨.none_tuple p hu0,.none_tuple p hu0,.none_tuple p hu0⟩
   |bl j=>cases h
   |ref j=>cases h
  |bl i=>
   cases (show v= .bl i from dx)
   cases (show u=Value.bool i from ru)
   cases y with
   |bl j=>cases (show w= .bl j from dy);cases (show u'=Value.bool j from ru');cases h;exact⟨.bool_bool _ _,.bool_bool _ _,.bool_bool _ _⟩
   |_=>cases h
  |int i=>
   cases (show v= .int i from dx)
   obtain⟨t,rfl⟩:=(show ∃t,u=Value.int i t from ru)
   cases y with
   |non=>cases (show w= .non from dy);cases (show u'=Value.none from ru');cases h;exact⟨.int_none _ _,.int_none _ _,.int_none _ _⟩
   |int j=>
    cases (show w= .int j from dy);obtain⟨t',rfl⟩:=(show ∃t,u'=Value.int j t from ru');cases h
    rw[<-Bool.beq_eq_decide_eq]
    exact⟨.int_int _ _ _ _,.int_int _ _ _ _,.int_int _ _ _ _⟩
   |str j=>cases (show w= .str j from dy);obtain⟨t',rfl⟩:=(show ∃t,u'=Value.str j t from ru');cases h;exact⟨.int_str _ _ _ _,.int_str _ _ _ _,.int_str _ _ _ _⟩
   |tup es=>obtain⟨a,vs,rfl,sq,r⟩:=dy;cases (show u'=Value.ref a from ru');cases h;obtain⟨its,_,p,_⟩:=I.tuple sq;exact⟨.int_tuple _ _ p hu0,.int_tuple _ _ p hu0,.int_tuple _ _ p hu0⟩
   |bl j=>cases h
   |ref j=>cases h
  |str i=>
   cases (show v= .str i from dx)
   obtain⟨t,rfl⟩:=(show ∃t,u=Value.str i t from ru)
   cases y with
   |non=>cases (show w= .non from dy);cases (show u'=Value.none from ru');cases h;exact⟨.str_none _ _,.str_none _ _,.str_none _ _⟩
   |str j=>
    cases (show w= .str j from dy);obtain⟨t',rfl⟩:=(show ∃t,u'=Value.str j t from ru');cases h
    rw[show decide (i=j)=(i==j)from rfl]
    exact⟨.str_str _ _ _ _,.str_str _ _ _ _,.str_str _ _ _ _⟩
   |int j=>cases (show w= .int j from dy);obtain⟨t',rfl⟩:=(show ∃t,u'=Value.int j t from ru');cases h;exact⟨.str_int _ _ _ _,.str_int _ _ _ _,.str_int _ _ _ _⟩
   |tup es=>cases h
   |bl j=>cases h
   |ref j=>cases h
  |tup ds=>
   obtain⟨a,vs,rfl,sq,r⟩:=dx
   cases (show u=Value.ref a from ru)
   obtain⟨is,q1,p1,_⟩:=I.tuple sq
   cases y with
   |non=>cases (show w= .non from dy);cases (show u'=Value.none from ru');cases h;exact⟨.tuple_none p1 hu0,.tuple_none p1 hu0,.tuple_none p1 hu0⟩
   |int j=>cases (show w= .int j from dy);obtain⟨t,rfl⟩:=(show ∃t,u'=Value.int j t from ru');cases h;exact⟨.tuple_int _ _ p1 hu0,.tuple_int _ _ p1 hu0,.tuple_int _ _ p1 hu0⟩
   |tup es=>
    obtain⟨c,ws,rfl,sq2,r2⟩:=dy
    cases (show u'=Value.ref c from ru')
    obtain⟨js,q2,p2,_⟩:=I.tuple sq2
    obtain⟨p,hz,hb⟩:=ma h
    obtain⟨e,he,hp⟩:=items r r2 q1 q2 hz
    have l1:=r.length
    have l2:=r2.length
    have l3:=q1.length
    have l4:=q2.length
    have hb':b=((List.range (min is.toArray.size js.toArray.size)).all e&&is.toArray.size==js.toArray.size):=by
     rw[hb,hp]
     congr 1
     rw[Bool.beq_eq_decide_eq]
     exact decide_eq_decide.mpr (by simp;omega)
    have rc:RcAt A s (.ref a) (.ref c) b:=by rw[hb'];exact .tuples p1 p2 hu0 he
    have rn:RcNeAt A s (.ref a) (.ref c) (!b):=by rw[hb'];exact .tuples p1 p2 hu0 he
    refine⟨?_,rc,rn⟩
    by_cases hac:a=c
    · subst hac
      have d2:Den X.K H μ (.tup ds) (.ref a):=⟨a,vs,rfl,sq,r⟩
      have d3:Den X.K H μ (.tup es) (.ref a):=⟨a,ws,rfl,sq2,r2⟩
      rw[si I S (k+1) d2 d3 h]
      exact .same _
    · exact .of_refs hac rc
   |_=>cases h
  |ref n=>
   cases y with
   |ref m=>
    obtain⟨xs,ys,l1,l2,hz⟩:=jR h
    obtain⟨a,ea,rfl⟩:=id dx
    obtain⟨c,ec,rfl⟩:=id dy
    cases (show u=Value.ref a from ru)
    cases (show u'=Value.ref c from ru')
    obtain⟨vs,sq,r⟩:=dk S ea l1
    obtain⟨ws,sq2,r2⟩:=dk S ec l2
    obtain⟨is,q1,p1,_⟩:=I.list sq
    obtain⟨js,q2,p2,_⟩:=I.list sq2
    have z1:=r.length
    have z2:=r2.length
    have z3:=q1.length
    have z4:=q2.length
    have two:RcAt A s (.ref a) (.ref c) b/\RcNeAt A s (.ref a) (.ref c) (!b):=by
     by_cases hl:xs.length=ys.length
     · rw[if_pos hl]at hz
       obtain⟨e,he,hp⟩:=items r r2 q1 q2 hz
       have hsz:is.toArray.size=js.toArray.size:=by simp;omega
       rw[show min is.toArray.size js.toArray.size=is.toArray.size by omega]at hp
       rw[hp]
       exact⟨.lists p1.isList p2.isList hsz hu0 he,.lists p1.isList p2.isList hsz hu0 he⟩
     · rw[if_neg hl]at hz
       cases hz
       have hsz:(is.toArray.size !=js.toArray.size)=true:=by simp;omega
       exact⟨.lists_lengths p1.isList p2.isList hsz hu0,.lists_lengths p1.isList p2.isList hsz hu0⟩
    refine⟨?_,two.1,two.2⟩
    by_cases hac:a=c
    · subst hac
      rw[si I S (k+1) dx dy h]
      exact .same _
    · exact .of_refs hac two.1
   |_=>cases h
end
section
variable{X:Cx}{T:Tab}{Y:EX}
def qg(T:Tab)(K:PySem.W.Frag)(neg:Bool):R2:=fun v w H Q=>∃μ G x y b,Sim T K μ H G/\Den K H μ x v/\Den K H μ y w/\M3.eqG G 8 x y=some b/\Q (.bl (if neg then !b else b)) H
def D2(hu:X.A.units+8 < cLine):OpR X (compareOp .Eq) (qg T X.K false):=by
 intro pins s σ H v w u u' Q I r r' h
 obtain⟨μ,G,x,y,b,S,dx,dy,e,q⟩:=h
 exact(wL I S 8 hu dx dy r r' e).2.1 _ _ _ _ ⟨.bl b,H,I,rfl,q⟩
def D0(hu:X.A.units+8 < cLine):OpR X (compareOp .NotEq) (qg T X.K true):=by
 intro pins s σ H v w u u' Q I r r' h
 obtain⟨μ,G,x,y,b,S,dx,dy,e,q⟩:=h
 exact(wL I S 8 hu dx dy r r' e).2.2 _ _ _ _ ⟨.bl (!b),H,I,rfl,q⟩
def DF(hu:X.A.units+8 < cLine):OpR X (compareOp .Eq) (qg T X.K false)/\Br2 T X.K Y M3.oEq (qg T X.K false):=⟨D2 hu,by
 intro μ H G x y v w Q S dx dy h
 unfold M3.run M3.oEq at h
 cases q:M3.eqG G 8 x y with
 |none=>rw[q]at h;exact False.elim h
 |some b=>
  rw[q]at h
  exact⟨μ,G,x,y,b,S,dx,dy,q,h _ H μ (Up.refl _ _) S rfl⟩⟩
def Fb(hu:X.A.units+8 < cLine):OpR X (compareOp .NotEq) (qg T X.K true)/\Br2 T X.K Y M3.oNe (qg T X.K true):=⟨D0 hu,by
 intro μ H G x y v w Q S dx dy h
 unfold M3.run M3.oNe at h
 cases q:M3.eqG G 8 x y with
 |none=>rw[q]at h;exact False.elim h
 |some b=>
  rw[q]at h
  exact⟨μ,G,x,y,b,S,dx,dy,q,h _ H μ (Up.refl _ _) S rfl⟩⟩
end
section
variable{X:Cx}{T:Tab}{Y:EX}{pins:List (Addr×Obj)}{σ:L2.St}{H:Hp}{s:Shared}{μ:List Addr}{G:M3.Hh}
open Classical in
noncomputable def eU(K:PySem.W.Frag)(H:Hp)(μ:List Addr)(G:M3.Hh)(x:M3.D)(u:Value):Bool:=
 if h:∃b d v,Den K H μ d v/\RelV v u/\M3.eqG G 8 d x=some b then h.choose else false
def F7(I:Inv X pins σ H s)(S:Sim T X.K μ H G){x d:M3.D}{v w:V}{u:Value}{b:Bool}(dx:Den X.K H μ x w)(dd:Den X.K H μ d v)(r:RelV v u)(e:M3.eqG G 8 d x=some b):eU X.K H μ G x u=b:=by
 have h:∃b d v,Den X.K H μ d v/\RelV v u/\M3.eqG G 8 d x=some b:=⟨b,d,v,dd,r,e⟩
 unfold eU
 rw[dif_pos h]
 obtain⟨d',v',dd',r',e'⟩:=h.choose_spec
 have hv:v'=v:=r'.inj r
 subst hv
 exact y7 I S 8 dd' dd dx dx e' e
theorem y8(I:Inv X pins σ H s)(S:Sim T X.K μ H G){A:Around}(hu:A.units+8 < cLine){x:M3.D}{w:V}{u':Value}(dx:Den X.K H μ x w)(rx:RelV w u'):
 ∀{ys:List M3.D} {vs:List V} {its:List Value} {b:Bool},ax X.K H μ ys vs->Vals vs its->M3.ui G x ys=some b->(∀u∈its,EqAt A s u u' (eU X.K H μ G x u))/\its.any (eU X.K H μ G x)=b
 | [],_,_,_,r,q,h=>by
   cases (show _=[]from r)
   cases q
   cases h
   exact⟨fun u z=>(by cases z),rfl⟩
 |y :: ys,_,its,b,⟨v,vs,e,d,r⟩,q,h=>by
  subst e
  cases q with
  |@cons _ u _ us rv q=>
   unfold M3.ui at h
   cases e1:M3.eqG G 8 y x with
   |none=>rw[e1]at h;cases h
   |some p=>
    cases e2:M3.ui G x ys with
    |none=>rw[e1,e2]at h;cases h
    |some p2=>
     rw[e1,e2]at h
     cases h
     obtain⟨h1,h2⟩:=y8 I S hu dx rx r q e2
     have eu:=F7 I S dx d rv e1
     refine⟨fun u' hu'=>?_,?_⟩
     · rcases qS_.mp hu' with rfl |z
       · rw[eu];exact(wL I S 8 hu d dx rv rx e1).1
       · exact h1 u' z
     · rw[List.any_cons,eu,h2]
theorem s8{κ:Type} [DecidableEq κ]{K:PySem.W.Frag}:∀{kvs:List (κ×M3.D)} {ws:List (κ×V)} (k:κ),Paired (fun(p:κ×M3.D) (q:κ×V)=>p.1=q.1/\Den K H μ p.2 q.2) kvs ws->
 (M3.look kvs k=none/\jq ws k=none)\/∃d v,M3.look kvs k=some d/\jq ws k=some v/\Den K H μ d v
 |_,_,k,.nil=>.inl ⟨rfl,rfl⟩
 |(k1,d) :: kvs,(k2,v) :: ws,k,.cons ⟨h1,h2⟩ t=>by
  cases (show k1=k2 from h1)
  by_cases h:k1=k
  · subst h
    exact .inr ⟨d,v,by simp [M3.look],by simp [jq],h2⟩
  · have e1:M3.look ((k1,d) :: kvs) k=M3.look kvs k:=by simp [M3.look,h]
    have e2:jq ((k1,v) :: ws) k=jq ws k:=by simp [jq,h]
    rw[e1,e2]
    exact s8 k t
def sN{x:M3.D}{k:M3.Key}{K:PySem.W.Frag}{v:V}(h:M3.pO x=some k)(d:Den K H μ x v):v=kV k:=by
 cases x with
 |int i=>cases h;exact d
 |str z=>cases h;exact d
 |_=>cases h
end
section
variable{X:Cx}{T:Tab}{Y:EX}
def zO(T:Tab)(K:PySem.W.Frag)(neg:Bool):R2:=fun v w H Q=>∃μ G x y b,Sim T K μ H G/\Den K H μ x v/\Den K H μ y w/\M3.inG G x y=some b/\Q (.bl (if neg then !b else b)) H
def BG(hu:X.A.units+9 < cLine)(neg:Bool){pins:List (Addr×Obj)}{s:Shared}{σ:L2.St}{H:Hp}{v w:V}{u u':Value}{Q:VK}(I:Inv X pins σ H s)(r:RelV v u)(r':RelV w u')(h:zO T X.K neg v w H Q):
 wpAny (model X.prog X.w) X.A (compareOp (if neg then .NotIn else .In) u u') (EP X pins σ Q) X.xe s:=by
 obtain⟨μ,G,x,y,b,S,dx,dy,e,q⟩:=h
 have hu1:X.A.in1.units+8 < cLine:=by show X.A.units+1+8 < cLine;omega
 have lists:∀{a:Addr} {vs:List V} {ys:List M3.D},SqL X.K H a vs->ax X.K H μ ys vs->M3.ui G x ys=some b->u'= .ref a->wpAny (model X.prog X.w) X.A (compareOp (if neg then .NotIn else .In) u u') (EP X pins σ Q) X.xe s:=by
  intro a vs ys sq rs hm eu
  subst eu
  obtain⟨its,qv,p,_⟩:=I.list sq
  obtain⟨h1,h2⟩:=y8 I S hu1 dx r rs qv hm
  have h3:its.toArray.any (eU X.K H μ G x)=b:=by simpa using h2
  cases neg with
  |false=>exact in_listAt _ p.isList (fun y hy=>h1 y (by simpa using hy)) ⟨.bl b,H,I,by rw[h3];rfl,q⟩
  |true=>exact notIn_listAt _ p.isList (fun y hy=>h1 y (by simpa using hy)) ⟨.bl (!b),H,I,by rw[h3];rfl,q⟩
 cases y with
 |tup ys=>
  obtain⟨a,vs,rfl,sq,rs⟩:=dy
  cases (show u'=Value.ref a from r')
  obtain⟨its,qv,p,_⟩:=I.tuple sq
  obtain⟨h1,h2⟩:=y8 I S hu1 dx r rs qv e
  have h3:its.toArray.any (eU X.K H μ G x)=b:=by simpa using h2
  cases neg with
  |false=>exact in_tupleAt _ p (fun y hy=>h1 y (by simpa using hy)) ⟨.bl b,H,I,by rw[h3];rfl,q⟩
  |true=>exact notIn_tupleAt _ p (fun y hy=>h1 y (by simpa using hy)) ⟨.bl (!b),H,I,by rw[h3];rfl,q⟩
 |ref n=>
  obtain⟨a,ea,rfl⟩:=dy
  cases (show u'=Value.ref a from r')
  unfold M3.inG at e
  dsimp only at e
  cases qn:G[n]? with
  |none=>rw[qn]at e;cases e
  |some o=>
   rw[qn]at e
   have ob:=S.obj n a o ea qn
   cases o with
   |lst ys=>
    obtain⟨vs,e1,rs⟩:=ob
    exact lists (SqL.of e1) rs e rfl
   |frz ys=>
    obtain⟨vs,e1,rs⟩:=ob
    exact lists e1.sq rs e rfl
   |dK kvs=>
    obtain⟨ws,e1,rs⟩:=ob
    dsimp only at e
    cases qk:M3.pO x with
    |none=>rw[qk]at e;cases e
    |some k=>
     rw[qk]at e
     have e:some (M3.look kvs k).isSome=some b:=e
     have hb:(jq ws k).isSome=b:=by
      rcases s8 k rs with ⟨h1,h2⟩ |⟨d,v',h1,h2,_⟩
      · rw[h2];rw[h1]at e;cases e;rfl
      · rw[h2];rw[h1]at e;cases e;rfl
     cases sN qk dx
     cases neg with
     |false=>exact Ir (by omega) I (pR.k e1) r fun s' I'=>⟨.bl b,H,I',by rw[hb];rfl,q⟩
     |true=>exact Cq (by omega) I (pR.k e1) r fun s' I'=>⟨.bl (!b),H,I',by rw[hb];rfl,q⟩
   |dF kvs=>cases e
   |dT kvs=>cases e
   |ins C fs=>cases e
 |_=>cases e
def xZ(hu:X.A.units+9 < cLine):OpR X (compareOp .NotIn) (zO T X.K true)/\Br2 T X.K Y M3.mV (zO T X.K true):=⟨fun pins s σ H v w u u' Q I r r' h=>BG hu true I r r' h,by
 intro μ H G x y v w Q S dx dy h
 unfold M3.run M3.mV at h
 cases q:M3.inG G x y with
 |none=>rw[q]at h;exact False.elim h
 |some b=>
  rw[q]at h
  exact⟨μ,G,x,y,b,S,dx,dy,q,h _ H μ (Up.refl _ _) S rfl⟩⟩
end
end L3
namespace HT
open PySem PyProof.Rows
def Au(A:Around)(s:Shared)(a:Int)(t:Tok)(c:Int)(u:Tok)(prog:Program)(w:World)(E:Value->Shared->Prop)(Q:Value->Shared->Prop)(h:Q (.bool (decide (c < a))) s):
 wpAny (model prog w) A (richCompare .Gt (.int a t) (.int c u)) Q E s:=
 (PyProof.Rows.gt_int h:wpAny (model prog w) A (compareOp .Gt (.int a t) (.int c u)) Q E s)
section
open PySem.SeqAt
open PySem.AutoSeq1 (wpAny_loadPart')
open PySem.MeetsSeq PySem.MeetsSeq2 PySem.MeetsSeq3
def qL(l b:Addr)(items items2:Array Value)(n n2:Nat)(dd dd2:Option Addr)(sl sl2:Array (Option Value))(ns ms:List Int)(hi:IntsAre items.toList ns)(hj:IntsAre items2.toList ms):
 Meets (Builtin.«tuple.__gt__» ⟨[.ref l,.ref b],[]⟩)
  (fun _ R s=>s.heap.get? l=some {cls:= .type "tuple",dict:=dd,data:= .seq items n,slots:=sl}/\s.heap.get? b=some {cls:= .type "tuple",dict:=dd2,data:= .seq items2 n2,slots:=sl2}/\
    R (.ok (.ret (.bool (lexLt ms ns)))) s):=
 .of_wp fun prog w A R s h=>by
  obtain⟨hp,g,d,tk,os⟩:=s;obtain⟨hl,hb,h⟩:=h
  have f2:=AutoSeq1.sub_tuple_tuple
  have z1:items.size=ns.length:=by rw[<-hi.length];simp
  have z2:items2.size=ms.length:=by rw[<-hj.length];simp
  wp_walk using wpAny_loadPart' hl,wpAny_loadPart' hb,wpAny_forIn_list _ (fun rest b s'=>b.1=none/\s'=⟨hp,g,d,tk,os⟩/\∃(vs ws:List Value) (ns' ms':List Int),rest=vs.zip ws/\
   IntsAre vs ns'/\IntsAre ws ms'/\ns'.length+items2.size=ms'.length+items.size/\R (.ok (.ret (.bool (lexLt ms' ns')))) ⟨hp,g,d,tk,os⟩) _
  case turn=>
   rintro⟨y,x⟩ rest b s' ⟨hb',rfl,vs,ws,ns',ms',hz,hvi,hwi,hlen,hR⟩
   cases hvi with
   |nil=>rw[List.zip_nil_left]at hz;cases hz
   |cons a t hvi'=>
    cases hwi with
    |nil=>rw[List.zip_nil_right]at hz;cases hz
    |cons c u hwi'=>
     rw[List.zip_cons_cons]at hz
     injection hz with hyx hrest
     injection hyx with hy hx
     subst hy hx
     rw[lq]at hR
     simp only[List.length_cons]at hlen
     obtain⟨e,he,hiff⟩:=pb A.in1 ⟨hp,g,d,tk,os⟩ a t c u
     refine wpAny_bind (he prog w _ _ ?_)
     cases e with
     |true=>
      rw[if_pos (hiff.mp rfl).symm]at hR
      wp_walk
      exact⟨rfl,rfl,_,_,_,_,hrest,hvi',hwi',by omega,hR⟩
     |false=>
      rw[if_neg (fun q=>absurd (hiff.mpr (Eq.symm q)) qC_)]at hR
      have hri:=Au A.in1 ⟨hp,g,d,tk,os⟩ a t c u prog w
      wp_walk using hri
      exact⟨_,rfl,by simpa using hR⟩
  case fin=>
   rintro⟨b1,b2⟩ s' ⟨hb',rfl,vs,ws,ns',ms',hz,hvi,hwi,hlen,hR⟩
   simp only at hb'
   subst hb'
   have hv:lexLt ms' ns'=decide (items2.size < items.size):=by
    cases hvi with
    |nil=>
     cases hwi with
     |nil=>
      simp only[List.length_nil]at hlen
      rw[ij]
      exact(qa_ (by omega)).symm
     |cons c u hw=>
      simp only[List.length_nil,List.length_cons]at hlen
      rw[gm]
      exact(qa_ (by omega)).symm
    |cons a t hv=>
     cases hwi with
     |nil=>
      simp only[List.length_nil,List.length_cons]at hlen
      rw[gB]
      exact(qZ_ (by omega)).symm
     |cons c u hw=>
      rw[List.zip_cons_cons]at hz
      cases hz
   rw[hv]at hR
   wp_walk
   exact⟨_,rfl,by simpa [Builtin.Tuple.tupleCompareSizes] using hR⟩
  case h=>
   exact⟨rfl,rfl,items.toList,items2.toList,ns,ms,rfl,hi,hj,by omega,h⟩
end
def vp{prog:Program}{w:World}{A:Around}{E:Value->Shared->Prop}{s:Shared}{l b:Addr}{items items2:Array Value}{ns ms:List Int}{Q:Value->Shared->Prop}(hl:IsTup s.heap l items)(hb:IsTup s.heap b items2)(hi:IntsAre items.toList ns)(hj:IntsAre items2.toList ms)
 (hu:A.units < cLine) (h:Q (.bool (lexLt ms ns)) s):wpAny (model prog w) A (compareOp .Gt (.ref l) (.ref b)) Q E s:=by
 obtain⟨⟨cls,dd,data,sl⟩,ho,hc,n,hd⟩:=id hl
 obtain⟨⟨cls2,dd2,data2,sl2⟩,ho2,hc2,n2,hd2⟩:=id hb
 simp only at hc hd hc2 hd2
 subst hc hd hc2 hd2
 exact richCompare_meets_room (op:= .Gt) ⟨_,ho,rfl⟩ ⟨_,ho2,rfl⟩ PySem.F.slot_tuple_gt PySem.F.entry_tuple_gt (PySem.F.args_tuple_gt_2 _ _) (qL l b items items2 n n2 dd dd2 sl sl2 ns ms hi hj)
  ⟨ho,ho2,show Value.bool (lexLt ms ns)≠Value.notImplemented/\Q (.bool (lexLt ms ns)) s from⟨(fun x=>nomatch x),h⟩⟩ hu
end HT
namespace L3
open PySem PySem.Spec PyProof.Rows L2 PySem.SeqAt
section
variable{X:Cx}{T:Tab}{Y:EX}{a b e:Expr}{es:List Expr}{fa fb:M3.E3}{ta tb:M3.T3}{f3:M3.A3}{pos:Pos}{rest:List Expr}
def Gv(K:PySem.W.Frag):R2:=fun x y H Q=>∃a b ns ms,x= .ref a/\y= .ref b/\SqT K H a (ns.map V.int)/\SqT K H b (ms.map V.int)/\Q (.bl (HT.lexLt ms ns)) H
def Fz(hu:X.A.units < cLine):OpR X (compareOp .Gt) (Gv X.K):=by
 intro pins s σ H x y v u Q I rx ry h
 obtain⟨a,b,ns,ms,rfl,rfl,ha,hb,q⟩:=h
 cases rx
 cases ry
 obtain⟨its,r1,p1,_⟩:=I.tuple ha
 obtain⟨its2,r2,p2,_⟩:=I.tuple hb
 have i1:IntsAre its.toArray.toList ns:=intsAre_of r1
 have i2:IntsAre its2.toArray.toList ms:=intsAre_of r2
 exact HT.vp p1 p2 i1 i2 hu ⟨.bl (HT.lexLt ms ns),H,I,rfl,q⟩
def CH(K:PySem.W.Frag):R2:=fun x y H Q=>rI0 (fun i j=>.bl (decide (j < i))) x y H Q\/Gv K x y H Q
def DI(hu:X.A.units < cLine):OpR X (compareOp .Gt) (CH X.K)/\Br2 T X.K Y M3.oGt (CH X.K):=⟨HV.or (Fz hu),by
 intro μ H G x y v w Q S dx dy h
 cases x with
 |int i=>cases y with
  |int j=>exact .inl ⟨i,j,dx,dy,h _ H μ (Up.refl _ _) S rfl⟩
  |_=>exact False.elim h
 |tup ds=>cases y with
  |tup es=>
   unfold M3.oGt at h
   dsimp only at h
   cases q1:M3.intsOf ds with
   |none=>rw[q1]at h;exact False.elim h
   |some m=>
    cases q2:M3.intsOf es with
    |none=>rw[q1,q2]at h;exact False.elim h
    |some n=>
     rw[q1,q2]at h
     rw[cH q1]at dx
     rw[cH q2]at dy
     obtain⟨p,vs,rfl,sp,rp⟩:=dx
     obtain⟨q,ws,rfl,sq,rq⟩:=dy
     rw[ax.ints rp]at sp
     rw[ax.ints rq]at sq
     refine .inr ⟨p,q,m,n,rfl,rfl,sp,sq,?_⟩
     rw[<-om]
     exact h _ H μ (Up.refl _ _) S rfl
  |_=>exact False.elim h
 |_=>exact False.elim h⟩
def vM{K:PySem.W.Frag}{H:Hp}{μ:List Addr}{xs:List M3.D}{vs:List V}{i:Int}{d:M3.D}(r:ax K H μ xs vs)(h:M3.atI xs i=some d):∃v,L2.atI vs i=some v/\Den K H μ d v:=by
 unfold M3.atI at h
 unfold L2.atI
 rw[r.length]at h
 have e:M3.ixN vs.length i=L2.ixN vs.length i:=rfl
 rw[e]at h
 cases q:L2.ixN vs.length i with
 |none=>rw[q]at h;cases h
 |some j=>rw[q]at h;exact r.get h
def lR{Z:Nat->M3.Hh->Prop}{o:Option M3.D}{G:M3.Hh}{P:M3.D->M3.Hh->Prop}(h:M3.run (M3.lV o) G P Z):∃d,o=some d/\P d G:=by
 cases o with
 |none=>exact False.elim h
 |some d=>exact⟨d,rfl,h⟩
def Co(hu:X.A.units+1 < cLine):IxR X (fun x y H Q=>∃a v,x= .ref a/\pR H a y (some v)/\Q v H):=by
 intro value slice pins s σ H x y v u Q I rx ry h hs
 obtain⟨a,z,rfl,g,q⟩:=h
 cases (show v=Value.ref a from rx)
 exact tail_any (uA I g) PySem.F.slot_dict_getitem.lookup (xI hu I g ry fun w' s3 I3 rw'=>⟨z,H,I3,rw',q⟩) hs
def IZ(K:PySem.W.Frag):R2:=fun x y H Q=>Hc K x y H Q\/(fun x y H Q=>Gu K x y H Q\/∃a v,x= .ref a/\pR H a y (some v)/\Q v H) x y H Q
def Fd{K:PySem.W.Frag}:Br2 T K Y M3.oIx (IZ K):=by
 intro μ H G x y v w Q S dx dy h
 cases x with
 |tup xs=>
  cases y with
  |int i=>
   obtain⟨d,e,q⟩:=lR h
   obtain⟨p,vs,rfl,sq,r⟩:=dx
   obtain⟨z,e2,r2⟩:=vM r e
   exact .inr (.inl ⟨p,vs,i,z,rfl,dy,sq,e2,q z H μ (Up.refl _ _) S r2⟩)
  |_=>exact False.elim h
 |ref n=>
  unfold M3.run M3.oIx at h
  dsimp only at h
  obtain⟨p,ep,rfl⟩:=dx
  cases qn:G[n]? with
  |none=>rw[qn]at h;exact False.elim h
  |some o=>
   have ob:=S.obj n p o ep qn
   cases o with
   |lst xs=>
    cases y with
    |int i=>
     rw[qn]at h
     obtain⟨d,e,q⟩:=lR (P:=du T K μ H Q) h
     obtain⟨vs,e1,r⟩:=ob
     obtain⟨z,e2,r2⟩:=vM r e
     exact .inl ⟨p,vs,i,z,rfl,dy,SqL.of e1,e2,q z H μ (Up.refl _ _) S r2⟩
    |_=>rw[qn]at h;exact False.elim h
   |frz xs=>
    cases y with
    |int i=>
     rw[qn]at h
     obtain⟨d,e,q⟩:=lR (P:=du T K μ H Q) h
     obtain⟨vs,e1,r⟩:=ob
     obtain⟨z,e2,r2⟩:=vM r e
     exact .inl ⟨p,vs,i,z,rfl,dy,e1.sq,e2,q z H μ (Up.refl _ _) S r2⟩
    |_=>rw[qn]at h;exact False.elim h
   |dK kvs=>
    have h2:M3.run (fun G=>match M3.pO y with
     |some k=>M3.lV (M3.look kvs k) G
     |none=>none) G (du T K μ H Q) (Y.x μ H):=by
     rw[qn]at h
     cases y <;> exact h
    unfold M3.run at h2
    dsimp only at h2
    cases qk:M3.pO y with
    |none=>rw[qk]at h2;exact False.elim h2
    |some k=>
     rw[qk]at h2
     obtain⟨d,e,q⟩:=lR (P:=du T K μ H Q) h2
     obtain⟨ws,e1,r⟩:=ob
     cases sN qk dy
     rcases s8 k r with ⟨z,_⟩ |⟨d',z,l1,l2,r2⟩
     · rw[z]at e;cases e
     · rw[l1]at e;cases e
       exact .inr (.inr ⟨p,z,rfl,by rw[<-l2];exact pR.k e1,q z H μ (Up.refl _ _) S r2⟩)
   |dF kvs=>rw[qn]at h;cases y <;> exact False.elim h
   |dT kvs=>rw[qn]at h;cases y <;> exact False.elim h
   |ins C fs=>rw[qn]at h;cases y <;> exact False.elim h
 |_=>exact False.elim h
def IB(hu:X.A.units+1 < cLine)(ha:PE X a (tE T X.K Y fa))(hb:PE X b (tE T X.K Y fb))(hs:oy b:=by intro _ _;rfl):PE X (.Subscript a b pos) (tE T X.K Y (M3.eOp M3.oIx fa fb)):=
 PE.of (Dt (CU.or (EQ.or (Co hu))) ha hb hs) fun _ _ _ h=>zM Fd h
end
section
variable{X:Cx}{T:Tab}{Y:EX}{a b e o:Expr}{es:List Expr}{fa fb:M3.E3}{ta tb:M3.T3}{f3:M3.A3}{pos p:Pos}{rest:List Expr}{g:List M3.D->M3.M M3.D}
def BrA(T:Tab)(K:PySem.W.Frag)(Y:EX)(g:List M3.D->M3.M M3.D)(r:List V->Hp->VK->Prop):Prop:=
 ∀μ H G ds vs Q,Sim T K μ H G->ax K H μ ds vs->M3.run (g ds) G (du T K μ H Q) (Y.x μ H)->r vs H Q
def zG{K:PySem.W.Frag}{r:List V->Hp->VK->Prop}(br:BrA T K Y g r){σ:L2.St}{H:Hp}{Q:VK}(h:tE T K Y (M3.aF g f3) σ H Q):tCB r (tA T K Y f3) σ H Q:=by
 obtain⟨μ,σ3,G,S,sd,h⟩:=h
 exact⟨μ,σ3,G,S,sd,nA h fun ds G1 vs H1 μ1 u1 S1 d1 h1=>br μ1 H1 G1 ds vs Q S1 d1 (cD h1 fun _ _ q=>q.up u1)⟩
def wJ{x:Str}{id:String}{r:List V->Hp->VK->Prop}(hc:fS X (.builtin id) r)(br:BrA T X.K Y g r)(hm:X.mg x=none)(hv:bootBuiltins x=some (.builtin id))(ha:PA X (e :: es) (tA T X.K Y f3))(hg:Gl X x:=by rfl)(hn:x≠"__name__":=by decide)(hdb:(x==("__debug__":Str))=false:=by decide)
 (he:starEach (e :: es) X.env=(false,eval e X.env) :: starEach es X.env:=by rfl) (hpl:(backTo pos (starEach es X.env)).any (·.1)=false:=by rfl):PE X (.Call (.Name x p) (e :: es) [] pos) (tE T X.K Y (M3.aF g f3)):=
 PE.of (uk hc hg hm hv ha hn hdb he hpl) fun _ _ _ h=>zG br h
def ue{x:Str}{id:String}{r:List V->Hp->VK->Prop}(hc:fS X (.type id) r)(br:BrA T X.K Y g r)(hm:X.mg x=none)(hv:bootBuiltins x=some (.type id))(ha:PA X (e :: es) (tA T X.K Y f3))(hg:Gl X x:=by rfl)(hn:x≠"__name__":=by decide)(hdb:(x==("__debug__":Str))=false:=by decide)
 (he:starEach (e :: es) X.env=(false,eval e X.env) :: starEach es X.env:=by rfl) (hpl:(backTo pos (starEach es X.env)).any (·.1)=false:=by rfl):PE X (.Call (.Name x p) (e :: es) [] pos) (tE T X.K Y (M3.aF g f3)):=
 PE.of (xD hc hg hm hv ha hn hdb he hpl) fun _ _ _ h=>zG br h
def kX{K:PySem.W.Frag}{H:Hp}{μ:List Addr}{d:M3.D}{vs:List V}(h:ax K H μ [d] vs):∃v,vs=[v]/\Den K H μ d v:=by
 obtain⟨v,r,rfl,h,t⟩:=h
 cases (show r=[]from t)
 exact⟨v,rfl,h⟩
def GF{K:PySem.W.Frag}{H:Hp}{μ:List Addr}{d c:M3.D}{vs:List V}(h:ax K H μ [d,c] vs):∃v w,vs=[v,w]/\Den K H μ d v/\Den K H μ c w:=by
 obtain⟨v,r,rfl,h,t⟩:=h
 obtain⟨w,rfl,h2⟩:=kX t
 exact⟨v,w,rfl,h,h2⟩
def IE(K:PySem.W.Frag):List V->Hp->VK->Prop:=fun xs H Q=>(∃x n,xs=[x]/\HD K x H n/\Q (.int n) H)\/∃a kvs,xs=[V.ref a]/\H a=some (.dK kvs)/\Q (.int kvs.length) H
def DP{K:PySem.W.Frag}:BrA T K Y M3.dG (IE K):=by
 intro μ H G ds vs Q S d h
 unfold M3.run M3.dG at h
 match ds,d,h with
 | [.tup xs],d,h=>
   obtain⟨v,rfl,a,ws,rfl,sq,r⟩:=kX d
   dsimp only at h
   by_cases c:xs.length<=M3.aC
   · rw[if_pos c]at h
     refine .inl ⟨_,xs.length,rfl,.inr ⟨ws,sq,r.length⟩,h _ H μ (Up.refl _ _) S rfl⟩
   · rw[if_neg c]at h;exact False.elim h
 | [.str x],d,h=>
   obtain⟨v,rfl,d'⟩:=kX d
   cases (show v= .str x from d')
   dsimp only at h
   by_cases c:x.length<=M3.aC
   · rw[if_pos c]at h
     exact .inl ⟨_,x.length,rfl,⟨by rw[<-bX];exact c,rfl⟩,h _ H μ (Up.refl _ _) S rfl⟩
   · rw[if_neg c]at h;exact False.elim h
 | [.ref n],d,h=>
   obtain⟨v,rfl,a,ea,rfl⟩:=kX d
   dsimp only at h
   cases q:G[n]? with
   |none=>rw[q]at h;exact False.elim h
   |some o=>
    rw[q]at h
    have ob:=S.obj n a o ea q
    cases o with
    |lst xs=>obtain⟨ws,e1,r⟩:=ob;exact .inl ⟨_,xs.length,rfl,.inl ⟨ws,SqL.of e1,r.length⟩,h _ H μ (Up.refl _ _) S rfl⟩
    |frz xs=>obtain⟨ws,e1,r⟩:=ob;exact .inl ⟨_,xs.length,rfl,.inl ⟨ws,e1.sq,r.length⟩,h _ H μ (Up.refl _ _) S rfl⟩
    |dK kvs=>obtain⟨ws,e1,r⟩:=ob;exact .inr ⟨a,ws,rfl,e1,by rw[<-Paired.length r];exact h _ H μ (Up.refl _ _) S rfl⟩
    |dF kvs=>exact False.elim h
    |dT kvs=>exact False.elim h
    |ins C fs=>exact False.elim h
 | [],_,h=>exact False.elim h
 | [.non],_,h=>exact False.elim h
 | [.bl _],_,h=>exact False.elim h
 | [.int _],_,h=>exact False.elim h
 |x :: _ :: _,_,h=>cases x <;> exact False.elim h
def vb(hm:X.mg "len"=none)(ha:PA X (e :: es) (tA T X.K Y f3))(hg:Gl X "len":=by rfl)(he:starEach (e :: es) X.env=(false,eval e X.env) :: starEach es X.env:=by rfl)(hpl:(backTo pos (starEach es X.env)).any (·.1)=false:=by rfl):
 PE X (.Call (.Name "len" p) (e :: es) [] pos) (tE T X.K Y (M3.aF M3.dG f3)):=wJ (zB.or xY) DP hm boot_len ha hg (by decide) (by decide) he hpl
theorem tW:∀(r:List Int) (m:Int),M3.jr m r∈m :: r
 | [],m=>qI_
 |x :: r,m=>by
  have h:=tW r (if x > m then x else m)
  show M3.jr (if x > m then x else m) r∈m :: x :: r
  rcases qS_.mp h with h |h
  · rw[h];split
    · exact qR_ _ qI_
    · exact qI_
  · exact qR_ _ (qR_ _ h)
theorem rH:∀(r:List Int) (m a:Int),a∈m :: r->a<=M3.jr m r
 | [],m,a,h=>by simp at h;exact Int.le_of_eq h
 |x :: r,m,a,h=>by
  show a<=M3.jr (if x > m then x else m) r
  have h1:=rH r (if x > m then x else m) (if x > m then x else m) qI_
  rcases qS_.mp h with h |h
  · subst h;split at h1 <;> (try split) <;> omega
  · rcases qS_.mp h with h |h
    · subst h;split at h1 <;> (try split) <;> omega
    · exact rH r _ a (qR_ _ h)
def xH(hc:X.calm=true):fS X (.builtin "max") (fun xs H Q=>∃a m r,xs=[.ref a]/\SqL X.K H a ((m :: r).map V.int)/\Q (.int (M3.jr m r)) H):=by
 intro pins s σ H xs us Q I rv h
 obtain⟨a,m,r,rfl,sq,q⟩:=h
 obtain⟨u,rfl,ru⟩:=vals1 rv
 cases ru
 obtain⟨its,qv,pl,_⟩:=I.list sq
 have hi:IntsAre its (m :: r):=intsAre_of qv
 obtain⟨xs,e⟩:=hi.allInts.items
 have hns:m :: r=xs.toList.map (·.1):=by rw[<-hi.numsOf,<-nums_intItems,<-e]
 have hsz:0 < xs.size:=by
  have h3:=congrArg List.length hns
  rw[qM_,Array.length_toList]at h3
  simp at h3;omega
 have hl:=pl.isList
 rw[e]at hl
 refine max_intList (I.ok.hd hc) hl hsz fun v h' tk hv hk=>?_
 obtain⟨t,rfl⟩:=intItems_at hv
 obtain⟨h1,h2⟩:=argBest_gt (numAt xs) (xs.size - 1)
 have hmem:numAt xs (argBest (fun i j=>decide (numAt xs i > numAt xs j)) (xs.size - 1))∈m :: r:=by
  rw[hns,numAt_eq];exact getD_mem (by rw[qM_,Array.length_toList];omega)
 have hle:M3.jr m r<=numAt xs (argBest (fun i j=>decide (numAt xs i > numAt xs j)) (xs.size - 1)):=by
  have hM:=tW r m
  rw[hns]at hM
  obtain⟨j,hj,ej⟩:=mem_getD hM
  rw[qM_,Array.length_toList]at hj
  rw[<-ej,<-numAt_eq];exact h2 j (by omega)
 have heq:numAt xs (argBest (fun i j=>decide (numAt xs i > numAt xs j)) (xs.size - 1))=M3.jr m r:=Int.le_antisymm (rH r m _ hmem) hle
 exact⟨.int _,H,I.kept hk,⟨t,by rw[heq]⟩,q⟩
def IK(K:PySem.W.Frag):List V->Hp->VK->Prop:=fun xs H Q=>(∃i j,xs=[.int i,.int j]/\Q (.int (if j > i then j else i)) H)\/∃a m r,xs=[.ref a]/\SqL K H a ((m :: r).map V.int)/\Q (.int (M3.jr m r)) H
def EC{K:PySem.W.Frag}:BrA T K Y M3.yn (IK K):=by
 intro μ H G ds vs Q S d h
 unfold M3.run M3.yn at h
 match ds,d,h with
 | [.int i,.int j],d,h=>
   obtain⟨v,w,rfl,d1,d2⟩:=GF d
   cases d1;cases d2
   exact .inl ⟨_,_,rfl,h _ H μ (Up.refl _ _) S rfl⟩
 | [.ref n],d,h=>
   obtain⟨v,rfl,a,ea,rfl⟩:=kX d
   dsimp only at h
   cases q:G[n]? with
   |none=>rw[q]at h;exact False.elim h
   |some o=>
    rw[q]at h
    have ob:=S.obj n a o ea q
    cases o with
    |lst xs=>
     obtain⟨ws,e1,r⟩:=ob
     dsimp only at h
     cases qi:M3.intsOf xs with
     |none=>rw[qi]at h;exact False.elim h
     |some ns=>
      rw[qi]at h
      cases ns with
      |nil=>exact False.elim h
      |cons m t=>
       rw[cH qi]at r
       rw[ax.ints r]at e1
       exact .inr ⟨a,m,t,rfl,SqL.of e1,h _ H μ (Up.refl _ _) S rfl⟩
    |_=>exact False.elim h
 | [],_,h=>exact False.elim h
 | [.non],_,h=>exact False.elim h
 | [.bl _],_,h=>exact False.elim h
 | [.int _],_,h=>exact False.elim h
 | [.str _],_,h=>exact False.elim h
 | [.tup _],_,h=>exact False.elim h
 | .non :: _ :: _,_,h=>exact False.elim h
 | .bl _ :: _ :: _,_,h=>exact False.elim h
 | .str _ :: _ :: _,_,h=>exact False.elim h
 | .tup _ :: _ :: _,_,h=>exact False.elim h
 | .ref _ :: _ :: _,_,h=>exact False.elim h
 | .int _ :: .non :: _,_,h=>exact False.elim h
 | .int _ :: .bl _ :: _,_,h=>exact False.elim h
 | .int _ :: .str _ :: _,_,h=>exact False.elim h
 | .int _ :: .tup _ :: _,_,h=>exact False.elim h
 | .int _ :: .ref _ :: _,_,h=>exact False.elim h
 | .int _ :: .int _ :: _ :: _,_,h=>exact False.elim h
def yY(hc:X.calm=true)(hm:X.mg "max"=none)(ha:PA X (e :: es) (tA T X.K Y f3))(hg:Gl X "max":=by rfl)(he:starEach (e :: es) X.env=(false,eval e X.env) :: starEach es X.env:=by rfl)(hpl:(backTo pos (starEach es X.env)).any (·.1)=false:=by rfl):
 PE X (.Call (.Name "max" p) (e :: es) [] pos) (tE T X.K Y (M3.aF M3.yn f3)):=wJ ((yE hc).or (xH hc)) EC hm boot_max ha hg (by decide) (by decide) he hpl
def Bo{K:PySem.W.Frag}:BrA T K Y M3.qW (fun xs H Q=>∃p ys,xs=[.ref p]/\(SqL K H p ys\/SqT K H p ys)/\∀l,H l=none->Q (.ref l) (upd H l (.lst ys))):=by
 intro μ H G ds vs Q S d h
 have fin:∀{xs:List M3.D} {ws:List V},ax K H μ xs ws->du T K μ H Q (.ref G.length) (G++[.lst xs])->∀l,H l=none->Q (.ref l) (upd H l (.lst ws)):=by
  intro xs ws r q l hl
  have u2:=Up.new (μ:=μ) (.lst ws) hl
  refine q _ _ (μ++[l]) u2 (S.new hl rfl ⟨ws,aK,ax.up u2 r⟩) ⟨l,?_,rfl⟩
  rw[<-S.len];simp
 unfold M3.run M3.qW at h
 match ds,d,h with
 | [.tup xs],d,h=>
   obtain⟨v,rfl,a,ws,rfl,sq,r⟩:=kX d
   dsimp only at h
   by_cases c:xs.length<=M3.aC
   · rw[if_pos c]at h
     exact⟨a,ws,rfl,.inr sq,fin r h⟩
   · rw[if_neg c]at h;exact False.elim h
 | [.ref n],d,h=>
   obtain⟨v,rfl,a,ea,rfl⟩:=kX d
   dsimp only at h
   cases q:G[n]? with
   |none=>rw[q]at h;exact False.elim h
   |some o=>
    rw[q]at h
    have ob:=S.obj n a o ea q
    cases o with
    |lst xs=>obtain⟨ws,e1,r⟩:=ob;exact⟨a,ws,rfl,.inl (SqL.of e1),fin r h⟩
    |frz xs=>obtain⟨ws,e1,r⟩:=ob;exact⟨a,ws,rfl,.inl e1.sq,fin r h⟩
    |_=>exact False.elim h
 | [],_,h=>exact False.elim h
 | [.non],_,h=>exact False.elim h
 | [.bl _],_,h=>exact False.elim h
 | [.int _],_,h=>exact False.elim h
 | [.str _],_,h=>exact False.elim h
 |x :: _ :: _,_,h=>cases x <;> exact False.elim h
def xg(hm:X.mg "list"=none)(ha:PA X (e :: es) (tA T X.K Y f3))(hg:Gl X "list":=by rfl)(he:starEach (e :: es) X.env=(false,eval e X.env) :: starEach es X.env:=by rfl)(hpl:(backTo pos (starEach es X.env)).any (·.1)=false:=by rfl):
 PE X (.Call (.Name "list" p) (e :: es) [] pos) (tE T X.K Y (M3.aF M3.qW f3)):=ue sJ Bo hm boot_list ha hg (by decide) (by decide) he hpl
def yp:fS X (.type "int") (fun xs H Q=>∃x n,xs=[.str x]/\PySem.intText? x=some n/\x.length<=640/\Q (.int n) H):=by
 intro pins s σ H xs us Q I r h
 obtain⟨x,n,rfl,hn,hl,q⟩:=h
 obtain⟨u,rfl,t,rfl⟩:=vals1 r
 exact PySem.W.KIN.call_text hn hl ⟨.int n,H,I.tok _,⟨_,rfl⟩,q⟩
def Jc:List V->Hp->VK->Prop:=fun xs H Q=>((∃i,xs=[.int i]/\Q (.int i) H)\/∃k,xs=[.bl k]/\Q (.int (if k then 1 else 0)) H)\/∃x n,xs=[.str x]/\PySem.intText? x=some n/\x.length<=640/\Q (.int n) H
def Ft{K:PySem.W.Frag}:BrA T K Y M3.vE Jc:=by
 intro μ H G ds vs Q S d h
 unfold M3.run M3.vE at h
 match ds,d,h with
 | [.int i],d,h=>obtain⟨v,rfl,d'⟩:=kX d;cases d';exact .inl (.inl ⟨_,rfl,h _ H μ (Up.refl _ _) S rfl⟩)
 | [.bl i],d,h=>obtain⟨v,rfl,d'⟩:=kX d;cases d';exact .inl (.inr ⟨_,rfl,h _ H μ (Up.refl _ _) S rfl⟩)
 | [.str x],d,h=>
   obtain⟨v,rfl,d'⟩:=kX d
   cases (show v= .str x from d')
   dsimp only at h
   cases q:PySem.intText? x with
   |none=>rw[q]at h;exact False.elim h
   |some n=>
    rw[q]at h
    dsimp only at h
    by_cases c:x.length<=640
    · rw[if_pos c]at h
      exact .inr ⟨x,n,rfl,q,c,h _ H μ (Up.refl _ _) S rfl⟩
    · rw[if_neg c]at h;exact False.elim h
 | [],_,h=>exact False.elim h
 | [.non],_,h=>exact False.elim h
 | [.ref _],_,h=>exact False.elim h
 | [.tup _],_,h=>exact False.elim h
 |x :: _ :: _,_,h=>cases x <;> exact False.elim h
def AZ(hm:X.mg "int"=none)(ha:PA X (e :: es) (tA T X.K Y f3))(hg:Gl X "int":=by rfl)(he:starEach (e :: es) X.env=(false,eval e X.env) :: starEach es X.env:=by rfl)(hpl:(backTo pos (starEach es X.env)).any (·.1)=false:=by rfl):
 PE X (.Call (.Name "int" p) (e :: es) [] pos) (tE T X.K Y (M3.aF M3.vE f3)):=ue (yu.or yp) Ft hm boot_int ha hg (by decide) (by decide) he hpl
def kn:M3.Kd->String
 | .non=>"NoneType" | .bl=>"bool" | .int=>"int" | .str=>"str" | .tup=>"tuple" | .lst=>"list" | .dic=>"dict"
def TyD(K:PySem.W.Frag)(H:Hp):V->M3.Kd->Prop
 | .non,k=>k= .non
 | .bl _,k=>k= .bl
 | .int _,k=>k= .int
 | .str _,k=>k= .str
 | .ref a,k=>(k= .lst/\∃xs,SqL K H a xs)\/(k= .tup/\∃xs,SqT K H a xs)\/(k= .dic/\((∃kvs,H a=some (.dK kvs))\/∃kvs,H a=some (.dT kvs)))
 |_,_=>False
def jP(K:PySem.W.Frag)(k c:M3.Kd):PySem.W.kitOne K (.type (kn k)) (.type (kn c))=some (M3.CA k c):=by
 cases k <;> cases c <;> rfl
def BV:fS X (.builtin "isinstance") (fun xs H Q=>∃x k c,xs=[x,.ty (kn c)]/\TyD X.K H x k/\Q (.bl (M3.CA k c)) H):=by
 intro pins s σ H xs us Q I r h
 obtain⟨x,k,c,rfl,ty,q⟩:=h
 obtain⟨u,w',rfl,ru,rc⟩:=vals2 r
 cases (show w'=Value.type (kn c)from rc)
 have fin:∀tk,EP X pins σ Q (.bool (M3.CA k c)) {s with toks:=tk}:=fun tk=>⟨.bl _,H,I.tok tk,rfl,q⟩
 cases x with
 |non=>cases (show u=Value.none from ru);cases (show k= .non from ty);exact PySem.W.kia_one PySem.W.kitx_none I.kIn True.intro (jP X.K .non c) (fun z=>nomatch z) fin
 |bl y=>cases (show u=Value.bool y from ru);cases (show k= .bl from ty);exact PySem.W.kia_one PySem.W.kitx_bool I.kIn True.intro (jP X.K .bl c) (fun z=>nomatch z) fin
 |int y=>obtain⟨t,rfl⟩:=(show ∃t,u=Value.int y t from ru);cases (show k= .int from ty);exact PySem.W.kia_one PySem.W.kitx_int I.kIn True.intro (jP X.K .int c) (fun z=>nomatch z) fin
 |str y=>obtain⟨t,rfl⟩:=(show ∃t,u=Value.str y t from ru);cases (show k= .str from ty);exact PySem.W.kia_one PySem.W.kitx_str I.kIn True.intro (jP X.K .str c) (fun z=>nomatch z) fin
 |ref a=>
  cases (show u=Value.ref a from ru)
  rcases ty with ⟨rfl,xs,sq⟩ |⟨rfl,xs,sq⟩ |⟨rfl,⟨kvs,ea⟩ |⟨kvs,ea⟩⟩
  · obtain⟨its,_,⟨ob,n,h1,h2,_⟩,_⟩:=I.list sq
    exact PySem.W.kia_one PySem.W.kitx_list I.kIn ⟨ob,h1,h2⟩ (jP X.K .lst c) (fun z=>nomatch z) fin
  · obtain⟨its,_,⟨ob,h1,h2,_⟩,_⟩:=I.tuple sq
    exact PySem.W.kia_one PySem.W.kitx_tuple I.kIn ⟨ob,h1,h2⟩ (jP X.K .tup c) (fun z=>nomatch z) fin
  · obtain⟨_,_,vs,_,pd⟩:=(show bR X.prog X.w H s.heap a (.dK kvs)from I.hok a _ ea)
    obtain⟨ob,es,ep,h1,h2,_⟩:=pd
    exact PySem.W.kia_one PySem.W.kitx_dict I.kIn ⟨ob,h1,h2.1⟩ (jP X.K .dic c) (fun z=>nomatch z) fin
  · obtain⟨_,_,xs,_,ob,es,ep,h1,h2,_⟩:=(show bR X.prog X.w H s.heap a (.dT kvs)from I.hok a _ ea)
    exact PySem.W.kia_one PySem.W.kitx_dict I.kIn ⟨ob,h1,h2.1⟩ (jP X.K .dic c) (fun z=>nomatch z) fin
 |_=>exact False.elim ty
def GD{K:PySem.W.Frag}{μ:List Addr}{H:Hp}{G:M3.Hh}(S:Sim T K μ H G){d:M3.D}{v:V}{k:M3.Kd}(r:Den K H μ d v)(h:M3.kdOf G d=some k):TyD K H v k:=by
 cases d with
 |non=>cases (show v= .non from r);cases h;rfl
 |bl _=>cases r;cases h;rfl
 |int _=>cases r;cases h;rfl
 |str _=>cases r;cases h;rfl
 |tup ds=>obtain⟨a,vs,rfl,sq,_⟩:=r;cases h;exact .inr (.inl ⟨rfl,vs,sq⟩)
 |ref n=>
  obtain⟨a,ea,rfl⟩:=r
  unfold M3.kdOf at h
  dsimp only at h
  cases q:G[n]? with
  |none=>rw[q]at h;cases h
  |some ob=>
   rw[q]at h
   have od:=S.obj n a ob ea q
   cases ob with
   |lst xs=>cases h;obtain⟨vs,e1,_⟩:=od;exact .inl ⟨rfl,vs,SqL.of e1⟩
   |frz xs=>cases h;obtain⟨vs,e1,_⟩:=od;exact .inl ⟨rfl,vs,e1.sq⟩
   |dK kvs=>cases h;obtain⟨vs,e1,_⟩:=od;exact .inr (.inr ⟨rfl,.inl ⟨vs,e1⟩⟩)
   |dF kvs=>cases h
   |dT kvs=>cases h
   |ins C fs=>cases h
def HU(c:M3.Kd){n:Str}{p2:Pos}(hi:X.mg "isinstance"=none)(hm:X.mg n=none)(ha:PE X e (tE T X.K Y fa))(hn:bootBuiltins n=some (.type (kn c)):=by first |exact boot_int |exact boot_bool |exact boot_str |exact boot_tuple |exact boot_list |exact boot_dict)
 (hg:Gl X "isinstance":=by rfl) (hg2:Gl X n:=by rfl) (hn2:n≠"__name__":=by decide) (hdb:(n==("__debug__":Str))=false:=by decide)
 (he:starEach [e,.Name n p2] X.env=(false,eval e X.env) :: starEach [.Name n p2] X.env:=by rfl) (he2:starEach [.Name n p2] X.env=(false,eval (.Name n p2) X.env) :: starEach [] X.env:=by rfl)
 (hpl:(backTo pos (starEach [.Name n p2] X.env)).any (·.1)=false:=by rfl):PE X (.Call (.Name "isinstance" p) [e,.Name n p2] [] pos) (tE T X.K Y (M3.aF (M3.bIs c) (M3.ae fa M3.ao))):=by
 refine PE.of (uk BV hg hi boot_isinstance (gY ha (gY (Cu hg2 hm hn (v:= .ty (kn c)) rfl hn2 hdb) lx he2) he) (by decide) (by decide) he hpl) fun σ H Q ⟨μ,σ3,G,S,sd,h⟩=>?_
 refine⟨μ,σ3,G,S,sd,bq (M3.aR h) fun d G1 v H1 μ1 u1 S1 d1 h1=>?_⟩
 have h2:M3.run (M3.bIs c [d]) G1 (du T X.K μ H Q) (Y.x μ H):=h1
 unfold M3.run M3.bIs at h2
 dsimp only at h2
 cases q:M3.kdOf G1 d with
 |none=>rw[q]at h2;exact False.elim h2
 |some k=>
  rw[q]at h2
  exact⟨v,k,c,rfl,GD S1 d1 q,h2 _ H1 μ1 u1 S1 rfl⟩
def vD{Z:Nat->M3.Hh->Prop}{x:M3.D}{G:M3.Hh}{P:Unit->M3.Hh->Prop}(h:M3.run (M3.isL x) G P Z):∃n xs,x= .ref n/\G[n]? =some (.lst xs)/\P () G:=by
 unfold M3.run M3.isL at h
 cases x with
 |ref n=>
  dsimp only at h
  cases q:G[n]? with
  |none=>rw[q]at h;exact False.elim h
  |some o=>
   rw[q]at h
   cases o with
   |lst xs=>exact⟨n,xs,rfl,q,h⟩
   |_=>exact False.elim h
 |_=>exact False.elim h
def xM{Z:Nat->M3.Hh->Prop}{n:Nat}{y:M3.D}{G:M3.Hh}{P:M3.D->M3.Hh->Prop}(h:M3.run (M3.iL (.ref n) y) G P Z):∃xs,G[n]? =some (.lst xs)/\xs.length < M3.aC/\P .non (G.set n (.lst (xs++[y]))):=by
 unfold M3.run M3.iL at h
 dsimp only at h
 cases q:G[n]? with
 |none=>rw[q]at h;exact False.elim h
 |some o=>
  rw[q]at h
  cases o with
  |lst xs=>
   dsimp only at h
   by_cases c:xs.length < M3.aC
   · rw[if_pos c]at h;exact⟨xs,rfl,c,h⟩
   · rw[if_neg c]at h;exact False.elim h
  |_=>exact False.elim h
def tM{apos:Pos}(ho:PE X o (tE T X.K Y fa))(he:PE X e (tE T X.K Y fb))
 (hbase:attributeBase o "append" X.env (eval o X.env)=eval o X.env:=by rfl)
 (hfew:((backTo pos (starEach (e :: []) X.env)).all (fun x=>!x.1)&&(backToKw pos (keywordEach [] X.env)).all (fun x=>x.1.isSome)
   &&decide ((e :: ([]:List Expr)).length+([]:List Keyword).length+(if ([]:List Keyword).isEmpty then 0 else 1) < 30))=true:=by rfl)
 (hline:(apos.endLine==pos.line)=true:=by rfl) (hs:starEach (e :: []) X.env=(false,eval e X.env) :: starEach [] X.env:=by rfl) (hplain:(backTo pos (starEach [] X.env)).any (·.1)=false:=by rfl):
 PE X (.Call (.Attribute o "append" apos) [e] [] pos) (tE T X.K Y (M3.xW fa fb)):=by
 refine PE.of (z9 PySem.F.plainAttrs_list PySem.F.slot_list_append PySem.F.type_list_append qO ho (gY he lx hs) hbase hfew hline hs hplain) fun σ H Q ⟨μ,σ3,G,S,sd,h⟩=>⟨μ,σ3,G,S,sd,bq h fun d G1 v H1 μ1 u1 S1 d1 h1=>?_⟩
 obtain⟨n,xs,rfl,q,h1⟩:=vD (M3.aR h1)
 obtain⟨a,ea,rfl⟩:=id d1
 obtain⟨vs,e1,r1⟩:=S1.obj n a _ ea q
 refine⟨.inl ⟨rfl,vs,SqL.of e1⟩,μ1,σ3,G1,S1,sd.up u1,bq h1 fun y G2 w H2 μ2 u2 S2 d2 h2=>?_⟩
 obtain⟨xs2,q2,hl,h3⟩:=xM h2
 have ea2:=u2.at ea
 obtain⟨vs2,e2,r2⟩:=S2.obj n a _ ea2 q2
 have up:=Up.set S2 (.lst (vs2++[w])) ea2 q2 rfl
 refine⟨a,vs2,w,rfl,rfl,e2,by rw[<-r2.length,<-bX];exact hl,?_⟩
 exact h3 _ _ μ2 ((u1.trans u2).trans up) (S2.set ea2 q2 rfl rfl ⟨_,aK,ax.up up (r2.append (ax.one d2))⟩) rfl
structure vW (T:Tab) (K:PySem.W.Frag) (μ:List Addr) (H:Hp) (src:M3.Src) (J:It):Prop where
 go:∀(i:Nat) d μ' H' G',Up μ μ' H H'->Sim T K μ' H' G'->src.ck G'=true->src.xs[i]? =some d->J.go i H'
 yld:∀(i:Nat) d v μ' H' H'' G',Up μ μ' H H'->Sim T K μ' H' G'->src.ck G'=true->src.xs[i]? =some d->J.yld i H' v H''->gi H' H''/\Den K H'' μ' d v
 stop:∀μ' H' G',Up μ μ' H H'->Sim T K μ' H' G'->src.ck G'=true->J.stop src.xs.length H'
def Hn(T:Tab)(K:PySem.W.Frag)(μ:List Addr)(H:Hp)(R:It->Hp->Prop)(src:M3.Src)(G':M3.Hh):Prop:=∀J H' μ',Up μ μ' H H'->Sim T K μ' H' G'->vW T K μ' H' src J->R J H'
def tI(T:Tab)(K:PySem.W.Frag)(Y:EX)(f:M3.I3):TI:=fun σ H R=>∃μ σ3 G,Sim T K μ H G/\StD K H μ σ3 σ/\M3.run (f σ3) G (Hn T K μ H R) (Y.x μ H)
def PI.of{tg it:Expr}{t u:TI}(h:PI X tg it t)(f:∀σ H R,u σ H R->t σ H R):PI X tg it u:=fun pins s σ H R I q=>h pins s σ H R I (f σ H R q)
def IA(K:PySem.W.Frag)(tl:TE):TI:=fun σ H R=>tl σ H fun x H1=>∃a,x= .ref a/\(((∃xs,SqL K H1 a xs)/\R (Itl K a) H1)\/((∃xs,SqT K H1 a xs)/\R (Itt K a) H1))
def DV{tg l:Expr}{tl:TE}(hl:PE X l tl):PI X tg l (IA X.K tl):=by
 intro pins s σ H R I h
 refine thn (hl pins s σ H _ I h) fun v s1 ⟨x,H1,I1,r1,q1⟩=>?_
 obtain⟨a,e,q⟩:=q1
 subst e
 cases r1
 rcases q with ⟨⟨xs,hq⟩,q⟩ |⟨⟨xs,hq⟩,q⟩
 · obtain⟨its,rv,pl,hz⟩:=I1.list hq
   refine wpAny_pyIter_list pl.isList ?_
   refine⟨s1.heap.objs.size,[s1.heap.objs.size],_,_,H1,rfl,I1.kept (t':=s1.toks) fun b o e=>Heap.get?_push_of_some _ e,xt a _,⟨_,Heap.get?_push_size _ rfl,rfl,rfl⟩,fun b hb=>?_,q⟩
   have e:b=s1.heap.objs.size:=by simpa using hb
   subst e
   exact I1.yN (qO_ _) (I1.hok.fresh (qO_ _))
 · obtain⟨its,rv,pl,hz⟩:=I1.tuple hq
   refine wpAny_pyIter_tuple (show s1.heap.IsTuple a its.toArray from pl) ?_
   refine⟨s1.heap.objs.size,[s1.heap.objs.size],_,_,H1,rfl,I1.kept (t':=s1.toks) fun b o e=>Heap.get?_push_of_some _ e,v8 a _,⟨_,Heap.get?_push_size _ rfl,rfl,rfl⟩,fun b hb=>?_,q⟩
   have e:b=s1.heap.objs.size:=by simpa using hb
   subst e
   exact I1.yN (qO_ _) (I1.hok.fresh (qO_ _))
def src_list{K:PySem.W.Frag}{μ:List Addr}{H:Hp}{n:Nat}{a:Addr}{xs:List M3.D}{o:M3.O}{ck:M3.Hh->Bool}(ea:μ[n]? =some a)(hck:∀G',ck G'=true->G'[n]? =some o)(ho:o= .lst xs\/o= .frz xs):vW T K μ H ⟨xs,ck⟩ (Itl K a):=by
 have key:∀{μ' H' G'},Up μ μ' H H'->Sim T K μ' H' G'->ck G'=true->∃vs,SqL K H' a vs/\ax K H' μ' xs vs:=by
  intro μ' H' G' u S c
  have ob:=S.obj n a o (u.at ea) (hck G' c)
  rcases ho with rfl |rfl
  · obtain⟨vs,e1,r⟩:=ob;exact⟨vs,SqL.of e1,r⟩
  · obtain⟨vs,e1,r⟩:=ob;exact⟨vs,e1.sq,r⟩
 refine⟨fun i d μ' H' G' u S c e=>?_,fun i d v μ' H' H'' G' u S c e y=>?_,fun μ' H' G' u S c=>?_⟩
 · obtain⟨vs,sq,r⟩:=key u S c
   obtain⟨v,e1,_⟩:=r.get e
   exact⟨vs,v,sq,e1⟩
 · obtain⟨vs,sq,r⟩:=key u S c
   obtain⟨w,e1,dw⟩:=r.get e
   have:=y.2 vs sq
   rw[e1]at this
   cases this
   obtain⟨rfl,_⟩:=y;exact⟨fun _ _ z=>z,dw⟩
 · obtain⟨vs,sq,r⟩:=key u S c
   exact⟨vs,sq,Nat.le_of_eq r.length.symm⟩
def rT{tg:Expr}{f:M3.E3}(h:PE X e (tE T X.K Y f)):PI X tg e (tI T X.K Y (M3.iOf f)):=by
 refine PI.of (DV h) fun σ H R ⟨μ,σ3,G,S,sd,h⟩=>⟨μ,σ3,G,S,sd,bq h fun d G1 v H1 μ1 u1 S1 d1 h1=>?_⟩
 cases d with
 |tup ds=>
  obtain⟨a,vs,rfl,sq,r⟩:=d1
  refine⟨a,rfl,.inr ⟨⟨vs,sq⟩,h1 _ H1 μ1 u1 S1 ⟨fun i d μ' H' G' u S c e=>?_,fun i d v μ' H' H'' G' u S c e y=>?_,fun μ' H' G' u S c=>?_⟩⟩⟩
  · obtain⟨v,e1,_⟩:=r.get e
    exact⟨vs,v,SqT.keeps u.keeps sq,e1⟩
  · obtain⟨w,e1,dw⟩:=r.get e
    have:=y.2 vs (SqT.keeps u.keeps sq)
    rw[e1]at this
    cases this
    obtain⟨rfl,_⟩:=y;exact⟨fun _ _ z=>z,Den.up u dw⟩
  · exact⟨vs,SqT.keeps u.keeps sq,Nat.le_of_eq r.length.symm⟩
 |ref n=>
  obtain⟨a,ea,rfl⟩:=d1
  unfold M3.run M3.srcOf at h1
  dsimp only at h1
  cases q:G1[n]? with
  |none=>rw[q]at h1;exact False.elim h1
  |some o=>
   have ob:=S1.obj n a o ea q
   cases o with
   |lst xs=>
    rw[q]at h1
    obtain⟨vs,e1,r⟩:=ob
    exact⟨a,rfl,.inl ⟨⟨vs,SqL.of e1⟩,h1 _ H1 μ1 u1 S1 (src_list ea (fun G' c=>of_decide_eq_true c) (.inl rfl))⟩⟩
   |frz xs=>
    rw[q]at h1
    obtain⟨vs,e1,r⟩:=ob
    exact⟨a,rfl,.inl ⟨⟨vs,e1.sq⟩,h1 _ H1 μ1 u1 S1 (src_list ea (fun G' c=>of_decide_eq_true c) (.inr rfl))⟩⟩
   |_=>rw[q]at h1;exact False.elim h1
 |_=>exact False.elim h1
def IC{K:PySem.W.Frag}{μ:List Addr}{H:Hp}(i:Int)(n:Nat):vW T K μ H ⟨M3.rng i n,fun _=>true⟩ (Itr i n):=by
 refine⟨fun j d μ' H' G' u S c e=>(M3.mD e).2,fun j d v μ' H' H'' G' u S c e y=>?_,fun μ' H' G' u S c=>Nat.le_of_eq M3.oh.symm⟩
 obtain⟨rfl,_⟩:=M3.mD e
 obtain⟨rfl,y⟩:=y;exact⟨fun _ _ z=>z,y⟩
def uD{i:Int}(h:M3.rA i=true):-(2 ^ 62)<=i/\i < 2 ^ 62:=of_decide_eq_true h
def mS{tg:Expr}(hm:X.mg "range"=none)(ha:PE X a (tE T X.K Y fa))(hg:Gl X "range":=by rfl)(hs:starEach [a] X.env=[(false,eval a X.env)]:=by rfl):PI X tg (.Call (.Name "range" p) [a] [] pos) (tI T X.K Y (M3.gK fa)):=by
 refine PI.of (ya hg hm (gY ha lx hs) hs) fun σ H R ⟨μ,σ3,G,S,sd,h⟩=>⟨μ,σ3,G,S,sd,bq h fun d G1 v H1 μ1 u1 S1 d1 h1=>?_⟩
 cases d with
 |int j=>
  cases (show v= .int j from d1)
  obtain⟨c,h1⟩:=ju (c:=M3.rA j=true) h1
  exact⟨j,rfl,(uD c).1,(uD c).2,h1 _ H1 μ1 u1 S1 (IC 0 j.toNat)⟩
 |_=>exact False.elim h1
def tX{Z:Nat->M3.Hh->Prop}{ck:M3.Hh->Bool}{body:M3.D->M3.St->M3.M (M3.Fl×M3.St)}{σ:M3.St}{G:M3.Hh}{P:M3.Fl×M3.St->M3.Hh->Prop}(h:M3.run (M3.forL ck body [] σ) G P Z):ck G=true/\P (.next,σ) G:=by
 unfold M3.run M3.forL at h
 by_cases c:ck G=true
 · rw[if_pos c]at h;exact⟨c,h⟩
 · rw[if_neg c]at h;exact False.elim h
def Dv(ck:M3.Hh->Bool)(body:M3.D->M3.St->M3.M (M3.Fl×M3.St))(r:List M3.D)(p:M3.Fl×M3.St):M3.M (M3.Fl×M3.St):=match p.1 with
 | .next=>M3.forL ck body r p.2
 | .cont=>M3.forL ck body r p.2
 | .brk=>M3.ret (.next,p.2)
 | .ret d=>M3.ret (.ret d,p.2)
def qN{Z:Nat->M3.Hh->Prop}{ck:M3.Hh->Bool}{body:M3.D->M3.St->M3.M (M3.Fl×M3.St)}{x:M3.D}{r:List M3.D}{σ:M3.St}{G:M3.Hh}{P:M3.Fl×M3.St->M3.Hh->Prop}(h:M3.run (M3.forL ck body (x :: r) σ) G P Z):
 ck G=true/\M3.run (M3.bnd (body x σ) (Dv ck body r)) G P Z:=by
 have e:M3.forL ck body (x :: r) σ G=if ck G then M3.bnd (body x σ) (Dv ck body r) G else none:=by
  conv=>lhs;unfold M3.forL
  rfl
 unfold M3.run at h
 rw[e]at h
 by_cases c:ck G=true
 · rw[if_pos c]at h;exact⟨c,h⟩
 · rw[if_neg c]at h;exact False.elim h
def Ac{tg iter:Expr}{body:List Stmt}{it:M3.I3}{g:M3.D->M3.St->M3.M M3.St}{f:M3.S3}(hp:PassesOwn (model X.prog X.w) X.A X.env X.xe)(hc:X.calm=true)(hi:PI X tg iter (tI T X.K Y it))(hg:PG X tg (tG T X.K Y g))(hb:PSs X body (tS T X.K Y f))
 (hs:∀x,foldedSetIterable iter X.env x=pure x:=by intro _;rfl):PS X (.For tg iter body [] pos) (tS T X.K Y (M3.jF it g f)):=by
 refine PS.of (zL hp hc hi hg hb hs) fun D σ H ⟨μ,σ3,G,S,sd,h⟩=>⟨μ,σ3,G,S,sd,cD (M3.aR h) fun src G1 q J H1 μ1 u1 S1 sr=>?_⟩
 have q:M3.run (M3.forL src.ck (fun x σ=>M3.bnd (g x σ) f) src.xs σ3) G1 (eG T X.K μ H D) (Y.x μ1 H1):=Y.upE u1 q
 refine⟨fun i m σ' H'=>m=src.xs.length - i/\i<=src.xs.length/\∃μ' σ3' G',Up μ1 μ' H1 H'/\Sim T X.K μ' H' G'/\StD X.K H' μ' σ3' σ'/\M3.run (M3.forL src.ck (fun x σ=>M3.bnd (g x σ) f) (src.xs.drop i) σ3') G' (eG T X.K μ H D) (Y.x μ' H'),
  ⟨_,rfl,qf_ _,μ1,σ3,G1,Up.refl _ _,S1,sd.up u1,q⟩,?_⟩
 rintro i m σ' H' ⟨rfl,hi,μ',σ3',G',u',S',sd',q'⟩
 by_cases hlt:i < src.xs.length
 · rw[List.drop_eq_getElem_cons hlt]at q'
   obtain⟨c,q2⟩:=qN q'
   have ex:src.xs[i]? =some src.xs[i]:=qA_ hlt
   refine .inr ⟨sr.go i _ μ' H' G' u' S' c ex,fun σ2 H2=>∃μ2 σ4 G2,Up μ1 μ2 H1 H2/\Sim T X.K μ2 H2 G2/\StD X.K H2 μ2 σ4 σ2/\M3.run (M3.forL src.ck (fun x σ=>M3.bnd (g x σ) f) (src.xs.drop (i+1)) σ4) G2 (eG T X.K μ H D) (Y.x μ2 H2),
    fun σ2 H2 hN=>⟨_,by omega,rfl,hlt,hN⟩,fun x H'' y=>?_⟩
   obtain⟨sm,dx⟩:=sr.yld i _ x μ' H' H'' G' u' S' c ex y
   have us:Up μ' μ' H' H'':=Up.same sm
   refine⟨μ',σ3',G',_,S'.same sm,sd'.up us,dx,cD (Y.upE us (M3.aR (M3.aR q2))) fun σ5 G5 q5 σ6 H6 μ6 u6 S6 sd6=>?_⟩
   have u6:=us.trans u6
   refine⟨μ6,σ5,G5,S6,sd6,cD (Y.upE u6 q5) fun p G7 q7 σ7 H7 μ7 u7 S7 sd7=>?_⟩
   obtain⟨fl,σ8⟩:=p
   have up:=(u1.trans u').trans (u6.trans u7)
   cases fl with
   |next=>exact⟨μ7,σ8,G7,u'.trans (u6.trans u7),S7,sd7,Y.upE (u6.trans u7) q7⟩
   |cont=>exact⟨μ7,σ8,G7,u'.trans (u6.trans u7),S7,sd7,Y.upE (u6.trans u7) q7⟩
   |brk=>exact q7 σ7 H7 μ7 up S7 sd7
   |ret d=>exact q7 σ7 H7 μ7 up S7 sd7
 · have e:i=src.xs.length:=by omega
   subst e
   rw[List.drop_length]at q'
   obtain⟨c,q2⟩:=tX q'
   exact .inl ⟨sr.stop μ' H' G' u' S' c,q2 σ' H' μ' (u1.trans u') S' sd'⟩
def EX.of(T:Tab)(K:PySem.W.Frag)(E:XK):EX:=⟨fun μ H c G=>∀Ca dx H' μ',T.cls c=some Ca->Up μ μ' H H'->Sim T K μ' H' G->E (.ref Ca) dx H',fun u h Ca dx H' μ' e u' S=>h Ca dx H' μ' e (u.trans u') S⟩
def sp3(T:Tab)(K:PySem.W.Frag)(n:Nat)(f:List M3.D->M3.M M3.D):Sp:=fun vs H Q E=>vs.length=n/\∃μ ds G,Sim T K μ H G/\ax K H μ ds vs/\M3.run (f ds) G (du T K μ H Q) ((EX.of T K E).x μ H)
structure Fn3 (P:Program) (w:World) (K:PySem.W.Frag) (mg:Str->Option Value) (base:Heap) (CX:CXT) (T:Tab) (k:Nat) (x:Str) (n:Nat) (f:List M3.D->M3.M M3.D):Prop where
 ex:∃fa fd ps,aT P w K mg base CX k fa fd ps (sp3 T K n f)/\mg x=some (.ref fa)/\PySem.W.keepIn K (.ref fa)=true/\Binds K fd ps []
 len:∀ds G (Q:M3.D->M3.Hh->Prop) (Z:Nat->M3.Hh->Prop),M3.run (f ds) G Q Z->ds.length=n
def x_call{CX:CXT}{E:XK}{x:Str}{k n:Nat}{f:List M3.D->M3.M M3.D}(F:Fn3 X.prog X.w X.K X.mg X.base CX T k x n f)(hr:dq k X.A)(hx:eQ CX X E)(ha:PA X (e :: es) (tA T X.K (EX.of T X.K E) f3))(hg:Gl X x:=by rfl)(hdb:(x==("__debug__":Str))=false:=by decide)
 (he:starEach (e :: es) X.env=(false,eval e X.env) :: starEach es X.env:=by rfl) (hpl:(backTo pos (starEach es X.env)).any (·.1)=false:=by rfl):PE X (.Call (.Name x p) (e :: es) [] pos) (tE T X.K (EX.of T X.K E) (M3.aF f f3)):=by
 obtain⟨fa,fd,ps,G,hm,hk,hb⟩:=F.ex
 refine PE.of (BI G hr hg hm hk hb .nil hx ha hdb he hpl) fun σ H Q ⟨μ,σ3,G,S,sd,h⟩=>⟨μ,σ3,G,S,sd,nA h fun ds G1 vs H1 μ1 u1 S1 d1 h1=>?_⟩
 show sp3 T X.K n f (vs++[]) H1 Q E
 rw[qY_]
 exact⟨by rw[<-d1.length];exact F.len _ _ _ _ h1,μ1,ds,G1,S1,d1,cD h1 fun _ _ z=>z.up u1⟩
def sL{Z:Nat->M3.Hh->Prop}{n:Nat}{pad:M3.St}{body:M3.S3}{ds:List M3.D}{G:M3.Hh}{Q:M3.D->M3.Hh->Prop}(h:M3.run (M3.fnM n pad body ds) G Q Z):ds.length=n:=by
 unfold M3.fnM at h
 exact(ju h).1
def StD.start{K:PySem.W.Frag}{H:Hp}{μ:List Addr}:∀{ds:List M3.D} {vs:List V} (k:Nat),ax K H μ ds vs->StD K H μ (ds.map some++List.replicate k none) (vs.map some++List.replicate k none):=by
 intro ds vs k r
 refine⟨by simp [r.length],fun i d e=>?_⟩
 by_cases h:i < ds.length
 · rw[qK_ (by simpa using h),qQ_]at e
   cases q:ds[i]? with
   |none=>rw[q]at e;cases e
   |some d'=>
    rw[q]at e
    cases e
    obtain⟨v,e1,r1⟩:=r.get q
    refine⟨v,?_,r1⟩
    rw[qK_ (by simpa using (qB_.mp e1).1),qQ_,e1];rfl
 · rw[qL_ (by simpa using h),List.getElem?_replicate]at e
   split at e <;> cases e
def md{X:Cx}{E:XK}:eQ CX0 X E:=fun _ _ _ _ _ _ _ h=>h.elim
def bo{P:Program}{w:World}{K:PySem.W.Frag}{mg:Str->Option Value}{base:Heap}{x qual:Str}{st:Stmt}{fa:Addr}{fd:FuncData}{N ps:List Str}{k n:Nat}{pad:M3.St}{body:M3.S3}(F:Fun K x qual st fa fd)(S:av N ps (ai st))
 (hn:ps.length=n) (hpad:pad=List.replicate (N.length - n) none)
 (h:∀(cdv:Value) (A:Around) (outer:List Env) (s:Shared) (H:Hp) (E:XK),dq k (A.deeper (envOfC qual (ai st) s.heap.objs.size fa cdv))->PSs (k9 CX0 P w K mg base N qual (ai st) fa cdv A outer s H E).nox (gO st) (tS T K (EX.of T K E) body)):
 aT P w K mg base CX0 (k+1) fa fd ps (sp3 T K n (M3.fnM n pad body)):=by
 refine F.ok S (fun vs H Q E q=>by rw[hn];exact q.1) (fun cdv A outer s H vs Q E hr q=>⟨_,h cdv A outer s H E hr,?_⟩)
 obtain⟨hl,μ,ds,G,Sm,d,q⟩:=q
 unfold M3.fnM at q
 obtain⟨c,q⟩:=ju q
 have e1:L2.start N vs=vs.map some++List.replicate (N.length - n) none:=by unfold L2.start;rw[hl]
 rw[e1]
 refine⟨μ,_,G,Sm,by rw[hpad];exact StD.start _ d,cD (M3.aR q) fun r G1 q1 σ' H' μ' u S' sd'=>?_⟩
 obtain⟨fl,σ2⟩:=r
 cases fl with
 |next=>exact q1 .non H' μ' u S' rfl
 |brk=>exact False.elim q1
 |cont=>exact False.elim q1
 |ret d=>exact fun v dv=>q1 v H' μ' u S' dv
end
structure Blk (X:Cx) (x:Str) (caps:List (Str×Nat)) (scope:Scope) (cl:List (Str×Addr)):Prop where
 kind:scope.kind= .function
 Eu:∀y∈scope.names,y.2≠.cell
 loc:∀y∈scope.names,y.2= .local->scope.names.lookup y.1=some .local
 own:scope.names.lookup x=some .local
 B4:closureFor scope X.env=pure cl
 nd:(x :: caps.map (·.1)).Nodup
 sub:∀y c,cl.lookup y=some c->X.env.cells.lookup y=some c
 has:∀y,((relabel scope X.env).names.lookup y=some .cell\/(relabel scope X.env).names.lookup y=some .free)->∃c,cl.lookup y=some c
 nox:cl.lookup x=none
 cap:∀(j:Nat) y i,caps[j]? =some (y,i)->X.N[i]? =some y/\(X.env.kindOf y=some .cell\/X.env.kindOf y=some .free)/\((relabel scope X.env).names.lookup y=some .cell\/(relabel scope X.env).names.lookup y=some .free)
def blk(X:Cx)(x:Str)(caps:List (Str×Nat))(scope:Scope)(cl:List (Str×Addr))(s₃:Shared)(H₃:Hp)(C:Addr)(fp:List Addr)(E':Value->Shared->Prop):Cx:=
 {X with N:=x :: caps.map (·.1),s₀:=s₃,H₀:=H₃,env:=compEnvC scope cl C X.env,outer:=X.stack,stack:=X.stack,ex:=fp,fn:=fun y=>decide (y=x),xe:=E'}
def σ0(σ:L2.St)(caps:List (Str×Nat)):L2.St:=none :: caps.map fun p=>(σ[p.2]?).join
section
variable{X:Cx}{x:Str}{caps:List (Str×Nat)}{scope:Scope}{cl:List (Str×Addr)}{pins:List (Addr×Obj)}{σ:L2.St}{H:Hp}{s₃:Shared}{fp:List Addr}{E':Value->Shared->Prop}
def F0(B:Blk X x caps scope cl)(I:L2.Inv X pins σ H s₃)(hf:∀b∈fp,m3 X pins H b)(hfl:∀b∈fp,b < s₃.heap.objs.size):(blk X x caps scope cl s₃ H s₃.heap.objs.size fp E').Ok where
 mod:=I.mod
 kind:=B.kind
 glob:=I.ok.glob
 blt:=I.ok.blt
 above:=qO_ _
 inj:=fun y z c h1 h2=>I.ok.inj y z c (B.sub y c h1) (B.sub z c h2)
 has:=fun y hy=>B.has y hy
 cab:=fun y c hy h=>by
  have e:y=x:=of_decide_eq_true hy
  subst e
  rw[show (blk X y caps scope cl s₃ H s₃.heap.objs.size fp E').env.cells.lookup y=cl.lookup y from rfl,B.nox]at h
  cases h
 hd:=I.ok.hd
 frames:=I.ok.frames
 stk:= .inl rfl
 exf:=fun b hb=>⟨Nat.ne_of_lt (hfl b hb),fun y c e=>(hf b hb).2.2.2.2.1 y c (B.sub y c e)⟩
 bs:=I.bs
 bsz:=Nat.le_trans I.ok.bsz I.sz
 vA:=fun b o e hb=>by
  rcases (hf b hb).2.2.2.1 with z |z
  · exact I.ok.vA b o e z
  · exact absurd (qd_ (Heap.lt_size e) (Nat.le_trans I.ok.bsz z)) (qe_ _)
 xP:=fun b hb z=>by
  rcases qS_.mp (I.jw b z)with e |e
  · exact(hf b hb).2.1 e
  · exact(hf b hb).2.2.1 e
 mf:=I.stack
 frf:=I.oz
def BJ(B:Blk X x caps scope cl)(I:L2.Inv X pins σ H s₃)(hf:∀b∈fp,m3 X pins H b)(hfl:∀b∈fp,b < s₃.heap.objs.size){h₁:Heap}{tk:Nat}{m:Str->Option Value}(hns:h₁.Ns s₃.heap.objs.size m)(hk:∀b o,s₃.heap.get? b=some o->h₁.get? b=some o):
 L2.Inv (blk X x caps scope cl s₃ H s₃.heap.objs.size fp E') pins (σ0 σ caps) H {s₃ with heap:=h₁,toks:=tk}:=by
 refine⟨F0 B I hf hfl,rfl,I.bare,Un.kept hk,⟨m,hns,fun i y v e1 e2 e3=>?_⟩,fun y c e=>?_,I.hok.fresh (qO_ _),fun y c e=>I.fR y c (B.sub y c e),fun p hp=>?_,I.hok.kept hk,by simp [σ0,blk]⟩
 · cases i with
   |zero=>simp [σ0]at e2
   |succ j=>
    have e2:(caps.map fun p=>(σ[p.2]?).join)[j]? =some (some v):=by simpa [σ0] using e2
    have e1:(caps.map (·.1))[j]? =some y:=by simpa [blk] using e1
    rw[qQ_]at e1 e2
    cases q:caps[j]? with
    |none=>rw[q]at e1;cases e1
    |some p=>
     obtain⟨y',i⟩:=p
     rw[q]at e1 e2
     cases e1
     have e2:(σ[i]?).join=some v:=Option.some.inj e2
     have e3:σ[i]? =some (some v):=by
      cases z:σ[i]? with
      |none=>rw[z]at e2;cases e2
      |some w=>rw[z]at e2;exact congrArg some e2
     obtain⟨h1,h2,h3⟩:=B.cap j y' i q
     obtain⟨m',_,hl⟩:=I.loc
     obtain⟨u,ru,l⟩:=hl i y' v h1 e3 (h2.elim (fun z=>.inr (.inl z)) fun z=>.inr (.inr z))
     refine⟨u,ru,.inr ⟨h3,?_⟩⟩
     rcases l with ⟨k,_⟩ |⟨_,c,ec,⟨ob,ho,hd⟩⟩
     · rcases h2 with z |z
       · rw[z]at k;cases k
       · rw[z]at k;cases k
     · obtain⟨c',ec'⟩:=B.has y' h3
       have:=B.sub y' c' ec'
       rw[ec]at this
       cases this
       exact⟨c,ec',ob,hk _ _ ho,hd⟩
 · obtain⟨v,ob,ho,hd⟩:=I.cell y c (B.sub y c e)
   exact⟨v,ob,hk _ _ ho,hd⟩
 · obtain⟨e,n,ne,nf,d⟩:=I.pin p hp
   refine⟨hk _ _ e,n,Nat.ne_of_lt (Heap.lt_size e),fun z=>?_,d⟩
   rcases qS_.mp (I.jw p.1 z)with q |q
   · exact ne q
   · exact nf q
end
theorem Sim.lt{X:Cx}{T:Tab}{pins:List (Addr×Obj)}{σ:L2.St}{H:Hp}{s:Shared}{μ:List Addr}{G:M3.Hh}(I:L2.Inv X pins σ H s)(S:Sim T X.K μ H G):∀a∈μ,a < s.heap.objs.size:=by
 intro a ha
 obtain⟨n,hn,e⟩:=List.getElem_of_mem ha
 have e1:μ[n]? =some a:=by rw[<-e];exact qA_ hn
 have hg:n < G.length:=by rw[<-S.len];exact hn
 have ob:=S.obj n a _ e1 (qA_ hg)
 generalize G[n]=o at ob
 cases q:isF o with
 |false=>
  obtain⟨u,hu⟩:=ob.live q
  exact I.hok.lt hu
 |true=>
  cases o with
  |frz xs=>
   obtain⟨vs,sq,_⟩:=ob
   obtain⟨its,_,⟨ob',n',e',_⟩,_⟩:=I.list sq.sq
   exact Heap.lt_size e'
  |_=>cases q
def PTs(X:Cx)(ifs:List Expr)(t:TT):Prop:=
 ∀(pins:List (Addr×Obj)) (s:Shared) (σ:L2.St) (H:Hp) (Q:Bool->Hp->Prop),L2.Inv X pins σ H s->t σ H Q->
  wpAny (model X.prog X.w) X.A (forIn ifs true fun c r=>if r=true then do let ok <-isTrue c X.env (eval c X.env);pure (ForInStep.yield ok)else pure (ForInStep.yield r)) (TP X pins σ Q) X.xe s
def fT{X:Cx}{T:Tab}{Y:EX}:PTs X [] (tT T X.K Y M3.kU):=fun pins s σ H Q I ⟨μ,σ3,G,S,sd,h⟩=>wpAny_tests_nil ⟨H,I,h H μ (Up.refl _ _) S⟩
def w5{X:Cx}{T:Tab}{Y:EX}{c:Expr}{f:M3.T3}(h:PT X c (tT T X.K Y f)):PTs X [c] (tT T X.K Y f):=fun pins s σ H Q I q=>wpAny_tests_one (h pins s σ H Q I q)
def yA{Z:Nat->M3.Hh->Prop}{ck:M3.Hh->Bool}{cond:M3.D->M3.M Bool}{elt:M3.D->M3.M M3.D}{acc:List M3.D}{G:M3.Hh}{P:List M3.D->M3.Hh->Prop}(h:M3.run (M3.b6 ck cond elt [] acc) G P Z):ck G=true/\P acc G:=by
 unfold M3.run M3.b6 at h
 by_cases c:ck G=true
 · rw[if_pos c]at h;exact⟨c,h⟩
 · rw[if_neg c]at h;exact False.elim h
def yP(ck:M3.Hh->Bool)(cond:M3.D->M3.M Bool)(elt:M3.D->M3.M M3.D)(x:M3.D)(r acc:List M3.D)(c:Bool):M3.M (List M3.D):=
 if c then M3.bnd (elt x) (fun y=>if acc.length < M3.aC then M3.b6 ck cond elt r (acc++[y])else M3.fail)else M3.b6 ck cond elt r acc
def u5{Z:Nat->M3.Hh->Prop}{ck:M3.Hh->Bool}{cond:M3.D->M3.M Bool}{elt:M3.D->M3.M M3.D}{x:M3.D}{r acc:List M3.D}{G:M3.Hh}{P:List M3.D->M3.Hh->Prop}(h:M3.run (M3.b6 ck cond elt (x :: r) acc) G P Z):
 ck G=true/\M3.run (M3.bnd (cond x) (yP ck cond elt x r acc)) G P Z:=by
 have e:M3.b6 ck cond elt (x :: r) acc G=if ck G then M3.bnd (cond x) (yP ck cond elt x r acc) G else none:=by
  conv=>lhs;unfold M3.b6
  rfl
 unfold M3.run at h
 rw[e]at h
 by_cases c:ck G=true
 · rw[if_pos c]at h;exact⟨c,h⟩
 · rw[if_neg c]at h;exact False.elim h
theorem StD.dR{K:PySem.W.Frag}{H:Hp}{μ:List Addr}{σ3:M3.St}{σ:L2.St}(sd:StD K H μ σ3 σ)(caps:List (Str×Nat))(o:Option V):StD K H μ (none :: M3.dR σ3 (caps.map (·.2))) (o :: caps.map fun p=>(σ[p.2]?).join):=by
 refine⟨by simp [M3.dR],fun i d e=>?_⟩
 cases i with
 |zero=>simp at e
 |succ j=>
  have e:(M3.dR σ3 (caps.map (·.2)))[j]? =some (some d):=by simpa using e
  unfold M3.dR at e
  rw[qQ_,qQ_]at e
  cases q:caps[j]? with
  |none=>rw[q]at e;cases e
  |some p=>
   rw[q]at e
   have e:(σ3[p.2]?).join=some d:=Option.some.inj e
   have e3:σ3[p.2]? =some (some d):=by
    cases z:σ3[p.2]? with
    |none=>rw[z]at e;cases e
    |some w=>rw[z]at e;exact congrArg some e
   obtain⟨v,h1,h2⟩:=sd.at_ _ _ e3
   refine⟨v,?_,h2⟩
   show (caps.map fun p=>(σ[p.2]?).join)[j]? =some (some v)
   rw[qQ_,q]
   show some (σ[p.2]?).join=some (some v)
   rw[h1];rfl
section
variable{X:Cx}{T:Tab}{Y:EX}{elt iter:Expr}{x:Str}{px:Pos}{ifs:List Expr}{scope:Scope}{cl:List (Str×Addr)}{caps:List (Str×Nat)}{pos:Pos}{fe:M3.E3}{ft:M3.T3}
def Up.off{μ μ1:List Addr}{H H1:Hp}{p:Addr}{ws ws':List V}(u:Up μ μ1 H H1)(hp:H p=none)(hw:H1 p=some (.lst ws)):Up μ μ1 H (upd H1 p (.lst ws')):=by
 refine⟨u.pre,⟨fun b xs e=>?_,fun b o v e=>?_⟩,fun b o e n=>?_⟩
 · rw[aI (cp e hp)];exact u.keeps.tup b xs e
 · rw[aI (cp e hp)];exact u.keeps.frz b o v e
 · rw[aI (cp e hp)];exact u.rest b o e n
def Sim.off{T:Tab}{K:PySem.W.Frag}{μ:List Addr}{H:Hp}{G:M3.Hh}{p:Addr}{ws ws':List V}(S:Sim T K μ H G)(hp:p∉μ)(hw:H p=some (.lst ws)):Sim T K μ (upd H p (.lst ws')) G:=by
 have k:Keeps H (upd H p (.lst ws')):=Keeps.write hw (fun _ z=>nomatch z) (fun _ _ z=>nomatch z)
 refine⟨S.len,fun n a o e1 e2=>(S.obj n a o e1 e2).mono (List.prefix_refl _) k fun y e=>?_,S.inj⟩
 rw[aI (by rintro rfl;exact hp (qD_ e1))]
 exact e
def Em{α:Type}{K:PySem.W.Frag}{μ:List Addr}{H:Hp}{m:M3.M M3.D}{k:M3.D->M3.M α}{G:M3.Hh}{P:α->M3.Hh->Prop}{R:VK}{Z:Nat->M3.Hh->Prop}(h:M3.run (M3.bnd m k) G P Z)(hz:∀c G,Z c G->Y.x μ H c G)
 (f:∀d G1 v H1 μ1,Up μ μ1 H H1->Sim T K μ1 H1 G1->Den K H1 μ1 d v->M3.run (k d) G1 P Z->R v H1):M3.run m G (du T K μ H R) (Y.x μ H):=
 M3.aq (M3.aR h) (fun d G1 q v H1 μ1 u S r=>f d G1 v H1 μ1 u S r q) hz
def Ee{α:Type}{K:PySem.W.Frag}{μ:List Addr}{H:Hp}{m:M3.M Bool}{k:Bool->M3.M α}{G:M3.Hh}{P:α->M3.Hh->Prop}{R:Bool->Hp->Prop}{Z:Nat->M3.Hh->Prop}(h:M3.run (M3.bnd m k) G P Z)(hz:∀c G,Z c G->Y.x μ H c G)
 (f:∀b G1 H1 μ1,Up μ μ1 H H1->Sim T K μ1 H1 G1->M3.run (k b) G1 P Z->R b H1):M3.run m G (nQ T K μ H R) (Y.x μ H):=
 M3.aq (M3.aR h) (fun d G1 q H1 μ1 u S=>f d G1 H1 μ1 u S q) hz
structure IW (X:Cx) (T:Tab) (pins:List (Addr×Obj)) (σ:L2.St) (μ:List Addr) (H:Hp) (P:List M3.D->M3.Hh->Prop) (sz:Nat) (p C:Addr) (s':Shared):Prop where
 ex:∃ys ws H' μ' G',L2.Inv X pins σ H' s'/\Up μ μ' H H'/\Sim T X.K μ' H' G'/\H' p=some (.lst ws)/\p∉μ'/\ax X.K H' μ' ys ws/\P ys G'/\H' C=none/\H p=none
 ns:∃m,s'.heap.Ns C m
 ge:sz<=C
def qU(B:Blk X x caps scope cl)(hc:X.calm=true)(he:∀s₃ H₃ C fp E',PE (blk X x caps scope cl s₃ H₃ C fp E') elt (tE T X.K Y fe))(ht:∀s₃ H₃ C fp E',PTs (blk X x caps scope cl s₃ H₃ C fp E') ifs (tT T X.K Y ft))
 {pins:List (Addr×Obj)} {σ:L2.St} {H:Hp} {s₂:Shared} {it:Addr} {fp:List Addr} {tn:Nat->Heap->Prop} {J:It} {μ:List Addr} {σ3:M3.St} {G:M3.Hh} {src:M3.Src} {E:Value->Shared->Prop}
 (I:L2.Inv X pins σ H s₂) (Tn:Turn X.prog X.w X.K (.Name x px) J fp it tn) (st:tn 0 s₂.heap) (hf:∀b∈fp,m3 X pins H b) (S:Sim T X.K μ H G) (sd:StD X.K H μ σ3 σ) (sr:vW T X.K μ H src J)
 {P:List M3.D->M3.Hh->Prop} (h:M3.run (M3.b6 src.ck (fun z=>ft (some z :: M3.dR σ3 (caps.map (·.2)))) (fun z=>fe (some z :: M3.dR σ3 (caps.map (·.2)))) src.xs []) G P (Y.x μ H))
 {RR:Value->Addr->Result->Shared->Prop} (fin:∀p C s',IW X T pins σ μ H P s₂.heap.objs.size p C s'->RR (.ref p) C (.ok .next) s'):
 wpAny (model X.prog X.w) X.A (newList []) (fun acc s₃=>wpAny (model X.prog X.w) X.A (newFunctionEnv scope X.env.globals cl [] X.env.qual none .none (some X.env)) (fun cenv s₄=>
  codeAny (model X.prog X.w) X.A (.compStart (.ListComp elt [⟨.Name x px,iter,ifs,0⟩] scope pos) 0 (.ref it) acc {cenv with scope:=relabel scope X.env}) (RR acc cenv.locals) s₄) E s₃) E s₂:=by
 refine wpAny_newObj_type (wpAny_newFunctionEnv B.Eu (by intro y hy;simp at hy) (fun h₁ hns₁ hsb₁=>?_) B.kind)
 have hp0:H s₂.heap.objs.size=none:=I.hok.fresh (qO_ _)
 have I3:L2.Inv X pins σ (upd H s₂.heap.objs.size (.lst [])) {s₂ with heap:=s₂.heap.push {cls:= .type "list",data:= .seq ([]:List Value).toArray},toks:=s₂.toks}:=
  I.laid (t':=s₂.toks) (fun b u e=>Heap.get?_push_of_some _ e) (qO_ _) ⟨qf_ _,[],0,.nil,Heap.get?_push_size _ rfl⟩
 have hpμ:s₂.heap.objs.size∉μ:=fun z=>qe_ _ (S.lt I _ z)
 have S3:=S.same (gi.new (.lst []) hp0)
 have up0:Up μ μ H (upd H s₂.heap.objs.size (.lst [])):=Up.same (gi.new _ hp0)
 have hfl:∀b∈fp,b < s₂.heap.objs.size:=fun b hb=>by
  obtain⟨o,e,_⟩:=Tn.obj 0 _ st b hb
  exact Heap.lt_size e
 have hf3:∀b∈fp,m3 X pins (upd H s₂.heap.objs.size (.lst [])) b:=fun b hb=>⟨by rw[aI (Nat.ne_of_lt (hfl b hb))];exact(hf b hb).1,(hf b hb).2⟩
 generalize hpp:s₂.heap.objs.size=p at*
 generalize hH3:upd H p (.lst [])=H₃ at*
 have hpH:H₃ p=some (.lst []):=by rw[<-hH3];exact aK
 generalize hs3:({s₂ with heap:=s₂.heap.push {cls:= .type "list",data:= .seq ([]:List Value).toArray},toks:=s₂.toks}:Shared)=s₃ at*
 have hsz3:s₃.heap.objs.size=p+1:=by rw[<-hs3];show (s₂.heap.push _).objs.size=p+1;rw[Heap.size_push,hpp]
 have hfl3:∀b∈fp,b < s₃.heap.objs.size:=fun b hb=>by rw[hsz3];exact Nat.lt_succ_of_lt (hfl b hb)
 have e3:s₂.heap.push {cls:= .type "list",data:= .seq ([]:List Value).toArray}=s₃.heap:=by rw[<-hs3]
 have keep1:∀b o,s₃.heap.get? b=some o->h₁.get? b=some o:=fun b o e=>(hsb₁.2 b (Nat.ne_of_lt (Heap.lt_size e))).trans (Heap.get?_push_of_some _ e)
 generalize hC:s₃.heap.objs.size=C at*
 have I4:∀E',L2.Inv (blk X x caps scope cl s₃ H₃ C fp E') pins (σ0 σ caps) H₃ {s₃ with heap:=h₁,toks:=s₃.toks+([]:List (Str×Value)).length}:=fun E'=>by
  subst hC
  exact BJ B I3 hf3 hfl3 hns₁ keep1
 have hch:∀b∈fp,(b∈X.ex\/X.s₀.heap.objs.size<=b)/\b≠X.env.locals/\(∀x c,X.env.cells.lookup x=some c->c≠b)/\∀q∈X.pn++pins,q.1≠b:=fun b hb=>⟨(hf b hb).2.2.2.1,(hf b hb).2.1,(hf b hb).2.2.2.2.1,(hf b hb).2.2.2.2.2⟩
 have tn1:tn 0 h₁:=Tn.keep 0 _ _ st fun b hb o e=>keep1 b o (by rw[<-e3];exact Heap.get?_push_of_some _ e)
 have loop:∀s₄:Shared,s₄={s₃ with heap:=h₁,toks:=s₃.toks+([]:List (Str×Value)).length}->
  codeAny (model X.prog X.w) X.A (.compLoop (.ListComp elt [⟨.Name x px,iter,ifs,0⟩] scope pos) 0 (.ref it) (.ref p) (compEnvC scope cl C X.env)) (RR (.ref p) C) s₄:=by
  rintro s₄ rfl
  generalize hE:notedBy (model X.prog X.w) X.A (compEnvC scope cl C X.env) (fun e s'=>RR (.ref p) C (.error e) s')=E'
  refine codeAny_compLoop_tests (fun k s'=>∃(i:Nat),∃ys ws o H' μ' G',L2.Inv (blk X x caps scope cl s₃ H₃ C fp E') pins (o :: caps.map fun q=>(σ[q.2]?).join) H' s'/\tn i s'.heap/\(∀b∈fp,H' b=none)/\i<=src.xs.length/\k=src.xs.length+1 - i/\
   Up μ μ' H H'/\Sim T X.K μ' H' G'/\H' p=some (.lst ws)/\p∉μ'/\ax X.K H' μ' ys ws/\M3.run (M3.b6 src.ck (fun z=>ft (some z :: M3.dR σ3 (caps.map (·.2)))) (fun z=>fe (some z :: M3.dR σ3 (caps.map (·.2)))) (src.xs.drop i) ys) G' P (Y.x μ H)) ?_ (src.xs.length+1)
   ⟨0,[],[],none,H₃,μ,G,I4 E',tn1,fun b hb=>(hf3 b hb).1,qf_ _,rfl,up0,S3,hpH,hpμ,rfl,h⟩
  rintro k s' ⟨i,ys,ws,o,H',μ',G',I',tn',fr',hi,rfl,up',S',hpw,hpm,dws,q'⟩
  rw[hE]
  have fpok:∀{H'':Hp},(∀b∈fp,H'' b=none)->∀b∈fp,m3 (blk X x caps scope cl s₃ H₃ C fp E') pins H'' b:=fun {H''} hn b hb=>by
   refine⟨hn b hb,?_,fun z=>?_,.inl hb,fun y c e=>(hf b hb).2.2.2.2.1 y c (B.sub y c e),(hf b hb).2.2.2.2.2⟩
   · exact Nat.ne_of_lt (hfl3 b hb)
   · rcases qS_.mp (I3.jw b z)with e |e
     · exact(hf b hb).2.1 e
     · exact(hf b hb).2.2.1 e
  by_cases hlt:i < src.xs.length
  · rw[List.drop_eq_getElem_cons hlt]at q'
    obtain⟨c,q2⟩:=u5 q'
    have ex:src.xs[i]? =some src.xs[i]:=qA_ hlt
    generalize src.xs[i]=d at ex q2
    refine wpAny_mono (Tn.item (blk X x caps scope cl s₃ H₃ C fp E') rfl rfl rfl hc i pins s' _ H' E' I' (fpok fr') tn' (sr.go i d μ' H' G' up' S' c ex)) (fun r s1 ⟨u,hr,h1⟩=>?_) fun _ _ z=>z
    subst hr
    have go:wpAny (model X.prog X.w) X.A (letOwnedTupleGo (.Name x px) (.ref it) u >>= fun _=>assign (.Name x px) (compEnvC scope cl C X.env) u) (fun _ s₂=>
     wpAny (model X.prog X.w) X.A (forIn ifs true fun c r=>if r=true then do let ok <-isTrue c (compEnvC scope cl C X.env) (eval c (compEnvC scope cl C X.env));pure (ForInStep.yield ok)else pure (ForInStep.yield r)) (fun ok s₃'=>
      if ok=true then wpAny (model X.prog X.w) X.A (eval elt (compEnvC scope cl C X.env)) (fun y s₄=>
       wpAny (model X.prog X.w) X.A (call (.builtin "list.append") [.ref p,y]) (fun _ s₅=>∃m,m < src.xs.length+1 - i/\∃(i:Nat),∃ys ws o H' μ' G',L2.Inv (blk X x caps scope cl s₃ H₃ C fp E') pins (o :: caps.map fun q=>(σ[q.2]?).join) H' s₅/\tn i s₅.heap/\(∀b∈fp,H' b=none)/\i<=src.xs.length/\m=src.xs.length+1 - i/\
    Up μ μ' H H'/\Sim T X.K μ' H' G'/\H' p=some (.lst ws)/\p∉μ'/\ax X.K H' μ' ys ws/\M3.run (M3.b6 src.ck (fun z=>ft (some z :: M3.dR σ3 (caps.map (·.2)))) (fun z=>fe (some z :: M3.dR σ3 (caps.map (·.2)))) (src.xs.drop i) ys) G' P (Y.x μ H)) E' s₄) E' s₃'
     else ∃m,m < src.xs.length+1 - i/\∃(i:Nat),∃ys ws o H' μ' G',L2.Inv (blk X x caps scope cl s₃ H₃ C fp E') pins (o :: caps.map fun q=>(σ[q.2]?).join) H' s₃'/\tn i s₃'.heap/\(∀b∈fp,H' b=none)/\i<=src.xs.length/\m=src.xs.length+1 - i/\
    Up μ μ' H H'/\Sim T X.K μ' H' G'/\H' p=some (.lst ws)/\p∉μ'/\ax X.K H' μ' ys ws/\M3.run (M3.b6 src.ck (fun z=>ft (some z :: M3.dR σ3 (caps.map (·.2)))) (fun z=>fe (some z :: M3.dR σ3 (caps.map (·.2)))) (src.xs.drop i) ys) G' P (Y.x μ H)) E' s₂) E' s1:=by
     refine wpAny_bind (thn h1 fun _ s2 ⟨xv,H'',I5,r5,y5,tn5,fr5⟩=>?_)
     obtain⟨sm,dx⟩:=sr.yld i d xv μ' H' H'' G' up' S' c ex y5
     have us:Up μ' μ' H' H'':=Up.same sm
     have up':=up'.trans us
     have S':=S'.same sm
     have hpw:=sm _ _ hpw
     have dws:=ax.up us dws
     have I5':=I5.pinned (fpok fr5) (Tn.obj _ _ tn5)
     have back:∀{σ7:L2.St} {H7:Hp} {s7:Shared},L2.Inv (blk X x caps scope cl s₃ H₃ C fp E') (pins++pq fp s2.heap) σ7 H7 s7->tn (i+1) s7.heap/\∀b∈fp,H7 b=none:=fun {σ7 H7 s7} I7=>by
      refine⟨Tn.keep _ _ _ tn5 fun b hb ob eb=>(I7.pin (b,ob) (qE_ _ (qE_ _ (iK hb eb)))).1,fun b hb=>?_⟩
      obtain⟨ob,eb,_⟩:=Tn.obj _ _ tn5 b hb
      exact(I7.pin (b,ob) (qE_ _ (qE_ _ (iK hb eb)))).2.1
     refine thn (r9 (X:=blk X x caps scope cl s₃ H₃ C fp E') (i:=0) (pos:=px) B.nd rfl (.inl (lookup_relabel_local B.own)) (.inl (qZ_ rfl)) _ s2 _ _ xv u (fun σ2 H2=>σ2=some xv :: caps.map (fun q=>(σ[q.2]?).join)/\H2=H'') I5' r5 ⟨rfl,rfl⟩) fun _ s3 ⟨σ6,H6,I6,e6,e7⟩=>?_
     subst e6 e7
     have sd6:StD X.K H6 μ' (some d :: M3.dR σ3 (caps.map (·.2))) (some xv :: caps.map fun q=>(σ[q.2]?).join):=((sd.up up').dR caps (some xv)).set 0 dx
     refine thn (ht s₃ H₃ C fp E' _ s3 _ H6 (fun b H8=>∃μ8 G8,Up μ' μ8 H6 H8/\Sim T X.K μ8 H8 G8/\M3.run (yP src.ck (fun z=>ft (some z :: M3.dR σ3 (caps.map (·.2)))) (fun z=>fe (some z :: M3.dR σ3 (caps.map (·.2)))) d (src.xs.drop (i+1)) ys b) G8 P (Y.x μ H)) I6
      ⟨μ',_,G',S',sd6,Ee (Y:=Y) q2 (fun _ _ z=>Y.up up' z) fun b G8 H8 μ8 u8 S8 h8=>⟨μ8,G8,u8,S8,h8⟩⟩) fun b s4 ⟨H8,I8,μ8,G8,u8,S8,h8⟩=>?_
     obtain⟨hpw8,hpm8⟩:=u8.rest p _ hpw hpm
     cases b with
     |false=>
      obtain⟨tn8,fr8⟩:=back I8
      exact⟨_,by omega,i+1,ys,ws,some xv,H8,μ8,G8,I8.jY,tn8,fr8,hlt,rfl,up'.trans u8,S8,hpw8,hpm8,ax.up u8 dws,h8⟩
     |true=>
      refine thn (he s₃ H₃ C fp E' _ s4 _ H8 (fun v H9=>∃y μ9 G9,Up μ8 μ9 H8 H9/\Sim T X.K μ9 H9 G9/\Den X.K H9 μ9 y v/\M3.run (if ys.length < M3.aC then M3.b6 src.ck (fun z=>ft (some z :: M3.dR σ3 (caps.map (·.2)))) (fun z=>fe (some z :: M3.dR σ3 (caps.map (·.2)))) (src.xs.drop (i+1)) (ys++[y])else M3.fail) G9 P (Y.x μ H)) I8
       ⟨μ8,_,G8,S8,sd6.up u8,Em (Y:=Y) h8 (fun _ _ z=>Y.up (up'.trans u8) z) fun y G9 v H9 μ9 u9 S9 d9 h9=>⟨y,μ9,G9,u9,S9,d9,h9⟩⟩) fun yv s5 ⟨v,H9,I9,rv,y,μ9,G9,u9,S9,d9,h9⟩=>?_
      obtain⟨hpw9,hpm9⟩:=u9.rest p _ hpw8 hpm8
      obtain⟨hl,h9⟩:=ju h9
      have dws9:=ax.up (u8.trans u9) dws
      refine thn (qO (X:=blk X x caps scope cl s₃ H₃ C fp E') _ s5 _ H9 (.ref p) [v] (.ref p) [yv] (fun _ H10=>H10=upd H9 p (.lst (ws++[v]))) I9 rfl (.cons rv .nil) ⟨p,ws,v,rfl,rfl,hpw9,by rw[<-dws9.length,<-bX];exact hl,rfl⟩) fun _ s6 ⟨_,H10,I10,_,e10⟩=>?_
      subst e10
      obtain⟨tn10,fr10⟩:=back I10
      have k10:Keeps H9 (upd H9 p (.lst (ws++[v]))):=Keeps.write hpw9 (fun _ z=>nomatch z) (fun _ _ z=>nomatch z)
      exact⟨_,by omega,i+1,ys++[y],ws++[v],some xv,_,μ9,G9,I10.jY,tn10,fr10,hlt,rfl,((up'.trans u8).trans u9).off hp0 hpw9,S9.off hpm9 hpw9,aK,hpm9,ax.mono (List.prefix_refl _) k10 (dws9.append (ax.one d9)),h9⟩
    exact go
  · have e:i=src.xs.length:=by omega
    subst e
    rw[List.drop_length]at q'
    obtain⟨c,q2⟩:=yA q'
    refine wpAny_mono (Tn.done (blk X x caps scope cl s₃ H₃ C fp E') rfl rfl rfl hc _ pins s' _ H' E' I' (fpok fr') tn' (sr.stop μ' H' G' up' S' c)) (fun r s1 ⟨hr,I5⟩=>?_) fun _ _ z=>z
    subst hr
    have I6:L2.Inv X pins σ H' s1:=I3.zy (ch:=fp) I5.os I5.base I5.hok I5.bare hch
    obtain⟨m,hm,_⟩:=I5.loc
    exact fin p C s1 ⟨⟨ys,ws,H',μ',G',I6,up',S',hpw,hpm,dws,q2,I5.free,hp0⟩,⟨m,hm⟩,by rw[hsz3];exact Nat.le_succ _⟩
 exact codeAny_compStart_list (loop _ rfl) (Tn.self _ 0 _ _ _ tn1 (loop _ rfl))
end
def Sim.adopt{T:Tab}{K:PySem.W.Frag}{μ:List Addr}{H:Hp}{G:M3.Hh}{p:Addr}{ws:List V}{ys:List M3.D}(S:Sim T K μ H G)(hp:p∉μ)(hw:H p=some (.lst ws))(d:ax K H μ ys ws):Sim T K (μ++[p]) H (G++[.lst ys]):=by
 have pre:μ <+: μ++[p]:=⟨[p],rfl⟩
 have old:∀(n:Nat) a o',(μ++[p])[n]? =some a->(G++[.lst ys])[n]? =some o'->(μ[n]? =some a/\G[n]? =some o')\/(n=G.length/\a=p/\o'= .lst ys):=by
  intro n a o' e1 e2
  by_cases h:n < G.length
  · rw[qK_ (by rw[S.len];exact h)]at e1
    rw[qK_ h]at e2
    exact .inl ⟨e1,e2⟩
  · have hn:n=G.length:=by
     have:=(qB_.mp e2).1
     rw[qN_]at this
     simp at this
     omega
    subst hn
    rw[<-S.len]at e1
    simp at e1 e2
    exact .inr ⟨rfl,e1.symm,e2.symm⟩
 refine⟨by simp [S.len],fun n a o' e1 e2=>?_,fun n m a o1 o2 hnm e1 e2 e3 e4=>?_⟩
 · rcases old n a o' e1 e2 with ⟨h1,h2⟩ |⟨_,rfl,rfl⟩
   · exact(S.obj n a o' h1 h2).mono pre (Keeps.refl _) fun _ z=>z
   · exact⟨ws,hw,ax.mono pre (Keeps.refl _) d⟩
 · rcases old n a o1 e1 e3 with ⟨h1,h2⟩ |⟨rfl,rfl,rfl⟩
   · rcases old m a o2 e2 e4 with ⟨h3,h4⟩ |⟨rfl,rfl,rfl⟩
     · exact S.inj n m a o1 o2 hnm h1 h3 h2 h4
     · exact absurd (qD_ h1) hp
   · rcases old m a o2 e2 e4 with ⟨h3,h4⟩ |⟨h3,_,_⟩
     · exact absurd (qD_ h3) hp
     · exact absurd h3.symm hnm
def Up.adopt{μ μ':List Addr}{H H':Hp}{p:Addr}(u:Up μ μ' H H')(hp:H p=none):Up μ (μ'++[p]) H H':=
 ⟨u.pre.trans ⟨[p],rfl⟩,u.keeps,fun b o e n=>⟨(u.rest b o e n).1,fun z=>by
   rcases qG_.mp z with z |z
   · exact(u.rest b o e n).2 z
   · simp at z;subst z;rw[hp]at e;cases e⟩⟩
section
variable{X:Cx}{T:Tab}{Y:EX}{elt iter:Expr}{x:Str}{px:Pos}{ifs:List Expr}{scope:Scope}{cl:List (Str×Addr)}{caps:List (Str×Nat)}{pos:Pos}{fe:M3.E3}{ft:M3.T3}{it:M3.I3}
def wQ{pins:List (Addr×Obj)}{σ σ':L2.St}{H H':Hp}{s₂ s':Shared}{C:Addr}(I:L2.Inv X pins σ H s₂)(hge:s₂.heap.objs.size<=C)(I':L2.Inv X pins σ' H' s')(hC:H' C=none){h':Heap}(hs:Heap.SameBut C s'.heap h'):L2.Inv X pins σ' H' {s' with heap:=h'}:=by
 refine I'.turned (t':=s'.toks) (it:=C) (fun b o hb e=>(hs.2 b hb).trans e) hC (Nat.ne_of_gt (qd_ I.lt hge)) (.inr (Nat.le_trans I.sz hge)) (fun y c e z=>?_) fun q hq z=>?_
 · obtain⟨v,w⟩:=I.cell y c e
   exact absurd (qd_ w.lt (by rw[z];exact hge)) (qe_ _)
 · exact absurd (qd_ (Heap.lt_size (I.pin q hq).1) (by rw[z];exact hge)) (qe_ _)
def nj(B:Blk X x caps scope cl)(hc:X.calm=true)(hi:PI X (.Name x px) iter (tI T X.K Y it))(ht:∀s₃ H₃ C fp E',PTs (blk X x caps scope cl s₃ H₃ C fp E') ifs (tT T X.K Y ft))(he:∀s₃ H₃ C fp E',PE (blk X x caps scope cl s₃ H₃ C fp E') elt (tE T X.K Y fe))
 (hs:∀x,foldedSetIterable iter X.env x=pure x:=by intro _;rfl):PE X (.ListComp elt [⟨.Name x px,iter,ifs,0⟩] scope pos) (tE T X.K Y (M3.gz it (caps.map (·.2)) ft fe)):=by
 intro pins s σ H Q I ⟨μ,σ3,G,S,sd,h⟩
 rw[eval_ListComp]
 refine wpAny_comprehension_free (use:=none) rfl hs B.B4 B.kind B.loc (thn (hi pins s σ H (fun J H1=>∃src μ1 G1,Up μ μ1 H H1/\Sim T X.K μ1 H1 G1/\vW T X.K μ1 H1 src J/\
  M3.run (M3.bnd (M3.b6 src.ck (fun x=>ft (some x :: M3.dR σ3 (caps.map (·.2)))) (fun x=>fe (some x :: M3.dR σ3 (caps.map (·.2)))) src.xs []) fun ys=>M3.new (.lst ys)) G1 (du T X.K μ H Q) (Y.x μ1 H1)) I
  ⟨μ,σ3,G,S,sd,cD (M3.aR h) fun src G1 q J H1 μ1 u1 S1 sr=>⟨src,μ1,G1,u1,S1,sr,Y.upE u1 q⟩⟩) fun v s1 h1=>thn h1 fun itv s2 h2=>?_)
 obtain⟨ita,fp,tn,J,H1,e,I2,Tn,st2,f2,src,μ1,G1,u1,S1,sr,q⟩:=h2
 subst e
 refine qU (RR:=fun acc C=>compPost (model X.prog X.w) X.A X.xe none (EP X pins σ Q) acc C) B hc he ht I2 Tn st2 f2 S1 (sd.up u1) sr (M3.aR q) fun p C s' ce=>?_
 obtain⟨⟨ys,ws,H',μ',G',I',u',S',hpw,hpm,d,hP,hC,hp0⟩,⟨m,hm⟩,hge⟩:=ce
 refine⟨m,hm,fun h' hsb=>⟨.ref p,H',wQ I2 hge I' hC hsb,rfl,?_⟩⟩
 refine hP _ H' (μ'++[p]) (u1.trans (u'.adopt hp0)) (S'.adopt hpm hpw d) ⟨p,?_,rfl⟩
 rw[<-S'.len];simp
def iy{i:Nat}{y:Str}{py spos:Pos}(B:Blk X x caps scope cl)(hc:X.calm=true)(hN:X.N.Nodup)(hiN:X.N[i]? =some y)(hy:X.env.scope.names.lookup y=some .local)
 (hi:PI X (.Name x px) iter (tI T X.K Y it)) (ht:∀s₃ H₃ C fp E',PTs (blk X x caps scope cl s₃ H₃ C fp E') ifs (tT T X.K Y ft)) (he:∀s₃ H₃ C fp E',PE (blk X x caps scope cl s₃ H₃ C fp E') elt (tE T X.K Y fe))
 (hsw:swapsWith (.ListComp elt [⟨.Name x px,iter,ifs,0⟩] scope pos) (some (.Name y py)) spos.line X.env=pure true:=by rfl)
 (hs:∀x,foldedSetIterable iter X.env x=pure x:=by intro _;rfl):PS X (.Assign [.Name y py] (.ListComp elt [⟨.Name x px,iter,ifs,0⟩] scope pos) spos) (tS T X.K Y (M3.bD i (M3.gz it (caps.map (·.2)) ft fe))):=by
 intro pins s σ H D I ⟨μ,σ3,G,S,sd,h⟩
 rw[exec_Assign_Name_used _ _ _ _ hsw]
 refine wpAny_bind (wpAny_standAt (wpAny_bind ?_))
 show wpAny _ X.A (do let _ <-comprehension (.ListComp elt [⟨.Name x px,iter,ifs,0⟩] scope pos) scope X.env _ (newList []) false (eval iter X.env) (some (assign (.Name y py) X.env))) _ _ s
 refine wpAny_bind (wpAny_mono (wpAny_comprehension_free (use:=some (assign (.Name y py) X.env)) (Q:=fun _ s'=>SP X pins D .next s') rfl hs B.B4 B.kind B.loc
  (thn (hi pins s σ H (fun J H1=>∃src μ1 G1,Up μ μ1 H H1/\Sim T X.K μ1 H1 G1/\vW T X.K μ1 H1 src J/\
  M3.run (M3.bnd (M3.b6 src.ck (fun x=>ft (some x :: M3.dR σ3 (caps.map (·.2)))) (fun x=>fe (some x :: M3.dR σ3 (caps.map (·.2)))) src.xs []) fun ys=>M3.bnd (M3.new (.lst ys)) fun d=>M3.ret (.next,σ3.set i (some d))) G1 (eG T X.K μ H D) (Y.x μ1 H1)) I
  ⟨μ,σ3,G,S,sd,cD (M3.aR (by
    have h:M3.run (M3.bnd (M3.bnd (it σ3) fun src=>M3.bnd (M3.b6 src.ck (fun x=>ft (some x :: M3.dR σ3 (caps.map (·.2)))) (fun x=>fe (some x :: M3.dR σ3 (caps.map (·.2)))) src.xs []) fun ys=>M3.new (.lst ys)) fun d=>M3.ret (.next,σ3.set i (some d))) G (eG T X.K μ H D) (Y.x μ H):=h
    rw[M3.kg]at h
    exact h)) fun src G1 q J H1 μ1 u1 S1 sr=>⟨src,μ1,G1,u1,S1,sr,Y.upE u1 (by rw[M3.kg]at q;exact q)⟩⟩) fun v s1 h1=>thn h1 fun itv s2 h2=>?_)) (fun _ s' hq=>wpAny_pure (wpAny_pure hq)) fun _ _ e=>e)
 obtain⟨ita,fp,tn,J,H1,e,I2,Tn,st2,f2,src,μ1,G1,u1,S1,sr,q⟩:=h2
 subst e
 refine qU (RR:=fun acc C=>compPost (model X.prog X.w) X.A X.xe (some (assign (.Name y py) X.env)) (fun _ s'=>SP X pins D .next s') acc C) B hc he ht I2 Tn st2 f2 S1 (sd.up u1) sr (M3.aR q) fun p C s' ce=>?_
 obtain⟨⟨ys,ws,H',μ',G',I',u',S',hpw,hpm,d,hP,hC,hp0⟩,⟨m,hm⟩,hge⟩:=ce
 show wpAny _ X.A (assign (.Name y py) X.env (.ref p)) _ _ _
 refine wpAny_assign_Name (qR I' hN hiN (.inl hy) (v:= .ref p) rfl (fun s3 I3 ⟨a,hsa,hal⟩=>?_) (.inr hy))
 have hCa:C≠a:=by
  rintro rfl
  rcases hal with z |z
  · exact absurd I2.lt (by rw[<-z];exact Nat.not_lt.mpr hge)
  · obtain⟨v,w⟩:=I2.cell _ _ z
    exact absurd (qd_ w.lt hge) (qe_ _)
 refine⟨m,hm.sameBut hsa hCa,fun h' hsb=>⟨_,H',wQ I2 hge I3 hC hsb,?_⟩⟩
 have Sa:=S'.adopt hpm hpw d
 have ua:=(u1.trans (u'.adopt hp0))
 have dn:Den X.K H' (μ'++[p]) (.ref G'.length) (.ref p):=⟨p,by rw[<-S'.len];simp,rfl⟩
 exact hP _ H' (μ'++[p]) ua Sa ((sd.up ua).set i dn)
theorem Blk.nil(hkind:scope.kind= .function)(hno:scope.names.all (fun y=>decide (y.2= .local))=true)(hloc:∀y∈scope.names,scope.names.lookup y.1=some .local)(hown:scope.names.lookup x=some .local):Blk X x [] scope []:=by
 have hl:∀y∈scope.names,y.2= .local:=fun y hy=>of_decide_eq_true (List.all_eq_true.mp hno y hy)
 refine⟨hkind,fun y hy z=>?_,fun y hy _=>hloc y hy,hown,closureFor_none fun y hy z=>?_,(by simp),(fun y c e=>by cases e),(fun y hy=>?_),rfl,(fun j y i e=>by simp at e)⟩
 · rw[hl y hy]at z;cases z
 · rw[hl y hy]at z;cases z
 · exfalso
   have key:∀(l:List (Str×NameKind)),(∀z∈l,z.2= .local)->∀k,(l.map fun(n,k)=>if (k==NameKind.free&&X.env.scope.kind== .function&&X.env.kindOf n==some .cell)then (n,NameKind.cell)else (n,k)).lookup y=some k->k= .local:=by
    intro l
    induction l with
    |nil=>intro _ k e;cases e
    |cons z r ih=>
     intro hz k e
     obtain⟨n,kk⟩:=z
     have hk:kk= .local:=hz (n,kk) qI_
     subst hk
     rw[List.map_cons]at e
     simp only[show (NameKind.local==NameKind.free)=false from rfl,Bool.false_and,Bool.false_eq_true,if_false,List.lookup_cons]at e
     cases q:y==n with
     |true=>rw[q]at e;cases e;rfl
     |false=>rw[q]at e;exact ih (fun w hw=>hz w (qR_ _ hw)) k e
   rcases hy with z |z
   · exact absurd (key _ hl _ z) (by decide)
   · exact absurd (key _ hl _ z) (by decide)
end
def Dl(K:PySem.W.Frag)(mg:Str->Option Value)(x:Str)(d:M3.D):Prop:=∃v u,mg x=some u/\RelV v u/\∀H μ,Den K H μ d v
section
variable{X:Cx}{T:Tab}{Y:EX}{a b e:Expr}{fa fb:M3.E3}{pos:Pos}
def FP{x:Str}{d:M3.D}(h:Dl X.K X.mg x d)(hg:Gl X x:=by rfl)(hd:(x==("__debug__":Str))=false:=by decide):PE X (.Name x pos) (tE T X.K Y (M3.eC d)):=by
 obtain⟨v,u,h1,h2,h3⟩:=h
 exact mI (Cy hg h1 h2 hd) h3
def Dx(hu:X.A.units+64 < cLine):OpR X (compareOp .Eq) (qg T X.K false)/\Br2 T X.K Y M3.oEq (qg T X.K false):=DF (by omega)
def Ih(hu:X.A.units+64 < cLine):OpR X (compareOp .NotEq) (qg T X.K true)/\Br2 T X.K Y M3.oNe (qg T X.K true):=Fb (by omega)
def yU(hu:X.A.units+64 < cLine):OpR X (compareOp .NotIn) (zO T X.K true)/\Br2 T X.K Y M3.mV (zO T X.K true):=xZ (by omega)
def Ds(hu:X.A.units+64 < cLine):OpR X (compareOp .Lt) (Bv X.K)/\Br2 T X.K Y M3.oLt (Bv X.K):=Ff (by omega)
def De(hu:X.A.units+64 < cLine):OpR X (compareOp .Gt) (CH X.K)/\Br2 T X.K Y M3.oGt (CH X.K):=DI (by omega)
def HW(hu:X.A.units+64 < cLine):OpR X (compareOp .LtE) (rI0 fun i j=>.bl (decide (i<=j)))/\Br2 T X.K Y M3.oLe (rI0 fun i j=>.bl (decide (i<=j))):=Ef
def Hq(hu:X.A.units+64 < cLine):OpR X (compareOp .GtE) (rI0 fun i j=>.bl (decide (j<=i)))/\Br2 T X.K Y M3.oGe (rI0 fun i j=>.bl (decide (j<=i))):=Fm
def ug(hu:X.A.units+64 < cLine)(ha:PE X a (tE T X.K Y fa))(hb:PE X b (tE T X.K Y fb))(hs:oy b:=by intro _ _;rfl):PE X (.Subscript a b pos) (tE T X.K Y (M3.eOp M3.oIx fa fb)):=IB (by omega) ha hb hs
def xl{K:PySem.W.Frag}{a:Addr}{od:Option Addr}{its:Array Value}{n:Nat}{sl:Array (Option Value)}{ds:List M3.D}{vs:List V}(l:K.lookup a=some ⟨.type "tuple",od,.seq its n,sl⟩)(hz:its.size<=sizeLine)(r:Vals vs its.toList)(d:∀H μ,ax K H μ ds vs):∀H μ,Den K H μ (.tup ds) (.ref a):=
 fun H μ=>⟨a,vs,rfl,.inr ⟨_,its,n,l,rfl,rfl,hz,r⟩,d H μ⟩
def Eh{T:Tab}{K:PySem.W.Frag}{f:List M3.D->M3.M M3.D}{n:Nat}(h:∀ns:List Int,ns.length<=n->M3.run (f [.ref 0]) [.frz (ns.map M3.D.int)] (fun d _=>d= .bl true) fun _ _=>False)
 {H:Hp} {a:Addr} {ns:List Int} (hl:ns.length<=n) (hO:Ar H) (sq:SqL K H a (ns.map V.int)):sp3 T K 1 f [.ref a] H (fun v _=>v= .bl true) fun _ _ _=>False:=by
 have sf:SqF K H a (ns.map V.int):=by
  rcases sq with (sq |⟨o,sq⟩) |sq
  · rcases hO a with z |⟨o,xs,z⟩
    · rw[z]at sq;cases sq
    · rw[z]at sq;cases sq
  · exact .inl ⟨o,sq⟩
  · exact .inr sq
 refine⟨rfl,[a],[.ref 0],[.frz (ns.map M3.D.int)],⟨rfl,fun k b o e1 e2=>?_,fun k m b o o' hkm e1 e2 e3 e4=>?_⟩,⟨.ref a,[],rfl,⟨a,rfl,rfl⟩,rfl⟩,M3.aq (h ns hl) (fun d G' e v H' μ' u S r=>?_) fun _ _ z=>z.elim⟩
 · cases k with
   |zero=>cases e1;cases e2;exact⟨_,sf,ax.sk⟩
   |succ k=>simp at e1
 · cases k with
   |zero=>cases e3;exact .inl rfl
   |succ k=>simp at e1
 · subst e;exact r
end
structure wA (T:Tab) (K:PySem.W.Frag) (f:Nat):Prop where
 cl:∀C Ca,C < 1000->T.cls C=some Ca->Cls K Ca/\iE K Ca (T.nm f)
 inj:∀g,T.nm g=T.nm f->g=f
abbrev lW(T:Tab)(K:PySem.W.Frag)(H:Hp)(μ:List Addr):List (Nat×M3.D)->List (Str×V)->Prop:=Paired (fun(p:Nat×M3.D) (q:Str×V)=>q.1=T.nm p.1/\Den K H μ p.2 q.2)
section
variable{X:Cx}{T:Tab}{Y:EX}{a b e o:Expr}{es:List Expr}{fa fb:M3.E3}{f3:M3.A3}{pos pos' p apos:Pos}
theorem lW.get{K:PySem.W.Frag}{H:Hp}{μ:List Addr}{f:Nat}(hf:∀g,T.nm g=T.nm f->g=f):∀{fs:List (Nat×M3.D)} {ws:List (Str×V)} {d:M3.D},lW T K H μ fs ws->fs.lookup f=some d->∃v,ws.lookup (T.nm f)=some v/\Den K H μ d v
 |_,_,_,.nil,e=>by cases e
 |(g,x) :: fs,(s,w) :: ws,d,.cons ⟨h1,h2⟩ t,e=>by
  have h1:s=T.nm g:=h1
  subst h1
  by_cases h:g=f
  · subst h
    simp at e
    subst e
    exact⟨w,by simp,h2⟩
  · have hn:¬T.nm f=T.nm g:=fun z=>h (hf g z.symm)
    have h':(f==g)=false:=by simpa using fun z=>h (Eq.symm z)
    have hn':(T.nm f==T.nm g)=false:=by simpa using hn
    rw[List.lookup_cons,h']at e
    rw[List.lookup_cons,hn']
    exact lW.get hf t e
theorem lW.none{K:PySem.W.Frag}{H:Hp}{μ:List Addr}{m:Str}(hm:∀g,T.nm g≠m):∀{fs:List (Nat×M3.D)} {ws:List (Str×V)},lW T K H μ fs ws->ws.lookup m=Option.none
 |_,_,.nil=>rfl
 |(g,x) :: fs,(s,w) :: ws,.cons ⟨h1,h2⟩ t=>by
  have h1:s=T.nm g:=h1
  subst h1
  have hn':(m==T.nm g)=false:=by simpa using fun z=>hm g (Eq.symm z)
  rw[List.lookup_cons,hn']
  exact lW.none hm t
theorem lW.put{K:PySem.W.Frag}{H:Hp}{μ:List Addr}{f:Nat}(hf:∀g,T.nm g=T.nm f->g=f){d:M3.D}{v:V}(dv:Den K H μ d v):∀{fs:List (Nat×M3.D)} {ws:List (Str×V)},lW T K H μ fs ws->lW T K H μ (M3.putN f d fs) (iC (T.nm f) v ws)
 |_,_,.nil=>.cons ⟨rfl,dv⟩ .nil
 |(g,x) :: fs,(s,w) :: ws,.cons ⟨h1,h2⟩ t=>by
  have h1:s=T.nm g:=h1
  subst h1
  unfold M3.putN iC
  by_cases h:g=f
  · subst h
    rw[if_pos rfl,if_pos rfl]
    exact .cons ⟨rfl,dv⟩ t
  · rw[if_neg h,if_neg fun z=>h (hf g z)]
    exact .cons ⟨rfl,h2⟩ (lW.put hf dv t)
def nC{f:Nat}{n:Str}(F:wA T X.K f)(he:PE X e (tE T X.K Y fa))(hn:n=T.nm f:=by rfl)(hb:attributeBase e n X.env (eval e X.env)=eval e X.env:=by rfl):PE X (.Attribute e n pos) (tE T X.K Y (M3.aW fa f)):=by
 subst hn
 refine PE.of (F1 he hb) fun σ H Q ⟨μ,σ3,G,S,sd,h⟩=>⟨μ,σ3,G,S,sd,bq h fun d G1 v H1 μ1 u1 S1 d1 h1=>?_⟩
 unfold M3.run M3.zq at h1
 cases d with
 |ref k=>
  dsimp only at h1
  obtain⟨a,ea,rfl⟩:=d1
  cases q:G1[k]? with
  |none=>rw[q]at h1;exact False.elim h1
  |some ob=>
   have od:=S1.obj k a ob ea q
   rw[q]at h1
   cases ob with
   |ins C fs=>
    dsimp only at h1
    obtain⟨Ca,dx,ws,hc,e1,r⟩:=od
    by_cases hC:C < 1000
    rotate_left
    · rw[if_neg hC]at h1;exact False.elim h1
    rw[if_pos hC]at h1
    cases ql:fs.lookup f with
    |none=>rw[ql]at h1;exact False.elim h1
    |some d=>
     rw[ql]at h1
     obtain⟨w,e2,dw⟩:=lW.get F.inj r ql
     exact⟨a,Ca,dx,ws,w,rfl,e1,(F.cl C Ca hC hc).1,(F.cl C Ca hC hc).2,e2,h1 w H1 μ1 u1 S1 dw⟩
   |_=>exact False.elim h1
 |_=>exact False.elim h1
def wR{f:Nat}{n:Str}(F:wA T X.K f)(ho:PE X o (tE T X.K Y fa))(he:PE X e (tE T X.K Y fb))(hn:n=T.nm f:=by rfl)(hs:swapsWith e (some (.Attribute o n pos')) pos.line X.env=pure false:=by rfl):PS X (.Assign [.Attribute o n pos'] e pos) (tS T X.K Y (M3.bz fa f fb)):=by
 subst hn
 refine PS.of (Ec ho he hs) fun D σ H ⟨μ,σ3,G,S,sd,h⟩=>⟨μ,σ3,G,S,sd,bq h fun y G1 w H1 μ1 u1 S1 d1 h1=>⟨μ1,σ3,G1,S1,sd.up u1,bq h1 fun x G2 v H2 μ2 u2 S2 d2 h2=>?_⟩⟩
 have h2:=M3.aR h2
 unfold M3.run M3.xw at h2
 cases x with
 |ref k=>
  dsimp only at h2
  obtain⟨a,ea,rfl⟩:=d2
  cases q:G2[k]? with
  |none=>rw[q]at h2;exact False.elim h2
  |some ob=>
   have od:=S2.obj k a ob ea q
   rw[q]at h2
   cases ob with
   |ins C fs=>
    dsimp only at h2
    obtain⟨Ca,dx,ws,hc,e1,r⟩:=od
    by_cases c:C < 1000/\fs.length < 1000
    · rw[if_pos c]at h2
      have up:=Up.set S2 (.ins Ca dx (iC (T.nm f) w ws)) ea q rfl
      refine⟨a,Ca,dx,ws,rfl,e1,(F.cl C Ca c.1 hc).1,(F.cl C Ca c.1 hc).2,by rw[<-Paired.length r];exact c.2,?_⟩
      have r2:lW T X.K (upd H2 a (.ins Ca dx (iC (T.nm f) w ws))) μ2 fs ws:=Paired.imp' (fun _ _ z=>⟨z.1,Den.up up z.2⟩) r
      exact h2 _ _ μ2 ((u1.trans u2).trans up) (S2.set ea q rfl rfl ⟨Ca,dx,_,hc,aK,lW.put F.inj (Den.up (u2.trans up) d1) r2⟩) (sd.up ((u1.trans u2).trans up))
    · rw[if_neg c]at h2;exact False.elim h2
   |_=>exact False.elim h2
 |_=>exact False.elim h2
structure Mt3 (P:Program) (w:World) (K:PySem.W.Frag) (mg:Str->Option Value) (base:Heap) (CX:CXT) (T:Tab) (k:Nat) (C:Nat) (m:Str) (n:Nat) (f:List M3.D->M3.M M3.D):Prop where
 ex:∃Ca fa fd ps,T.cls C=some Ca/\Cls K Ca/\Meth K Ca m fa/\aT P w K mg base CX k fa fd ps (sp3 T K n f)/\Binds K fd ps []
 no:∀g,T.nm g≠m
 len:∀ds G (Q:M3.D->M3.Hh->Prop) (Z:Nat->M3.Hh->Prop),M3.run (f ds) G Q Z->ds.length=n
def EK{Z:Nat->M3.Hh->Prop}{C:Nat}{x:M3.D}{G:M3.Hh}{P:Unit->M3.Hh->Prop}(h:M3.run (M3.isC C x) G P Z):∃k fs,x= .ref k/\G[k]? =some (.ins C fs)/\P () G:=by
 unfold M3.run M3.isC at h
 cases x with
 |ref k=>
  dsimp only at h
  cases q:G[k]? with
  |none=>rw[q]at h;exact False.elim h
  |some ob=>
   rw[q]at h
   cases ob with
   |ins C' fs=>
    dsimp only at h
    by_cases c:C'=C
    · rw[if_pos c]at h;subst c;exact⟨k,fs,rfl,q,h⟩
    · rw[if_neg c]at h;exact False.elim h
   |_=>exact False.elim h
 |_=>exact False.elim h
def uX{CX:CXT}{E:XK}{P:Program}{w:World}{K:PySem.W.Frag}{mg:Str->Option Value}{base:Heap}{k n:Nat}{C:Nat}{Ca:Addr}{m:Str}{g:List M3.D->M3.M M3.D}(hc:T.cls C=some Ca)(no:∀g,T.nm g≠m)(len:∀ds G (Q:M3.D->M3.Hh->Prop) (Z:Nat->M3.Hh->Prop),M3.run (g ds) G Q Z->ds.length=n)
 {σ:L2.St} {H:Hp} {Q:VK} (h:tE T K (EX.of T K E) (M3.aN C g fa f3) σ H Q):zW Ca m (sp3 T K n g) [] E (tE T K (EX.of T K E) fa) (tA T K (EX.of T K E) f3) σ H Q:=by
 obtain⟨μ,σ3,G,S,sd,h⟩:=h
 refine⟨μ,σ3,G,S,sd,bq h fun x G1 v H1 μ1 u1 S1 d1 h1=>?_⟩
 obtain⟨i,fs,rfl,q,h2⟩:=EK (M3.aR h1)
 obtain⟨a,ea,rfl⟩:=id d1
 obtain⟨Ca',dx,ws,hc',e1,r⟩:=S1.obj i a _ ea q
 rw[hc]at hc'
 cases hc'
 refine⟨a,dx,ws,rfl,e1,lW.none no r,μ1,σ3,G1,S1,sd.up u1,nA h2 fun ds G2 vs H2 μ2 u2 S2 d2 h3=>?_⟩
 rw[qY_]
 have dd:ax K H2 μ2 (.ref i :: ds) (.ref a :: vs):=⟨_,_,rfl,Den.up u2 d1,d2⟩
 exact⟨by rw[<-dd.length];exact len _ _ _ _ h3,μ2,_,G2,S2,dd,cD h3 fun _ _ z=>z.up (u1.trans u2)⟩
def A9{CX:CXT}{E:XK}{k n:Nat}{C:Nat}{m:Str}{g:List M3.D->M3.M M3.D}{pl:Sem Bool}(F:Mt3 X.prog X.w X.K X.mg X.base CX T k C m n g)(hr:dq k X.A)(hx:eQ CX X E)(ho:PE X o (tE T X.K (EX.of T X.K E) fa))(ha:PA X (e :: es) (tA T X.K (EX.of T X.K E) f3))
 (hst:starEach (e :: es) X.env=(false,eval e X.env) :: starEach es X.env:=by rfl) (hpl:(backTo pos (starEach es X.env)).any (·.1)=false:=by rfl)
 (ht:eval (.Call (.Attribute o m apos) (e :: es) [] pos) X.env=(do
   let ov <-eval o X.env
   standAt apos.atName
   let (f,first) <-holding [ov] (getMethod ov m pl)
   callWith pos f first (backTo pos (starEach (e :: es) X.env)) (backToKw pos (keywordEach [] X.env))):=by rfl):
 PE X (.Call (.Attribute o m apos) (e :: es) [] pos) (tE T X.K (EX.of T X.K E) (M3.aN C g fa f3)):=by
 obtain⟨Ca,fa',fd,ps,hc,cl,hm,G,hb⟩:=F.ex
 exact PE.of (BS (pl:=pl) ho cl hm G hr hb .nil hx ha hst hpl ht) fun _ _ _ h=>uX (CX:=CX) (P:=X.prog) (w:=X.w) (mg:=X.mg) (base:=X.base) (k:=k) hc F.no F.len h
def xi{CX:CXT}{E:XK}{k n:Nat}{C:Nat}{m:Str}{g:List M3.D->M3.M M3.D}{pl:Sem Bool}(F:Mt3 X.prog X.w X.K X.mg X.base CX T k C m n g)(hr:dq k X.A)(hx:eQ CX X E)(ho:PE X o (tE T X.K (EX.of T X.K E) fa))
 (ht:eval (.Call (.Attribute o m apos) [] [] pos) X.env=(do
   let ov <-eval o X.env
   standAt apos.atName
   let (f,first) <-holding [ov] (getMethod ov m pl)
   callWith pos f first (backTo pos (starEach [] X.env)) (backToKw pos (keywordEach [] X.env))):=by rfl):
 PE X (.Call (.Attribute o m apos) [] [] pos) (tE T X.K (EX.of T X.K E) (M3.aN C g fa M3.ao)):=by
 obtain⟨Ca,fa',fd,ps,hc,cl,hm,G,hb⟩:=F.ex
 refine PE.of (yT (pl:=pl) ho cl hm G hr hb .nil hx ht) fun σ H Q h=>?_
 obtain⟨μ,σ3,G,S,sd,h⟩:=uX (f3:=M3.ao) (CX:=CX) (P:=X.prog) (w:=X.w) (mg:=X.mg) (base:=X.base) (k:=k) hc F.no F.len h
 refine⟨μ,σ3,G,S,sd,cD h fun d G1 q v H1 μ1 u1 S1 d1=>?_⟩
 obtain⟨a,dx,fs,e1,e2,e3,μ2,σ4,G2,S2,sd2,h2⟩:=q v H1 μ1 u1 S1 d1
 exact⟨a,dx,fs,e1,e2,e3,h2 [] H1 μ2 (Up.refl _ _) S2 rfl⟩
structure Ct3 (P:Program) (w:World) (K:PySem.W.Frag) (mg:Str->Option Value) (base:Heap) (CX:CXT) (T:Tab) (k:Nat) (x:Str) (C:Nat) (n:Nat) (f:List M3.D->M3.M M3.D):Prop where
 ex:∃Ca fa fd ps,T.cls C=some Ca/\Mk K Ca fa/\mg x=some (.ref Ca)/\aT P w K mg base CX k fa fd ps (sp3 T K n f)/\Binds K fd ps []
 len:∀ds G (Q:M3.D->M3.Hh->Prop) (Z:Nat->M3.Hh->Prop),M3.run (f ds) G Q Z->ds.length=n
def AK{E:XK}{K:PySem.W.Frag}{n:Nat}{C:Nat}{Ca:Addr}{g:List M3.D->M3.M M3.D}(hc:T.cls C=some Ca)(len:∀ds G (Q:M3.D->M3.Hh->Prop) (Z:Nat->M3.Hh->Prop),M3.run (g ds) G Q Z->ds.length=n)
 {H1:Hp} {μ μ1:List Addr} {H:Hp} {G1:M3.Hh} {ds:List M3.D} {vs:List V} {Q:VK} (u1:Up μ μ1 H H1) (S1:Sim T K μ1 H1 G1) (d1:ax K H1 μ1 ds vs) (h:M3.run (M3.bnd (M3.new (.ins C [])) fun x=>M3.bnd (g (x :: ds)) fun r=>M3.bnd (M3.xj r) fun _=>M3.ret x) G1 (du T K μ H Q) ((EX.of T K E).x μ1 H1)):
 ∀x dx,H1 x=none->H1 dx=none->dx≠x->sp3 T K n g (.ref x :: vs) (upd (upd H1 dx (.own x)) x (.ins Ca dx [])) (fun v H2=>v= .non/\Q (.ref x) H2) E:=by
 intro x dx hx hdx hne
 have hx2:upd H1 dx (.own x) x=none:=by rw[aI (Ne.symm hne)];exact hx
 have ua:Up μ1 μ1 H1 (upd H1 dx (.own x)):=Up.same (gi.new _ hdx)
 have Sa:=S1.same (gi.new (.own x) hdx)
 have ub:=Up.new (μ:=μ1) (.ins Ca dx []) hx2
 have Sb:=Sa.new (o:= .ins C []) hx2 rfl ⟨Ca,dx,[],hc,aK,.nil⟩
 have uab:=ua.trans ub
 have dx':Den K (upd (upd H1 dx (.own x)) x (.ins Ca dx [])) (μ1++[x]) (.ref G1.length) (.ref x):=⟨x,by rw[<-S1.len];simp,rfl⟩
 have dd:ax K (upd (upd H1 dx (.own x)) x (.ins Ca dx [])) (μ1++[x]) (.ref G1.length :: ds) (.ref x :: vs):=⟨_,_,rfl,dx',ax.up uab d1⟩
 have h2:M3.run (M3.bnd (g (.ref G1.length :: ds)) fun r=>M3.bnd (M3.xj r) fun _=>M3.ret (M3.D.ref G1.length)) (G1++[.ins C []]) (du T K μ H Q) ((EX.of T K E).x μ1 H1):=h
 refine⟨by rw[<-dd.length];exact len _ _ _ _ (M3.aR h2),_,_,_,Sb,dd,M3.aq (M3.aR h2) (fun r G2 q v H2 μ2 u2 S2 dr=>?_) fun c G2 z=>(EX.of T K E).up uab z⟩
 cases r with
 |non=>exact⟨dr,q _ H2 μ2 ((u1.trans uab).trans u2) S2 (Den.up u2 dx')⟩
 |_=>exact False.elim q
def zY{CX:CXT}{E:XK}{x:Str}{k n:Nat}{C:Nat}{g:List M3.D->M3.M M3.D}(F:Ct3 X.prog X.w X.K X.mg X.base CX T k x C n g)(hr:dq (k+1) X.A)(hx:eQ CX X E)(ha:PA X (e :: es) (tA T X.K (EX.of T X.K E) f3))(hg:Gl X x:=by rfl)(hdb:(x==("__debug__":Str))=false:=by decide)
 (he:starEach (e :: es) X.env=(false,eval e X.env) :: starEach es X.env:=by rfl) (hpl:(backTo pos (starEach es X.env)).any (·.1)=false:=by rfl):PE X (.Call (.Name x p) (e :: es) [] pos) (tE T X.K (EX.of T X.K E) (M3.j6 C g f3)):=by
 obtain⟨Ca,fa',fd,ps,hc,M,hm,G,hb⟩:=F.ex
 refine PE.of (Cd M G hr hg hm hb .nil hx ha hdb he hpl) fun σ H Q ⟨μ,σ3,G,S,sd,h⟩=>⟨μ,σ3,G,S,sd,nA h fun ds G1 vs H1 μ1 u1 S1 d1 h1=>?_⟩
 rw[qY_]
 exact AK hc F.len u1 S1 d1 h1
def wY{CX:CXT}{E:XK}{x:Str}{k n:Nat}{C:Nat}{g:List M3.D->M3.M M3.D}(F:Ct3 X.prog X.w X.K X.mg X.base CX T k x C n g)(hr:dq (k+1) X.A)(hx:eQ CX X E)(hg:Gl X x:=by rfl)(hdb:(x==("__debug__":Str))=false:=by decide):
 PE X (.Call (.Name x p) [] [] pos) (tE T X.K (EX.of T X.K E) (M3.j6 C g M3.ao)):=by
 obtain⟨Ca,fa',fd,ps,hc,M,hm,G,hb⟩:=F.ex
 refine PE.of (AB M G hr hg hm hb .nil hx hdb) fun σ H Q ⟨μ,σ3,G,S,sd,h⟩=>?_
 exact AK (ds:=[]) (vs:=[]) hc F.len (Up.refl _ _) S rfl h
end
section
variable{X:Cx}{T:Tab}{Y:EX}{a b e o i:Expr}{es:List Expr}{fa fb fc:M3.E3}{ft:M3.T3}{f3:M3.A3}{pos pos' p p2 apos:Pos}
abbrev iA{κ:Type}(K:PySem.W.Frag)(H:Hp)(μ:List Addr):List (κ×M3.D)->List (κ×V)->Prop:=Paired (fun(p:κ×M3.D) (q:κ×V)=>p.1=q.1/\Den K H μ p.2 q.2)
theorem iA.any{κ:Type} [DecidableEq κ]{K:PySem.W.Frag}{H:Hp}{μ:List Addr}(k:κ):∀{kvs:List (κ×M3.D)} {ws:List (κ×V)},iA K H μ kvs ws->(kvs.any fun kv=>decide (kv.1=k))=ws.any fun kv=>decide (kv.1=k)
 |_,_,.nil=>rfl
 |(k1,d) :: kvs,(k2,v) :: ws,.cons ⟨h1,h2⟩ t=>by
  cases (show k1=k2 from h1)
  rw[List.any_cons,List.any_cons,iA.any k t]
theorem iA.map{κ:Type} [DecidableEq κ]{K:PySem.W.Frag}{H:Hp}{μ:List Addr}(k:κ){d:M3.D}{v:V}(dv:Den K H μ d v):∀{kvs:List (κ×M3.D)} {ws:List (κ×V)},iA K H μ kvs ws->iA K H μ (kvs.map fun kv=>if kv.1=k then (kv.1,d)else kv) (ws.map fun kv=>if kv.1=k then (kv.1,v)else kv)
 |_,_,.nil=>.nil
 |(k1,x) :: kvs,(k2,w) :: ws,.cons ⟨h1,h2⟩ t=>by
  cases (show k1=k2 from h1)
  rw[List.map_cons,List.map_cons]
  by_cases h:k1=k
  · rw[if_pos h,if_pos h];exact .cons ⟨rfl,dv⟩ (iA.map k dv t)
  · rw[if_neg h,if_neg h];exact .cons ⟨rfl,h2⟩ (iA.map k dv t)
theorem iA.snoc{κ:Type}{K:PySem.W.Frag}{H:Hp}{μ:List Addr}(k:κ){d:M3.D}{v:V}(dv:Den K H μ d v):∀{kvs:List (κ×M3.D)} {ws:List (κ×V)},iA K H μ kvs ws->iA K H μ (kvs++[(k,d)]) (ws++[(k,v)])
 |_,_,.nil=>.cons ⟨rfl,dv⟩ .nil
 |_,_,.cons h t=>.cons h (iA.snoc k dv t)
theorem iA.put{κ:Type} [DecidableEq κ]{K:PySem.W.Frag}{H:Hp}{μ:List Addr}(k:κ){d:M3.D}{v:V}(dv:Den K H μ d v){kvs:List (κ×M3.D)}{ws:List (κ×V)}(r:iA K H μ kvs ws):iA K H μ (M3.put kvs k d) (putK ws k v):=by
 unfold M3.put putK
 rw[iA.any k r]
 by_cases h:(ws.any fun kv=>decide (kv.1=k))=true
 · rw[if_pos h,if_pos h];exact iA.map k dv r
 · rw[if_neg h,if_neg h];exact iA.snoc k dv r
def BM:PE X (.Dict [] [] pos) (tE T X.K Y M3.oX):=by
 refine PE.of As fun σ H Q ⟨μ,σ3,G,S,sd,h⟩ q hq=>?_
 have u2:=Up.new (μ:=μ) (.dK []) hq
 refine h _ _ (μ++[q]) u2 (S.new hq rfl ⟨[],aK,.nil⟩) ⟨q,?_,rfl⟩
 rw[<-S.len];simp
def set_dict(hu:X.A.units+64 < cLine):sV X (fun o i v H Q=>∃a H',o= .ref a/\Ap H a i v H'/\Q H'):=by
 intro pins s σ H o i v ov iv u Q I ro ri rv h
 obtain⟨a,H',rfl,g,q⟩:=h
 cases (show ov=Value.ref a from ro)
 exact x8 (by omega) I g ri rv fun s' I'=>⟨H',I',q⟩
def sV.or{t t':AN}(h:sV X t)(h':sV X t'):sV X (fun o i v H Q=>t o i v H Q\/t' o i v H Q):=by
 intro pins s σ H o i v ov iv u Q I ro ri rv q
 rcases q with q |q
 · exact h pins s σ H o i v ov iv u Q I ro ri rv q
 · exact h' pins s σ H o i v ov iv u Q I ro ri rv q
theorem ax.set{K:PySem.W.Frag}{H:Hp}{μ:List Addr}{d:M3.D}{v:V}(dv:Den K H μ d v):∀{ds:List M3.D} {vs:List V} (j:Nat),ax K H μ ds vs->ax K H μ (ds.set j d) (vs.set j v)
 | [],_,_,h=>by cases (show _=[]from h);rfl
 |_ :: _,_,0,⟨w,r,e,h,t⟩=>by subst e;exact⟨v,r,rfl,dv,t⟩
 |_ :: _,_,j+1,⟨w,r,e,h,t⟩=>by subst e;exact⟨w,r.set j v,rfl,h,ax.set dv j t⟩
def C5(hu:X.A.units+64 < cLine)(ho:PE X o (tE T X.K Y fa))(hi:PE X i (tE T X.K Y fb))(he:PE X e (tE T X.K Y fc))
 (ha:∀v,assign (.Subscript o i pos') X.env v=(do
   let ov <-holding [v] (eval o X.env)
   let iv <-holding [v,ov] (eval i X.env)
   standAt pos'
   holding [v,ov,iv] (setItem ov iv v)
   release [v,ov,iv] []):=by intro _;rfl)
 (hs:swapsWithSole [.Subscript o i pos'] e pos.line X.env=pure false:=by rfl) (hw:swappedStores [.Subscript o i pos'] e X.env=pure none:=by rfl)
 (h1:(assignEach [.Subscript o i pos'] X.env).map (·.2)=[assign (.Subscript o i pos') X.env]:=by rfl):PS X (.Assign [.Subscript o i pos'] e pos) (tS T X.K Y (M3.w6 fa fb fc)):=by
 refine PS.of (v7 he (zj ho hi (sV.or set_list (set_dict hu)) ha) hs hw h1) fun D σ H ⟨μ,σ3,G,S,sd,h⟩=>⟨μ,σ3,G,S,sd,bq h fun w G1 wv H1 μ1 u1 S1 d1 h1=>?_⟩
 refine⟨μ1,σ3,G1,S1,sd.up u1,bq h1 fun x G2 xv H2 μ2 u2 S2 d2 h2=>⟨μ2,σ3,G2,S2,sd.up (u1.trans u2),bq h2 fun y G3 yv H3 μ3 u3 S3 d3 h3=>?_⟩⟩
 have h3:=M3.aR h3
 have dw:=Den.up (u2.trans u3) d1
 unfold M3.run M3.yo at h3
 cases x with
 |ref n=>
  dsimp only at h3
  obtain⟨c,ec,rfl⟩:=Den.up u3 d2
  cases q:G3[n]? with
  |none=>rw[q]at h3;exact False.elim h3
  |some ob=>
   have od:=S3.obj n c ob ec q
   rw[q]at h3
   cases ob with
   |lst xs=>
    obtain⟨vs,e1,r⟩:=od
    cases y with
    |int k=>
     dsimp only at h3
     cases qk:M3.ixN xs.length k with
     |none=>rw[qk]at h3;exact False.elim h3
     |some j=>
      rw[qk]at h3
      have up:=Up.set S3 (.lst (vs.set j wv)) ec q rfl
      refine .inl ⟨c,vs,k,j,rfl,d3,e1,by rw[<-r.length];exact qk,?_⟩
      exact h3 _ _ μ3 (((u1.trans u2).trans u3).trans up) (S3.set ec q rfl rfl ⟨_,aK,ax.up up (ax.set dw j r)⟩) (sd.up (((u1.trans u2).trans u3).trans up))
    |_=>exact False.elim h3
   |dK kvs=>
    obtain⟨ws,e1,r⟩:=od
    dsimp only at h3
    cases qk:M3.pO y with
    |none=>rw[qk]at h3;exact False.elim h3
    |some k=>
     rw[qk]at h3
     dsimp only at h3
     by_cases cl:kvs.length < M3.aC
     · rw[if_pos cl]at h3
       cases sN qk d3
       have up:=Up.set S3 (.dK (putK ws k wv)) ec q rfl
       refine .inr ⟨c,_,rfl,Ap.k e1 (by rw[<-Paired.length r,<-bX];exact cl),?_⟩
       have r2:iA X.K (upd H3 c (.dK (putK ws k wv))) μ3 kvs ws:=Paired.imp' (fun _ _ z=>⟨z.1,Den.up up z.2⟩) r
       exact h3 _ _ μ3 (((u1.trans u2).trans u3).trans up) (S3.set ec q rfl rfl ⟨_,aK,iA.put k (Den.up up dw) r2⟩) (sd.up (((u1.trans u2).trans u3).trans up))
     · rw[if_neg cl]at h3;exact False.elim h3
   |_=>exact False.elim h3
 |_=>exact False.elim h3
def Ie(T:Tab)(K:PySem.W.Frag)(μ:List Addr)(H:Hp)(Q:Option Int->Hp->Prop)(d:Option Int)(G':M3.Hh):Prop:=∀H' μ',Up μ μ' H H'->Sim T K μ' H' G'->Q d H'
def tP(T:Tab)(K:PySem.W.Frag)(Y:EX)(f:M3.P3):TO:=fun σ H Q=>∃μ σ3 G,Sim T K μ H G/\StD K H μ σ3 σ/\M3.run (f σ3) G (Ie T K μ H Q) (Y.x μ H)
def PO.of{e:Option Expr}{t u:TO}(h:PO X e t)(f:∀σ H Q,u σ H Q->t σ H Q):PO X e u:=fun pins s σ H Q I q=>h pins s σ H Q I (f σ H Q q)
def zQ:PO X none (tP T X.K Y M3.tF):=PO.of B1 fun σ H Q ⟨μ,σ3,G,S,sd,h⟩=>h H μ (Up.refl _ _) S
def Be(h:PE X e (tE T X.K Y fa)):PO X (some e) (tP T X.K Y (M3.oT fa)):=by
 refine PO.of (Cv h) fun σ H Q ⟨μ,σ3,G,S,sd,h⟩=>⟨μ,σ3,G,S,sd,bq h fun d G1 v H1 μ1 u1 S1 d1 h1=>?_⟩
 cases d with
 |int k=>exact⟨k,d1,h1 H1 μ1 u1 S1⟩
 |_=>exact False.elim h1
def ax.cut{K:PySem.W.Frag}{H:Hp}{μ:List Addr}{ds:List M3.D}{vs:List V}(r:ax K H μ ds vs)(lo hi:Option Int):ax K H μ (M3.cutD ds lo hi) (qd vs lo hi):=by
 have dr:∀(n:Nat) {ds:List M3.D} {vs:List V},ax K H μ ds vs->ax K H μ (ds.drop n) (vs.drop n):=by
  intro n
  induction n with
  |zero=>intro ds vs r;simpa using r
  |succ n ih=>
   intro ds vs r
   cases ds with
   |nil=>cases (show vs=[]from r);rfl
   |cons d ds=>obtain⟨w,t,rfl,_,r⟩:=r;simpa using ih r
 have tk:∀(n:Nat) {ds:List M3.D} {vs:List V},ax K H μ ds vs->ax K H μ (ds.take n) (vs.take n):=by
  intro n
  induction n with
  |zero=>intro ds vs r;simp;rfl
  |succ n ih=>
   intro ds vs r
   cases ds with
   |nil=>cases (show vs=[]from r);rfl
   |cons d ds=>obtain⟨w,t,rfl,h,r⟩:=r;exact⟨w,t.take n,rfl,h,ih r⟩
 have es:∀(n d:Nat) (o:Option Int),M3.sIx n d o=HT.sIx n d o:=by
  intro n d o
  cases o <;> rfl
 unfold M3.cutD qd
 rw[es,es,r.length]
 exact tk _ (dr _ r)
def Br{lo hi:Option Expr}{fl fh:M3.P3}(he:PE X e (tE T X.K Y fa))(hl:PO X lo (tP T X.K Y fl))(hh:PO X hi (tP T X.K Y fh)):PE X (.Subscript e (.Slice lo hi none p2) pos) (tE T X.K Y (M3.eSl fa fl fh)):=by
 refine PE.of (y9 (L2.SlR.or Ew CS) he hl hh) fun σ H Q ⟨μ,σ3,G,S,sd,h⟩=>⟨μ,σ3,G,S,sd,bq h fun x G1 v H1 μ1 u1 S1 d1 h1=>?_⟩
 refine⟨μ1,σ3,G1,S1,sd.up u1,M3.aq (M3.aR h1) (fun l G2 h2 H2 μ2 u2 S2=>⟨μ2,σ3,G2,S2,sd.up (u1.trans u2),M3.aq (M3.aR h2) (fun k G3 h3 H3 μ3 u3 S3=>?_) fun _ _ z=>Y.up u2 z⟩) fun _ _ z=>z⟩
 have d3:=Den.up (u2.trans u3) d1
 have u:=(u1.trans u2).trans u3
 unfold M3.run M3.oSl at h3
 cases x with
 |tup xs=>
  dsimp only at h3
  obtain⟨c,vs,rfl,sq,r⟩:=d3
  by_cases cw:M3.sIx xs.length 0 l=0/\M3.sIx xs.length xs.length k=xs.length
  · rw[if_pos cw]at h3;exact False.elim h3
  · rw[if_neg cw]at h3
    refine .inl ⟨c,vs,rfl,sq,fun z=>cw ?_,fun q hq=>?_⟩
    · have es:∀(n d:Nat) (o:Option Int),M3.sIx n d o=HT.sIx n d o:=by
       intro n d o
       cases o <;> rfl
      rw[es,es,r.length];exact z
    · have u4:Up μ3 μ3 H3 (upd H3 q (.tup (qd vs l k))):=Up.same (gi.new _ hq)
      exact h3 _ _ μ3 (u.trans u4) (S3.same (gi.new _ hq)) ⟨q,_,rfl,SqT.of aK,ax.up u4 (r.cut l k)⟩
 |ref n=>
  dsimp only at h3
  obtain⟨c,ec,rfl⟩:=d3
  have fin:∀{xs:List M3.D} {vs:List V},SqL X.K H3 c vs->ax X.K H3 μ3 xs vs->du T X.K μ H Q (.ref G3.length) (G3++[.lst (M3.cutD xs l k)])->Gq X.K (.ref c) l k H3 Q:=by
   intro xs vs sq r hq
   refine⟨c,vs,rfl,sq,fun q hn=>?_⟩
   have u4:=Up.new (μ:=μ3) (.lst (qd vs l k)) hn
   refine hq _ _ (μ3++[q]) (u.trans u4) (S3.new hn rfl ⟨_,aK,ax.up u4 (r.cut l k)⟩) ⟨q,?_,rfl⟩
   rw[<-S3.len];simp
  cases qn:G3[n]? with
  |none=>rw[qn]at h3;exact False.elim h3
  |some ob=>
   have od:=S3.obj n c ob ec qn
   rw[qn]at h3
   cases ob with
   |lst xs=>obtain⟨vs,e1,r⟩:=od;exact .inr (fin (SqL.of e1) r h3)
   |frz xs=>obtain⟨vs,e1,r⟩:=od;exact .inr (fin e1.sq r h3)
   |_=>exact False.elim h3
 |_=>exact False.elim h3
def Bx{c:Expr}{body:List Stmt}{f:M3.S3}(hp:PassesOwn (model X.prog X.w) X.A X.env X.xe)(hc:PT X c (tT T X.K Y ft))(hb:PSs X body (tS T X.K Y f)):PS X (.While c body [] pos) (tS T X.K Y (M3.sE ft f)):=by
 refine PS.of (Bi hp hc hb) fun D σ H ⟨μ,σ3,G,S,sd,h⟩=>?_
 have h:M3.run (M3.i0 ft f M3.sZ σ3) G (eG T X.K μ H D) (Y.x μ H):=h
 generalize M3.sZ=n at h
 refine⟨fun m σ' H'=>∃μ' σ3' G',Up μ μ' H H'/\Sim T X.K μ' H' G'/\StD X.K H' μ' σ3' σ'/\M3.run (M3.i0 ft f m σ3') G' (eG T X.K μ H D) (Y.x μ' H'),⟨n,μ,σ3,G,Up.refl _ _,S,sd,h⟩,?_⟩
 rintro m σ' H' ⟨μ',σ3',G',u',S',sd',q⟩
 cases m with
 |zero=>exact False.elim q
 |succ m=>
  refine⟨μ',σ3',G',S',sd',rh q fun b G1 H1 μ1 u1 S1 h1=>?_⟩
  cases b with
  |false=>exact h1 σ' H1 μ1 (u'.trans u1) S1 (sd'.up u1)
  |true=>
   refine⟨fun σ2 H2=>∃μ2 σ4 G2,Up μ μ2 H H2/\Sim T X.K μ2 H2 G2/\StD X.K H2 μ2 σ4 σ2/\M3.run (M3.i0 ft f m σ4) G2 (eG T X.K μ H D) (Y.x μ2 H2),fun σ2 H2 hN=>⟨m,Nat.lt_succ_self _,hN⟩,?_⟩
   refine⟨μ1,σ3',G1,S1,sd'.up u1,cD (M3.aR h1) fun p G7 q7 σ7 H7 μ7 u7 S7 sd7=>?_⟩
   obtain⟨fl,σ8⟩:=p
   have up:=(u'.trans u1).trans u7
   cases fl with
   |next=>exact⟨μ7,σ8,G7,up,S7,sd7,Y.upE u7 q7⟩
   |cont=>exact⟨μ7,σ8,G7,up,S7,sd7,Y.upE u7 q7⟩
   |brk=>exact q7 σ7 H7 μ7 up S7 sd7
   |ret d=>exact q7 σ7 H7 μ7 up S7 sd7
end
open PySem PySem.Spec PyProof.Rows L2
def Tr(h:Heap)(e:Addr)(c:Value)(t:Option (Addr×Value)):Prop:=
 ∃oe vs,h.get? e=some oe/\oe.cls=c/\oe.data= .fields vs/\match t with
  |none=>vs[1]? =some .none
  |some (g,z)=>vs[1]? =some (.ref g)/\g≠e/\∃og ts,h.get? g=some og/\og.data= .fields ts/\ts[3]? =some z
structure rU (fs:List Addr) (e:Addr) (t:Option (Addr×Value)) (g:Addr) (h h':Heap):Prop where
 same:∀b o,h.get? b=some o->b∉fs->b≠e->(∀q,t=some q->b≠q.1)->h'.get? b=some o
 plain:∀b o,h.get? b=some o->(∀ws,o.data≠.fields ws)->∃sl,h'.get? b=some {o with slots:=sl}
 head:(∃z,t=some (g,z))\/h.objs.size<=g
 size:h.objs.size<=h'.objs.size
section
variable{M:Model}{A:Around}{E:Value->Shared->Prop}{s:Shared}{base:Heap}{env:Env}{outer:List Env}{L e:Addr}{c:Value}
def qV{oe:Obj}{vs:Array Value}{hd0:Value}{hn:Bool}{Q:Unit->Shared->Prop}(hA:A.frames=some (env :: outer))(fr:s.heap.FunFrames base (env :: outer))(hL:env.frame=some L)
 (ge:s.heap.get? e=some oe) (de:oe.data= .fields vs) (z1:1 < vs.size)
 (k:∀h' g,s.heap.objs.size<=g->Tr h' e oe.cls (some (g,rawInt L))->(∀b o,s.heap.get? b=some o->b∉frs (env :: outer)->b≠e->h'.get? b=some o)->(∀b o,s.heap.get? b=some o->(∀ws,o.data≠.fields ws)->∃sl,h'.get? b=some {o with slots:=sl})->
   s.heap.objs.size<=h'.objs.size->Q () {s with heap:=h'}):
 wpAny M A (do let a <-frameOf env;let pl <-entryPlaceOf L hn;let b <-EntryCells.newEntry hd0 a .none (rawInt L) .none pl;setField (.ref e) 1 b) Q E s:=by
 have ne:e∉frs (env :: outer):=fun z=>by
  obtain⟨_,o,q,nf⟩:=fr.mem z
  rw[ge]at q
  cases q
  exact nf vs de
 refine wpAny_bind (wpAny_frameOf_fun hA fr hL fun h1 so=>?_)
 refine wpAny_bind (wpAny_entryPlaceOf fun pl ip=>?_)
 unfold EntryCells.newEntry newFields
 refine wpAny_bind (wpAny_newObj_type ?_ (ip.sizeOk5 _ _ _ _ _))
 have g1:h1.get? e=some oe:=(so.2.1 e ne).trans ge
 generalize hob:({cls:= .type "traceback",dict:=none,data:= .fields ([hd0,.ref L,.none,rawInt L,.none]++(if pl.isEmpty then List.replicate 6 Value.none else pl)).toArray}:Obj)=ob
 have dob:∃ts:Array Value,ob.data= .fields ts/\ts[3]? =some (rawInt L):=by
  rw[<-hob]
  exact⟨_,rfl,by simp⟩
 have fob:ob.isFreed=false:=by rw[<-hob];rfl
 have g2:(h1.push ob).get? e=some oe:=Heap.get?_push_of_some _ g1
 have net:h1.objs.size≠e:=Nat.ne_of_gt (Heap.lt_size g1)
 refine wpAny_setField g2 de z1 (k _ h1.objs.size (by rw[so.1];exact qO_ _) ?_ (fun b o q n1 n2=>?_) (fun b o q nf=>?_) ?_)
 · have d3:=Obj.data_mapFields de (·.setIfInBounds 1 (Value.ref h1.objs.size))
   obtain⟨ts,q1,q2⟩:=dob
   refine⟨_,_,Heap.get?_update_self _ g2 (Obj.isFreed_of_fields d3),Obj.cls_mapFields _ _,d3,by simp [z1],net,ob,ts,?_,q1,q2⟩
   rw[Heap.get?_update_other _ _ (Ne.symm net)]
   exact Heap.get?_push_size _ fob
 · rw[Heap.get?_update_other _ _ (Ne.symm n2)]
   exact Heap.get?_push_of_some _ ((so.2.1 b n1).trans q)
 · have nb:b≠e:=by
    rintro rfl
    rw[ge]at q
    cases q
    exact nf vs de
   obtain⟨sl,q1⟩:=so.2.2 b o q
   refine⟨sl,?_⟩
   rw[Heap.get?_update_other _ _ (Ne.symm nb)]
   exact Heap.get?_push_of_some _ q1
 · rw[Heap.size_after_update,Heap.size_push,so.1]
   exact Nat.le_succ _
def uE{t:Option (Addr×Value)}{Q:Unit->Shared->Prop}(hA:A.frames=some (env :: outer))(fr:s.heap.FunFrames base (env :: outer))(hL:env.frame=some L)(tr:Tr s.heap e c t)
 (k:∀h' g,rU (frs (env :: outer)) e t g s.heap h'->Tr h' e c (some (g,rawInt L))->Q () {s with heap:=h'}):wpAny M A (noteFrame (.ref e) env) Q E s:=by
 obtain⟨oe,vs,ge,ce,de,ht⟩:=tr
 subst ce
 unfold noteFrame
 simp only[hL]
 cases t with
 |none=>
  refine wpAny_bind (wpAny_field ge de ht ?_)
  rw[if_neg (by decide)]
  refine qV hA fr hL ge de (Array.getElem?_eq_some_iff.mp ht).1 fun h' g hg tr' sm pl sz=>k h' g ⟨fun b o q n1 n2 _=>sm b o q n1 n2,pl,.inr hg,sz⟩ tr'
 |some q=>
  obtain⟨g0,z⟩:=q
  obtain⟨h1,hne,og,ts,gg,dg,h3⟩:=ht
  refine wpAny_bind (wpAny_field ge de h1 ?_)
  rw[if_pos (by rfl)]
  refine wpAny_bind (wpAny_field gg dg h3 ?_)
  by_cases hz:(z==rawInt L)=true
  · rw[if_pos hz]
    have hz':z=rawInt L:=by simpa using hz
    subst hz'
    refine wpAny_pure (k s.heap g0 ⟨fun b o q _ _ _=>q,fun b o q _=>⟨o.slots,q⟩,.inl ⟨_,rfl⟩,qO_ _⟩ ⟨oe,vs,ge,rfl,de,h1,hne,og,ts,gg,dg,h3⟩)
  · rw[if_neg hz]
    refine wpAny_bind (wpAny_setField gg dg (Array.getElem?_eq_some_iff.mp h3).1 ?_)
    have oth:∀b,b≠g0->(s.heap.update g0 (Obj.mapFields (·.setIfInBounds 3 Value.none))).get? b=s.heap.get? b:=fun b n=>Heap.get?_update_other _ _ (Ne.symm n)
    have nog:∀b o,s.heap.get? b=some o->(∀ws,o.data≠.fields ws)->b≠g0:=fun b o q nf w=>by
     rw[w,gg]at q
     cases q
     exact nf ts dg
    refine qV (s:={s with heap:=s.heap.update g0 (Obj.mapFields (·.setIfInBounds 3 Value.none))}) hA (fr.of_keeps fun b o q nf=>⟨o,(oth b (nog b o q nf)).trans q,rfl⟩) hL ((oth e (Ne.symm hne)).trans ge) de (Array.getElem?_eq_some_iff.mp h1).1 fun h' g hg tr' sm pl sz=>?_
    have e0:(s.heap.update g0 (Obj.mapFields (·.setIfInBounds 3 Value.none))).objs.size=s.heap.objs.size:=Heap.size_after_update ..
    refine k h' g ⟨fun b o q n1 n2 n3=>sm b o ((oth b (n3 _ rfl)).trans q) n1 n2,fun b o q nf=>pl b o ((oth b (nog b o q nf)).trans q) nf,.inr (by rw[<-e0];exact hg),by rw[<-e0];exact sz⟩ tr'
def oW{g:Addr}{z:Value}{f:Option Addr}{Q:Unit->Shared->Prop}(tr:Tr s.heap e c (some (g,z)))
 (k:∀h',(∀b o,b≠g->s.heap.get? b=some o->h'.get? b=some o)->Tr h' e c (some (g,f.elim .none fun f=>rawInt f))->s.heap.objs.size<=h'.objs.size->(∀b o,s.heap.get? b=some o->(∀ws,o.data≠.fields ws)->h'.get? b=some o)->Q () {s with heap:=h'}):wpAny M A (setFlight (.ref e) f) Q E s:=by
 obtain⟨oe,vs,ge,ce,de,h1,hne,og,ts,gg,dg,h3⟩:=tr
 unfold setFlight
 refine wpAny_bind (wpAny_field ge de h1 ?_)
 rw[if_pos (by rfl)]
 have z3:=(Array.getElem?_eq_some_iff.mp h3).1
 refine wpAny_setField gg dg z3 (k _ (fun b o n q=>?_) ?_ ?_ fun b o q nf=>?_)
 · rw[Heap.get?_update_other _ _ (Ne.symm n)];exact q
 · have d3:=Obj.data_mapFields dg (·.setIfInBounds 3 (f.elim Value.none fun f=>rawInt f))
   exact⟨oe,vs,by rw[Heap.get?_update_other _ _ hne];exact ge,ce,de,h1,hne,_,_,Heap.get?_update_self _ gg (Obj.isFreed_of_fields d3),d3,by simp [z3]⟩
 · rw[Heap.size_after_update];exact qO_ _
 · have n:b≠g:=by
    rintro rfl
    rw[gg]at q
    cases q
    exact nf ts dg
   rw[Heap.get?_update_other _ _ (Ne.symm n)];exact q
end
def Fly(k:Heap)(H:Hp)(h:Heap)(e:Addr)(c:Value)(t:Option (Addr×Value)):Prop:=Tr h e c t/\H e=none/\k.get? e=none/\∀q,t=some q->H q.1=none/\k.get? q.1=none
def Fly.old{n m:Heap}{H:Hp}{h:Heap}{e:Addr}{c:Value}{t:Option (Addr×Value)}(f:Fly n H h e c t)(hm:∀b o,m.get? b=some o->∃o',n.get? b=some o'):Fly m H h e c t:=by
 have go:∀b,n.get? b=none->m.get? b=none:=fun b z=>by
  cases q:m.get? b with
  |none=>rfl
  |some o=>
   obtain⟨o',w⟩:=hm b o q
   rw[z]at w;cases w
 exact⟨f.1,f.2.1,go _ f.2.2.1,fun q z=>⟨(f.2.2.2 q z).1,go _ (f.2.2.2 q z).2⟩⟩
def CX1(P:Program)(w:World):CXT:=fun outer H s E x s'=>∃e H' c dx t,x= .ref e/\s'.os=s.os/\AllBare s'.gens/\Un (frs outer) [] H H' s.heap s'.heap/\HOk P w H' s'.heap/\Fly s.heap H' s'.heap e c t/\E c dx H'
def XOk(X:Cx)(E:XK):Prop:=∀σ H s e c dx t,L2.Inv X [] σ H s->Fly X.s₀.heap H s.heap e c t->E c dx H->X.xe (.ref e) s
structure Own (X:Cx):Prop where
 stk:X.stack=X.env :: X.outer
 fr:X.env.frame=some X.env.locals
 pn:X.pn=[]
 ex:X.ex=[]
section
variable{X:Cx}{σ:L2.St}{H:Hp}{s:Shared}{e:Addr}{c:Value}{t:Option (Addr×Value)}
def Inv.turn(I:L2.Inv X [] σ H s)(O:Own X)(f:Fly X.s₀.heap H s.heap e c t){g:Addr}{h':Heap}(tn:rU (frs X.stack) e t g s.heap h'):L2.Inv X [] σ H {s with heap:=h'}:=by
 obtain⟨tr,he,ne,nt⟩:=f
 have nex:∀b,b∉X.ex:=fun b z=>by rw[O.ex]at z;simp at z
 have fro:∀b,b∈frs X.stack->∃o,s.heap.get? b=some o/\∀vs,o.data≠.fields vs:=fun b hb=>(I.stack.mem hb).2
 have sub:∀b,b∈X.fs->b∈frs X.stack:=fun b hb=>by
  rw[O.stk]
  unfold frs
  rw[List.filterMap_cons,O.fr]
  exact qR_ _ hb
 have older:∀b o,X.s₀.heap.get? b=some o->b≠e/\(∀q,t=some q->b≠q.1)/\b≠X.env.locals:=fun b o q=>
  ⟨fun z=>(by rw[z,ne]at q;cases q),fun p w z=>(by rw[z,(nt p w).2]at q;cases q),Nat.ne_of_lt (qd_ (Heap.lt_size q) I.ok.above)⟩
 have cel:∀{d:Addr} {v:Option Value},s.heap.IsCell d v->h'.IsCell d v:=fun {d v} ⟨o,q,dd⟩=>by
  obtain⟨sl,z⟩:=tn.plain d o q fun ws w=>by rw[dd]at w;cases w
  exact⟨_,z,dd⟩
 refine⟨I.ok,I.os,I.bare,⟨fun b o q n nf nx=>?_,fun b o q n hf nx=>?_,I.base.free,fun b o q nx=>?_,I.base.pN,I.base.mR,I.base.pT⟩,?_,fun x d q=>?_,I.free,I.fR,fun p hp=>?_,fun b u q=>?_,I.len⟩
 · obtain⟨n1,n2,n3⟩:=older b o q
   refine tn.same b o (I.base.keep b o q n nf nx) (fun z=>?_) n1 n2
   rcases qS_.mp (I.jw b z)with w |w
   · exact n3 w
   · exact nf w
 · obtain⟨sl,q1⟩:=I.base.slot b o q n hf nx
   obtain⟨o',q2,nf⟩:=fro b (sub b hf)
   rw[q1]at q2;cases q2
   obtain⟨sl2,z⟩:=tn.plain b _ q1 nf
   exact⟨sl2,z⟩
 · obtain⟨n1,n2,n3⟩:=older b o q
   obtain⟨o1,q1⟩:=I.base.there b o q nx
   by_cases hf:b∈frs X.stack
   · obtain⟨o',q2,nf⟩:=fro b hf
     obtain⟨sl,z⟩:=tn.plain b o' q2 nf
     exact⟨_,z⟩
   · exact⟨o1,tn.same b o1 q1 hf n1 n2⟩
 · obtain⟨m,⟨o,es,ep,q,d,r⟩,hm⟩:=I.loc
   obtain⟨sl,z⟩:=tn.plain _ o q fun ws w=>by rw[d]at w;cases w
   refine⟨m,⟨_,es,ep,z,d,r⟩,fun i x v h1 h2 h3=>?_⟩
   obtain⟨u,ru,lk⟩:=hm i x v h1 h2 h3
   refine⟨u,ru,?_⟩
   rcases lk with lk |⟨k,d',hd,ic⟩
   · exact .inl lk
   · exact .inr ⟨k,d',hd,cel ic⟩
 · obtain⟨v,w⟩:=I.cell x d q
   exact⟨v,cel w⟩
 · rw[O.pn]at hp;simp at hp
 · refine(I.hok b u q).gH (fun d v hc w=>?_) (fun _ z=>z) fun _ _ z=>z
   have hd:∃u',H d=some u':=by
    rcases hc with z |z
    · rw[z];exact⟨u,q⟩
    · exact⟨_,z⟩
   obtain⟨u',hu'⟩:=hd
   refine tn.same d v w (fun z=>?_) (fun z=>?_) fun p y z=>?_
   · rw[I.oz d z]at hu';cases hu'
   · rw[z,he]at hu';cases hu'
   · rw[z,(nt p y).1]at hu';cases hu'
def Fly.turn(I:L2.Inv X [] σ H s)(f:Fly X.s₀.heap H s.heap e c t){g:Addr}{z:Value}{h':Heap}{fs:List Addr}(tn:rU fs e t g s.heap h')(tr:Tr h' e c (some (g,z))):Fly X.s₀.heap H h' e c (some (g,z)):=by
 refine⟨tr,f.2.1,f.2.2.1,fun q w=>?_⟩
 cases w
 rcases tn.head with ⟨y,w⟩ |w
 · exact f.2.2.2 (g,y) w
 · exact⟨I.hok.fresh w,Heap.get?_none_of_le (Nat.le_trans I.sz w)⟩
def AM{M:Model}{A:Around}{EE:Value->Shared->Prop}{Q:Unit->Shared->Prop}(O:Own X)(hA:A.frames=some X.stack)(I:L2.Inv X [] σ H s)(f:Fly X.s₀.heap H s.heap e c t)
 (k:∀h' g,L2.Inv X [] σ H {s with heap:=h'}->Fly X.s₀.heap H h' e c (some (g,rawInt X.env.locals))->Q () {s with heap:=h'}):wpAny M A (noteFrame (.ref e) X.env) Q EE s:=by
 have fr:=I.stack
 rw[O.stk]at fr hA
 refine uE hA fr O.fr f.1 fun h' g tn tr=>k h' g (Inv.turn I O f (by rw[O.stk];exact tn)) (Fly.turn I f tn tr)
def vd{M:Model}{A:Around}{EE:Value->Shared->Prop}{Q:Unit->Shared->Prop}{g:Addr}{z:Value}{fo:Option Addr}(O:Own X)(I:L2.Inv X [] σ H s)(f:Fly X.s₀.heap H s.heap e c (some (g,z)))
 (k:∀h',L2.Inv X [] σ H {s with heap:=h'}->Fly X.s₀.heap H h' e c (some (g,fo.elim .none fun f=>rawInt f))->Q () {s with heap:=h'}):wpAny M A (setFlight (.ref e) fo) Q EE s:=
 oW f.1 fun h' sm tr sz pl=>k h' (Inv.turn (g:=g) I O f ⟨fun b o q _ _ n=>sm b o (n _ rfl) q,fun b o q nf=>⟨o.slots,pl b o q nf⟩,.inl ⟨_,rfl⟩,sz⟩) ⟨tr,f.2.1,f.2.2.1,fun q w=>by cases w;exact f.2.2.2 (g,z) rfl⟩
def yM{E:XK}(O:Own X)(h:XOk X E):eQ (CX1 X.prog X.w) X E:=by
 rintro pins σ H s x s' I ⟨e,H',c,dx,t,rfl,os,bare,un,hok,f,q⟩
 have I':L2.Inv X pins σ H' s':=I.zy (ch:=[]) os un hok bare (fun b z=>absurd z (by simp))
 have I0:L2.Inv X [] σ H' s':=I'.ou fun p hp=>absurd hp (by simp)
 exact h σ H' s' e c dx t I0 (f.old fun b o z=>I.base.there b o z (by rw[O.ex];simp)) q
end
def jJ{P:Program}{w:World}{K:PySem.W.Frag}{mg:Str->Option Value}{base:Heap}{N:List Str}{qual:Str}{scope:Scope}{fa:Addr}{cd:Value}{A:Around}{outer:List Env}{s:Shared}{H:Hp}{E:XK}:
 XOk (k9 (CX1 P w) P w K mg base N qual scope fa cd A outer s H E) E:=by
 intro σ H' s' e c dx t I f q
 have O:Own (k9 (CX1 P w) P w K mg base N qual scope fa cd A outer s H E):=⟨rfl,rfl,rfl,rfl⟩
 show wpAny _ _ (leaving _ _) _ _ _
 unfold leaving
 refine wpAny_bind (AM O I.ok.frames I f fun h1 g I1 f1=>?_)
 refine vd O I1 f1 fun h2 I2 f2=>?_
 exact⟨e,H',c,dx,_,rfl,I2.os,I2.bare,I2.base,I2.hok,f2,q⟩
def jZ{CX:CXT}{P:Program}{w:World}{K:PySem.W.Frag}{mg:Str->Option Value}{base:Heap}{N:List Str}{qual:Str}{scope:Scope}{fa:Addr}{cd:Value}{A:Around}{outer:List Env}{s:Shared}{H:Hp}{E:XK}:
 Own (k9 CX P w K mg base N qual scope fa cd A outer s H E):=⟨rfl,rfl,rfl,rfl⟩
def uv{CX:CXT}{P:Program}{w:World}{K:PySem.W.Frag}{mg:Str->Option Value}{base:Heap}{N:List Str}{qual:Str}{scope:Scope}{fa:Addr}{cd:Value}{A:Around}{outer:List Env}{s:Shared}{H:Hp}{E:XK}:
 PassesOwn (model P w) (k9 CX P w K mg base N qual scope fa cd A outer s H E).A (k9 CX P w K mg base N qual scope fa cd A outer s H E).env (k9 CX P w K mg base N qual scope fa cd A outer s H E).xe:=by
 intro x s' h
 have h:wpAny (model P w) (A.deeper (envOfC qual scope s.heap.objs.size fa cd)) (leaving (envOfC qual scope s.heap.objs.size fa cd) x) (fun _ s''=>CX outer H s E x s'') (fun e' s''=>CX outer H s E e' s'') s':=h
 exact PassesOwn.leaving (Q₁:=fun x s''=>CX outer H s E x s'') x s' h
section
variable{T:Tab}
def fI{P:Program}{w:World}{K:PySem.W.Frag}{mg:Str->Option Value}{base:Heap}{x qual:Str}{st:Stmt}{fa:Addr}{fd:FuncData}{N ps:List Str}{k n:Nat}{pad:M3.St}{body:M3.S3}(F:Fun K x qual st fa fd)(S:av N ps (ai st))
 (hn:ps.length=n) (hpad:pad=List.replicate (N.length - n) none)
 (h:∀(cdv:Value) (A:Around) (outer:List Env) (s:Shared) (H:Hp) (E:XK),dq k (A.deeper (envOfC qual (ai st) s.heap.objs.size fa cdv))->PSs (k9 (CX1 P w) P w K mg base N qual (ai st) fa cdv A outer s H E) (gO st) (tS T K (EX.of T K E) body)):
 aT P w K mg base (CX1 P w) (k+1) fa fd ps (sp3 T K n (M3.fnM n pad body)):=by
 obtain⟨oc,od,kV,doc,pm,an,cdv,ct,osl,rfl,lk,hcd⟩:=F.ex
 refine Di lk hcd S (fun vs H Q E q=>by rw[hn];exact q.1) fun A outer s H vs Q E hr q=>⟨_,h cdv A outer s H E hr,?_⟩
 obtain⟨hl,μ,ds,G,Sm,d,q⟩:=q
 unfold M3.fnM at q
 obtain⟨c,q⟩:=ju q
 have e1:L2.start N vs=vs.map some++List.replicate (N.length - n) none:=by unfold L2.start;rw[hl]
 rw[e1]
 refine⟨μ,_,G,Sm,by rw[hpad];exact StD.start _ d,cD (M3.aR q) fun r G1 q1 σ' H' μ' u S' sd'=>?_⟩
 obtain⟨fl,σ2⟩:=r
 cases fl with
 |next=>exact q1 .non H' μ' u S' rfl
 |brk=>exact False.elim q1
 |cont=>exact False.elim q1
 |ret d=>exact fun v dv=>q1 v H' μ' u S' dv
end
def bR.at{P:Program}{w:World}{H:Hp}{h:Heap}{a:Addr}{o:HO}(x:bR P w H h a o):∃u,h.get? a=some u:=by
 cases o with
 |lst xs=>obtain⟨_,_,_,_,z⟩:=x;exact⟨_,z⟩
 |tup xs=>
  obtain⟨_,_,_,z⟩:=x
  obtain⟨u,z,_⟩:=z
  exact⟨u,z⟩
 |dK kvs=>obtain⟨_,_,_,_,_,_,_,z,_⟩:=x;exact⟨_,z⟩
 |dT kvs=>obtain⟨_,_,_,_,_,_,_,z,_⟩:=x;exact⟨_,z⟩
 |set S n=>obtain⟨_,_,_,_,z,_⟩:=x;exact⟨_,z⟩
 |ins C dx fs=>obtain⟨_,_,_,z,_⟩:=x;exact⟨_,z⟩
 |own y=>exact x
 |xd fs=>obtain⟨_,⟨_,_,_,z,_⟩,_⟩:=x;exact⟨_,z⟩
 |rng lo hi=>obtain⟨_,_,_,z⟩:=x;exact⟨_,z⟩
 |frz ob u=>exact⟨_,x.1⟩
 |tbl ps=>exact⟨_,x⟩
 |met f y=>exact⟨_,x⟩
 |ext φ=>exact x.2.1
def veM:List Value:=[.type "ValueError",.type "Exception",.type "BaseException",.type "object"]
structure XCl (K:PySem.W.Frag) (mg:Str->Option Value) (x:Str) (C:Addr):Prop where
 bd:mg x=some (.ref C)
 ex:PySem.W.excIn K C veM "ValueError.__new__"=true
def XCl.obj{K:PySem.W.Frag}{mg:Str->Option Value}{x:Str}{C:Addr}(z:XCl K mg x C){h₁:Heap}(X₁:K.In h₁):
 ∃bm N nm q bs hdct sn sub ab col dd k0 k1 k2 k3 k5 mN,∀h:Heap,K.In h->h.get? C=some (excClassObj nm q C N bs bm hdct sn sub ab col dd k0 k1 k2 k3 k5 "ValueError.__new__")/\h.Ns N mN/\mN "__init__"=none/\OwnTail h veM bm:=by
 have q:=z.ex
 unfold PySem.W.excIn at q
 split at q
 case h_2=>cases q
 rename_i dd cd sl at_
 split at q
 case h_2=>cases q
 rename_i C' bm k0 k1 k2 k3 n k5 em es
 simp only[Bool.and_eq_true,beq_iff_eq,Bool.not_eq_true']at q
 obtain⟨⟨⟨⟨⟨e1,e2⟩,e3⟩,e4⟩,e5⟩,e6⟩:=q
 subst e1 e2
 obtain⟨nm,bs,mro,ns,qn,hd,sn,sub,ab,col,del⟩:=cd
 have em:mro= .ref C' :: bm:=em
 have e3:del=false:=e3
 subst em e3
 have e7:sl=#[k0,k1,k2,k3,some (.builtin "ValueError.__new__"),k5]:=by
  cases sl with
  |mk l=>exact congrArg Array.mk es
 subst e7
 have n1:h₁.Ns ns (h₁.nsMap ns):= .of_isNs (PySem.W.isNs_of_in X₁ e5)
 refine⟨bm,ns,nm,qn,bs,hd,sn,sub,ab,col,dd,k0,k1,k2,k3,k5,h₁.nsMap ns,fun h Xh=>⟨Xh _ _ at_,?_,PySem.W.nsMap_none_of_in X₁ e5 e6,PySem.W.tail_of_in Xh e4⟩⟩
 refine n1.at fun o eo=>?_
 have e5:=e5
 unfold PySem.W.nsOkIn at e5
 split at e5
 case h_2=>cases e5
 rename_i lk
 have:=X₁ _ _ lk
 rw[eo]at this
 cases this
 exact Xh _ _ lk
section
variable{X:Cx}{T:Tab}{E:XK}
def AE{σ:L2.St}{H:Hp}{s:Shared}{pins:List (Addr×Obj)}{h':Heap}{e C:Addr}{us:List Value}{dx:Option Addr}(O:Own X)(ok:XOk X E)(I:L2.Inv X pins σ H s)(m:Heap.MadeExcOf s.heap h' e (.ref C) us)(q:E (.ref C) dx H):X.xe (.ref e) {s with heap:=h'}:=by
 have I1:L2.Inv X pins σ H {s with heap:=h'}:=I.kept (t':=s.toks) m.keeps
 have I0:L2.Inv X [] σ H {s with heap:=h'}:=I1.ou fun p hp=>absurd hp (by simp)
 obtain⟨t,g,_,_⟩:=m.there
 refine ok σ H _ e (.ref C) dx none I0 ⟨⟨_,_,g,rfl,rfl,rfl⟩,?_,?_,fun q z=>nomatch z⟩ q
 · cases z:H e with
   |none=>rfl
   |some u=>
    obtain⟨u',w⟩:=bR.at (I.hok e u z)
    rw[m.new]at w;cases w
 · cases z:X.s₀.heap.get? e with
   |none=>rfl
   |some o=>
    obtain⟨o',w⟩:=I.base.there e o z (by rw[O.ex];simp)
    rw[m.new]at w;cases w
variable{x:Str}{np cpos pos:Pos}{e0:Expr}{es:List Expr}{fa:M3.A3}{c:Nat}{C:Addr}
def y_raise(O:Own X)(ok:XOk X E)(hh:X.A.handled=none)(k:XCl X.K X.mg x C)(hc:T.cls c=some C)(ha:PA X (e0 :: es) (tA T X.K (EX.of T X.K E) fa))(hg:Gl X x:=by rfl)(hdb:(x==("__debug__":Str))=false:=by decide)
 (he:starEach (e0 :: es) X.env=(false,eval e0 X.env) :: starEach es X.env:=by rfl) (hpl:(backTo cpos (starEach es X.env)).any (·.1)=false:=by rfl):PS X (.Raise (some (.Call (.Name x np) (e0 :: es) [] cpos)) none pos) (tS T X.K (EX.of T X.K E) (M3.lj c fa)):=by
 intro pins s σ H D I ⟨μ,σ3,G,S,sd,h⟩
 obtain⟨bm,N,nm,q,bs,hdct,sn,sub,ab,col,dd,k0,k1,k2,k3,k5,mN,hk⟩:=k.obj I.kIn
 obtain⟨hC,hN,hni,tl⟩:=hk s.heap I.kIn
 have hbase:bm.contains (.type "BaseException")=true:=tl.hasType (by decide)
 refine wpAny_Raise_call_subT (C:=C) (nm:=nm) (q:=q) (N:=N) (bs:=bs) (bm:=bm) (hdct:=hdct) (sn:=sn) (sub:=sub) (ab:=ab) (col:=col) (dd:=dd) (k0:=k0) (k1:=k1) (k2:=k2) (k3:=k3) (k5:=k5) (bmB:=veM) PySem.F.excBase_ValueError (mN:=mN) hbase hh
  (by rw[he];show (false||(backTo cpos (starEach es X.env)).any (·.1))=false;rw[hpl];rfl) hni (ku I hg k.bd ⟨rfl,?_⟩ hdb)
 have key:=ha cpos pins s σ H (fun vs H1=>vs.length<=sizeLine/\∃dx,E (.ref C) dx H1) I ⟨μ,σ3,G,S,sd,nA h fun ds G1 vs H1 μ1 u1 S1 d1 h1=>?_⟩
 · rw[he]at key ⊢
   refine Calls.evalArgs_plain (thn key fun us s2 ⟨vs,H1,I1,r1,hl,dx,q1⟩=>?_)
   obtain⟨hC',hN',hni',tl'⟩:=hk s2.heap I1.kIn
   exact⟨rfl,by rw[<-r1.length];exact hl,hC',hN',tl',fun h' e m=>AE O ok I1 m q1⟩
 · obtain⟨hl,h1⟩:=ju h1
   exact⟨by rw[<-d1.length,<-bX];exact hl,none,h1 C none H1 μ1 hc (Up.refl _ _) S1⟩
end
theorem jD{α β:Type} [BEq α] [LawfulBEq α]:∀{l:List (α×β)} {a:α} {b:β},l.lookup a=some b->(a,b)∈l
 | [],_,_,h=>by cases h
 |(c,d) :: r,a,b,h=>by
  rw[List.lookup_cons]at h
  cases q:a==c with
  |true=>
   rw[q]at h
   cases h
   rw[eq_of_beq q]
   exact qI_
  |false=>
   rw[q]at h
   exact qR_ _ (jD h)
def Blk.of{X:Cx}{x:Str}{caps:List (Str×Nat)}{scope:Scope}{cl:List (Str×Addr)}(kind:scope.kind= .function)(h1:(scope.names.all fun y=>decide (y.2≠.cell))=true)
 (h2:(scope.names.all fun y=>decide (y.2= .local->scope.names.lookup y.1=some .local))=true) (own:scope.names.lookup x=some .local) (B4:closureFor scope X.env=pure cl) (nd:(x :: caps.map (·.1)).Nodup)
 (sub:(cl.map fun p=>X.env.cells.lookup p.1)=cl.map fun p=>some p.2) (has:((relabel scope X.env).names.all fun p=>decide ((p.2= .cell\/p.2= .free)->(cl.lookup p.1).isSome=true))=true) (nox:cl.lookup x=none)
 (cap1:(caps.map fun p=>X.N[p.2]?)=caps.map fun p=>some p.1) (cap2:(caps.all fun p=>decide ((X.env.kindOf p.1=some .cell\/X.env.kindOf p.1=some .free)/\((relabel scope X.env).names.lookup p.1=some .cell\/(relabel scope X.env).names.lookup p.1=some .free)))=true):Blk X x caps scope cl:=by
 refine⟨kind,fun y hy=>of_decide_eq_true (List.all_eq_true.mp h1 y hy),fun y hy=>of_decide_eq_true (List.all_eq_true.mp h2 y hy),own,B4,nd,fun y c e=>?_,fun y hy=>?_,nox,fun j y i e=>?_⟩
 · have m:=jD e
   obtain⟨j,hj,e1⟩:=List.getElem_of_mem m
   have e2:=congrArg (·[j]?) sub
   simp only[qQ_,qA_ hj,e1,Option.map_some]at e2
   exact Option.some.inj e2
 · have go:∀k,(relabel scope X.env).names.lookup y=some k->(k= .cell\/k= .free)->∃c,cl.lookup y=some c:=fun k hk hz=>
    Option.isSome_iff_exists.mp (of_decide_eq_true (List.all_eq_true.mp has _ (jD hk)) hz)
   rcases hy with z |z
   · exact go _ z (.inl rfl)
   · exact go _ z (.inr rfl)
 · have hm:(y,i)∈caps:=qD_ e
   obtain⟨q1,q2⟩:=of_decide_eq_true (List.all_eq_true.mp cap2 _ hm)
   refine⟨?_,q1,q2⟩
   have e2:=congrArg (·[j]?) cap1
   simp only[qQ_,e,Option.map_some]at e2
   exact Option.some.inj e2
def ye{Z:Nat->M3.Hh->Prop}{n:Nat}{y:M3.D}{G:M3.Hh}{P:M3.D->M3.Hh->Prop}(h:M3.run (M3.jg (.ref n) y) G P Z):∃m xs ys,y= .ref m/\G[n]? =some (.lst xs)/\G[m]? =some (.lst ys)/\xs.length+ys.length<=M3.aC/\P .non (G.set n (.lst (xs++ys))):=by
 unfold M3.run M3.jg at h
 cases y with
 |ref m=>
  dsimp only at h
  cases q:G[n]? with
  |none=>rw[q]at h;exact False.elim h
  |some o=>
   rw[q]at h
   cases q2:G[m]? with
   |none=>rw[q2]at h;cases o <;> exact False.elim h
   |some o2=>
    rw[q2]at h
    cases o with
    |lst xs=>
     cases o2 with
     |lst ys=>
      dsimp only at h
      by_cases c:xs.length+ys.length<=M3.aC
      · rw[if_pos c]at h;exact⟨m,xs,ys,rfl,rfl,q2,c,h⟩
      · rw[if_neg c]at h;exact False.elim h
     |_=>exact False.elim h
    |_=>exact False.elim h
 |_=>exact False.elim h
def zh{Z:Nat->M3.Hh->Prop}{n:Nat}{y:M3.D}{G:M3.Hh}{P:M3.D->M3.Hh->Prop}(h:M3.run (M3.lc (.ref n) y) G P Z):∃i xs k z,y= .int i/\G[n]? =some (.lst xs)/\M3.ixN xs.length i=some k/\xs[k]? =some z/\-(2 ^ 62)<=i/\i < 2 ^ 62/\P z (G.set n (.lst (xs.eraseIdx k))):=by
 unfold M3.run M3.lc at h
 cases y with
 |int i=>
  dsimp only at h
  cases q:G[n]? with
  |none=>rw[q]at h;exact False.elim h
  |some o=>
   rw[q]at h
   cases o with
   |lst xs=>
    dsimp only at h
    cases qk:M3.ixN xs.length i with
    |none=>rw[qk]at h;exact False.elim h
    |some k=>
     rw[qk]at h
     dsimp only at h
     cases qz:xs[k]? with
     |none=>rw[qz]at h;exact False.elim h
     |some z=>
      rw[qz]at h
      dsimp only at h
      by_cases c:-(2 ^ 62)<=i/\i < 2 ^ 62
      · rw[if_pos c]at h;exact⟨i,xs,k,z,rfl,rfl,qk,qz,c.1,c.2,h⟩
      · rw[if_neg c]at h;exact False.elim h
   |_=>exact False.elim h
 |_=>exact False.elim h
theorem ax.erase{K:PySem.W.Frag}{μ:List Addr}{H:Hp}:∀{ds:List M3.D} {vs:List V} (k:Nat),ax K H μ ds vs->ax K H μ (ds.eraseIdx k) (vs.eraseIdx k)
 | [],vs,k,h=>by cases (show vs=[]from h);simp [ax]
 |_ :: ds,_,0,⟨v,r,e,h,t⟩=>by subst e;exact t
 |_ :: ds,_,k+1,⟨v,r,e,h,t⟩=>by subst e;exact⟨v,r.eraseIdx k,rfl,h,ax.erase k t⟩
section
variable{X:Cx}{T:Tab}{Y:EX}{o e:Expr}{fa fb:M3.E3}{pos apos:Pos}
def mE(ho:PE X o (tE T X.K Y fa))(he:PE X e (tE T X.K Y fb))
 (hbase:attributeBase o "extend" X.env (eval o X.env)=eval o X.env:=by rfl)
 (hfew:((backTo pos (starEach (e :: []) X.env)).all (fun x=>!x.1)&&(backToKw pos (keywordEach [] X.env)).all (fun x=>x.1.isSome)&&decide ((e :: ([]:List Expr)).length+([]:List Keyword).length+(if ([]:List Keyword).isEmpty then 0 else 1) < 30))=true:=by rfl)
 (hline:(apos.endLine==pos.line)=true:=by rfl) (hs:starEach (e :: []) X.env=(false,eval e X.env) :: starEach [] X.env:=by rfl) (hplain:(backTo pos (starEach [] X.env)).any (·.1)=false:=by rfl):
 PE X (.Call (.Attribute o "extend" apos) [e] [] pos) (tE T X.K Y (M3.tN fa fb)):=by
 refine PE.of (z9 PySem.F.plainAttrs_list PySem.F.slot_list_extend PySem.F.type_list_extend yx ho (gY he lx hs) hbase hfew hline hs hplain) fun σ H Q ⟨μ,σ3,G,S,sd,h⟩=>⟨μ,σ3,G,S,sd,bq h fun d G1 v H1 μ1 u1 S1 d1 h1=>?_⟩
 obtain⟨n,xs,rfl,q,h1⟩:=vD (M3.aR h1)
 obtain⟨a,ea,rfl⟩:=id d1
 obtain⟨vs,e1,r1⟩:=S1.obj n a _ ea q
 refine⟨.inl ⟨rfl,vs,SqL.of e1⟩,μ1,σ3,G1,S1,sd.up u1,bq h1 fun y G2 w H2 μ2 u2 S2 d2 h2=>?_⟩
 obtain⟨m,xs2,ys2,rfl,q2,q3,hl,h3⟩:=ye h2
 have ea2:=u2.at ea
 obtain⟨b,eb,rfl⟩:=id d2
 obtain⟨vs2,e2,r2⟩:=S2.obj n a _ ea2 q2
 obtain⟨ws2,e3,r3⟩:=S2.obj m b _ eb q3
 have up:=Up.set S2 (.lst (vs2++ws2)) ea2 q2 rfl
 refine⟨a,b,vs2,ws2,rfl,rfl,e2,e3,by rw[<-r2.length,<-r3.length,<-bX];exact hl,?_⟩
 exact h3 _ _ μ2 ((u1.trans u2).trans up) (S2.set ea2 q2 rfl rfl ⟨_,aK,ax.up up (r2.append r3)⟩) rfl
def wH(ho:PE X o (tE T X.K Y fa))(he:PE X e (tE T X.K Y fb))
 (hbase:attributeBase o "pop" X.env (eval o X.env)=eval o X.env:=by rfl)
 (hfew:((backTo pos (starEach (e :: []) X.env)).all (fun x=>!x.1)&&(backToKw pos (keywordEach [] X.env)).all (fun x=>x.1.isSome)&&decide ((e :: ([]:List Expr)).length+([]:List Keyword).length+(if ([]:List Keyword).isEmpty then 0 else 1) < 30))=true:=by rfl)
 (hline:(apos.endLine==pos.line)=true:=by rfl) (hs:starEach (e :: []) X.env=(false,eval e X.env) :: starEach [] X.env:=by rfl) (hplain:(backTo pos (starEach [] X.env)).any (·.1)=false:=by rfl):
 PE X (.Call (.Attribute o "pop" apos) [e] [] pos) (tE T X.K Y (M3.sA fa fb)):=by
 refine PE.of (z9 PySem.F.plainAttrs_list PySem.F.slot_list_pop PySem.F.type_list_pop AV ho (gY he lx hs) hbase hfew hline hs hplain) fun σ H Q ⟨μ,σ3,G,S,sd,h⟩=>⟨μ,σ3,G,S,sd,bq h fun d G1 v H1 μ1 u1 S1 d1 h1=>?_⟩
 obtain⟨n,xs,rfl,q,h1⟩:=vD (M3.aR h1)
 obtain⟨a,ea,rfl⟩:=id d1
 obtain⟨vs,e1,r1⟩:=S1.obj n a _ ea q
 refine⟨.inl ⟨rfl,vs,SqL.of e1⟩,μ1,σ3,G1,S1,sd.up u1,bq h1 fun y G2 w H2 μ2 u2 S2 d2 h2=>?_⟩
 obtain⟨i,xs2,k,z,rfl,q2,qk,qz,hi,hj,h3⟩:=zh h2
 have ea2:=u2.at ea
 obtain⟨vs2,e2,r2⟩:=S2.obj n a _ ea2 q2
 obtain⟨zv,ez,dz⟩:=r2.get qz
 rw[r2.length]at qk
 have sq:=sX (show L2.ixN vs2.length i=some k from qk)
 have up:=Up.set S2 (.lst (vs2.eraseIdx k)) ea2 q2 rfl
 have ei:w=V.int i:=d2
 subst ei
 refine⟨a,vs2,i,k,zv,rfl,rfl,e2,by omega,by omega,sq.1,ez,?_⟩
 exact h3 _ _ μ2 ((u1.trans u2).trans up) (S2.set ea2 q2 rfl rfl ⟨_,aK,ax.up up (ax.erase k r2)⟩) (Den.up up dz)
end
theorem pC:∀{kvs:List (L2.Key×V)} {vs:List (L2.Key×Value)},KV kvs vs->Vals (kvs.map (·.2)) (vs.map (·.2))
 |_,_,.nil=>.nil
 |_,_,.cons r t=>.cons r.2 (pC t)
section
variable{X:Cx}{T:Tab}{Y:EX}{o:Expr}{fa:M3.E3}{p pos apos ipos:Pos}
def tw{to:TE}(hc:X.A.handled=none)(ho:PE X o to)(hm:X.mg "list"=none)(hg:Gl X "list":=by rfl)
 (hbase:attributeBase o "values" X.env (eval o X.env)=eval o X.env:=by rfl) (hline:(apos.endLine==ipos.line)=true:=by rfl)
 (he:starEach [.Call (.Attribute o "values" apos) [] [] ipos] X.env=(false,eval (.Call (.Attribute o "values" apos) [] [] ipos) X.env) :: starEach [] X.env:=by rfl) (hpl:(backTo pos (starEach [] X.env)).any (·.1)=false:=by rfl):
 PE X (.Call (.Name "list" p) [.Call (.Attribute o "values" apos) [] [] ipos] [] pos) (fun σ H Q=>to σ H fun x H1=>∃a kvs,x= .ref a/\H1 a=some (.dK kvs)/\∀l,H1 l=none->Q (.ref l) (upd H1 l (.lst (kvs.map (·.2))))):=by
 intro pins s σ H Q I h
 refine wpAny_Call_Name_kw (nu I hg hm boot_list ?_ (by decide) (by decide))
 refine PyProof.Rows.callWith_type1 (Q:=EP X pins σ Q) ?_ he hpl
 rw[he]
 show wpAny _ _ (spliced ((false,eval (.Call (.Attribute o "values" apos) [] [] ipos) X.env) :: backTo pos (starEach [] X.env))) _ _ s
 refine Calls.spliced_cons ?_
 refine wpAny_Call_method0_late hbase hline (thn (ho pins s σ H _ I h) fun v s1 ⟨x,H1,I1,r1,a,kvs,e,ha,q⟩=>?_)
 subst e
 cases r1
 obtain⟨h1,h2⟩:=va I1 (x:= .ref a) rfl (T:="dict") (.inr (.inr (.inl ⟨rfl,.inl ⟨kvs,ha⟩⟩)))
 refine⟨"dict","dict.values",PySem.F.plainAttrs_dict,PySem.F.slot_dict_values,PySem.F.type_dict_values,h1,h2,Calls.callWith_builtin rfl (PySem.evalArgs_none ?_)⟩
 obtain⟨hz,hS,vs,rv,dd⟩:=zi I1.hok ha
 refine call_meetsIn PySem.F.slot_dict_values dd.typeIs PySem.F.entry_dict_values (PySem.F.args_dict_values_1 _) (meets_dict_values (bO X.prog X.w) a hS) ⟨⟨vs,dd⟩,?_⟩
 show wpAny _ _ (spliced []) _ _ _
 refine Calls.spliced_nil ?_
 have I2:L2.Inv X pins σ H1 {s1 with heap:=s1.heap.push {cls:= .type "dict_values",data:= .fields #[.ref a]}}:=I1.kept (t':=s1.toks) fun b u e=>Heap.get?_push_of_some _ e
 obtain⟨ep,hat⟩:=dd.dictAt
 refine PySem.W.kdl_call (PySem.W.kdl_values (knd:=bO X.prog X.w) (d:=a) (r:=s1.heap.objs.size) (kvs:=vs) (ep:=ep)) hc ⟨⟨_,Heap.get?_push_size _ rfl,rfl,rfl⟩,hat.push _⟩ (by rw[<-rv.length];exact hz) fun h' tk acc c' hk hS' items=>?_
 have ev:acc.toList=vs.map (·.2):=PySem.W.kdl_vals_eq acc.toList (by rw[Array.length_toList];exact items.1) fun j v e=>items.2 j v (by rw[<-Array.getElem?_toList];exact e)
 have rr:Vals (kvs.map (·.2)) acc.toList:=by rw[ev];exact pC rv
 refine⟨.ref (s1.heap.push {cls:= .type "dict_values",data:= .fields #[.ref a]}).objs.size,_,I2.laid (t':=tk) hk (qO_ _) (show bR X.prog X.w _ h' _ (.lst (kvs.map (·.2)))from⟨by rw[qM_];exact hz,acc.toList,c',rr,by rw[Array.toArray_toList];exact hS'⟩),rfl,q _ (I2.hok.fresh (qO_ _))⟩
theorem ax.CZ{K:PySem.W.Frag}{H:Hp}{μ:List Addr}:∀{kvs:List (M3.Key×M3.D)} {ws:List (L2.Key×V)},Paired (fun(p:M3.Key×M3.D) (q:L2.Key×V)=>p.1=q.1/\Den K H μ p.2 q.2) kvs ws->ax K H μ (kvs.map (·.2)) (ws.map (·.2))
 |_,_,.nil=>rfl
 |_,_,.cons r t=>⟨_,_,rfl,r.2,ax.CZ t⟩
def vt(hc:X.A.handled=none)(ho:PE X o (tE T X.K Y fa))(hm:X.mg "list"=none)(hg:Gl X "list":=by rfl)
 (hbase:attributeBase o "values" X.env (eval o X.env)=eval o X.env:=by rfl) (hline:(apos.endLine==ipos.line)=true:=by rfl)
 (he:starEach [.Call (.Attribute o "values" apos) [] [] ipos] X.env=(false,eval (.Call (.Attribute o "values" apos) [] [] ipos) X.env) :: starEach [] X.env:=by rfl) (hpl:(backTo pos (starEach [] X.env)).any (·.1)=false:=by rfl):
 PE X (.Call (.Name "list" p) [.Call (.Attribute o "values" apos) [] [] ipos] [] pos) (tE T X.K Y (M3.zE fa)):=by
 refine PE.of (tw hc ho hm hg hbase hline he hpl) fun σ H Q ⟨μ,σ3,G,S,sd,h⟩=>⟨μ,σ3,G,S,sd,bq h fun d G1 v H1 μ1 u1 S1 d1 h1=>?_⟩
 unfold M3.run M3.t8 at h1
 cases d with
 |ref n=>
  dsimp only at h1
  obtain⟨a,ea,rfl⟩:=id d1
  cases q:G1[n]? with
  |none=>rw[q]at h1;exact False.elim h1
  |some ob=>
   have od:=S1.obj n a ob ea q
   rw[q]at h1
   cases ob with
   |dK kvs=>
    obtain⟨ws,e1,r⟩:=od
    refine⟨a,ws,rfl,e1,fun l hl=>?_⟩
    have up:=Up.new (μ:=μ1) (.lst (ws.map (·.2))) hl
    exact h1 _ _ (μ1++[l]) (u1.trans up) (S1.new hl rfl ⟨_,aK,ax.up up (ax.CZ r)⟩) ⟨l,by rw[<-S1.len];simp,rfl⟩
   |_=>exact False.elim h1
 |_=>exact False.elim h1
end
def ApP(pins:List (Addr×Obj))(e:Addr)(t:Option (Addr×Value)):Prop:=∀p∈pins,p.1≠e/\∀q,t=some q->p.1≠q.1
section
variable{X:Cx}{σ:L2.St}{H:Hp}{s:Shared}{e:Addr}{c:Value}{t:Option (Addr×Value)}{pins:List (Addr×Obj)}
def Inv.Dr(I:L2.Inv X pins σ H s)(O:Own X)(f:Fly X.s₀.heap H s.heap e c t)(ap:ApP pins e t){g:Addr}{h':Heap}(tn:rU (frs X.stack) e t g s.heap h'):L2.Inv X pins σ H {s with heap:=h'}:=by
 obtain⟨tr,he,ne,nt⟩:=f
 have nex:∀b,b∉X.ex:=fun b z=>by rw[O.ex]at z;simp at z
 have fro:∀b,b∈frs X.stack->∃o,s.heap.get? b=some o/\∀vs,o.data≠.fields vs:=fun b hb=>(I.stack.mem hb).2
 have sub:∀b,b∈X.fs->b∈frs X.stack:=fun b hb=>by
  rw[O.stk]
  unfold frs
  rw[List.filterMap_cons,O.fr]
  exact qR_ _ hb
 have older:∀b o,X.s₀.heap.get? b=some o->b≠e/\(∀q,t=some q->b≠q.1)/\b≠X.env.locals:=fun b o q=>
  ⟨fun z=>(by rw[z,ne]at q;cases q),fun p w z=>(by rw[z,(nt p w).2]at q;cases q),Nat.ne_of_lt (qd_ (Heap.lt_size q) I.ok.above)⟩
 have cel:∀{d:Addr} {v:Option Value},s.heap.IsCell d v->h'.IsCell d v:=fun {d v} ⟨o,q,dd⟩=>by
  obtain⟨sl,z⟩:=tn.plain d o q fun ws w=>by rw[dd]at w;cases w
  exact⟨_,z,dd⟩
 refine⟨I.ok,I.os,I.bare,⟨fun b o q n nf nx=>?_,fun b o q n hf nx=>?_,I.base.free,fun b o q nx=>?_,I.base.pN,I.base.mR,I.base.pT⟩,?_,fun x d q=>?_,I.free,I.fR,fun p hp=>?_,fun b u q=>?_,I.len⟩
 · obtain⟨n1,n2,n3⟩:=older b o q
   refine tn.same b o (I.base.keep b o q n nf nx) (fun z=>?_) n1 n2
   rcases qS_.mp (I.jw b z)with w |w
   · exact n3 w
   · exact nf w
 · obtain⟨sl,q1⟩:=I.base.slot b o q n hf nx
   obtain⟨o',q2,nf⟩:=fro b (sub b hf)
   rw[q1]at q2;cases q2
   obtain⟨sl2,z⟩:=tn.plain b _ q1 nf
   exact⟨sl2,z⟩
 · obtain⟨n1,n2,n3⟩:=older b o q
   obtain⟨o1,q1⟩:=I.base.there b o q nx
   by_cases hf:b∈frs X.stack
   · obtain⟨o',q2,nf⟩:=fro b hf
     obtain⟨sl,z⟩:=tn.plain b o' q2 nf
     exact⟨_,z⟩
   · exact⟨o1,tn.same b o1 q1 hf n1 n2⟩
 · obtain⟨m,⟨o,es,ep,q,d,r⟩,hm⟩:=I.loc
   obtain⟨sl,z⟩:=tn.plain _ o q fun ws w=>by rw[d]at w;cases w
   refine⟨m,⟨_,es,ep,z,d,r⟩,fun i x v h1 h2 h3=>?_⟩
   obtain⟨u,ru,lk⟩:=hm i x v h1 h2 h3
   refine⟨u,ru,?_⟩
   rcases lk with lk |⟨k,d',hd,ic⟩
   · exact .inl lk
   · exact .inr ⟨k,d',hd,cel ic⟩
 · obtain⟨v,w⟩:=I.cell x d q
   exact⟨v,cel w⟩
 · obtain⟨z1,z2,z3,z4,z5⟩:=I.pin p hp
   rw[O.pn]at hp
   obtain⟨y1,y2⟩:=ap p (by simpa using hp)
   refine⟨tn.same p.1 p.2 z1 (fun z=>?_) y1 y2,z2,z3,z4,z5⟩
   rcases qS_.mp (I.jw p.1 z)with w |w
   · exact z3 w
   · exact z4 w
 · refine(I.hok b u q).gH (fun d v hc w=>?_) (fun _ z=>z) fun _ _ z=>z
   have hd:∃u',H d=some u':=by
    rcases hc with z |z
    · rw[z];exact⟨u,q⟩
    · exact⟨_,z⟩
   obtain⟨u',hu'⟩:=hd
   refine tn.same d v w (fun z=>?_) (fun z=>?_) fun p y z=>?_
   · rw[I.oz d z]at hu';cases hu'
   · rw[z,he]at hu';cases hu'
   · rw[z,(nt p y).1]at hu';cases hu'
def yq{M:Model}{A:Around}{EE:Value->Shared->Prop}{Q:Unit->Shared->Prop}(O:Own X)(hA:A.frames=some X.stack)(I:L2.Inv X pins σ H s)(f:Fly X.s₀.heap H s.heap e c t)(ap:ApP pins e t)
 (k:∀h' g,L2.Inv X pins σ H {s with heap:=h'}->Fly X.s₀.heap H h' e c (some (g,rawInt X.env.locals))->ApP pins e (some (g,rawInt X.env.locals))->Q () {s with heap:=h'}):wpAny M A (noteFrame (.ref e) X.env) Q EE s:=by
 have fr:=I.stack
 rw[O.stk]at fr hA
 have pl:∀p∈pins,p.1 < s.heap.objs.size:=fun p hp=>Heap.lt_size (I.pin p (qE_ _ hp)).1
 refine uE hA fr O.fr f.1 fun h' g tn tr=>k h' g (Inv.Dr I O f ap (by rw[O.stk];exact tn)) ?_ fun p hp=>⟨(ap p hp).1,fun q w=>?_⟩
 · refine⟨tr,f.2.1,f.2.2.1,fun q w=>?_⟩
   cases w
   rcases tn.head with ⟨y,w⟩ |w
   · exact f.2.2.2 (g,y) w
   · exact⟨I.hok.fresh w,Heap.get?_none_of_le (Nat.le_trans I.sz w)⟩
 · cases w
   rcases tn.head with ⟨y,w⟩ |w
   · exact(ap p hp).2 (g,y) w
   · exact Nat.ne_of_lt (qd_ (pl p hp) w)
def nL{M:Model}{A:Around}{EE:Value->Shared->Prop}{Q:Unit->Shared->Prop}{g:Addr}{z:Value}{fo:Option Addr}(O:Own X)(I:L2.Inv X pins σ H s)(f:Fly X.s₀.heap H s.heap e c (some (g,z)))(ap:ApP pins e (some (g,z)))
 (k:∀h',L2.Inv X pins σ H {s with heap:=h'}->Fly X.s₀.heap H h' e c (some (g,fo.elim .none fun f=>rawInt f))->ApP pins e (some (g,fo.elim .none fun f=>rawInt f))->Q () {s with heap:=h'}):wpAny M A (setFlight (.ref e) fo) Q EE s:=
 oW f.1 fun h' sm tr sz pl=>k h' (Inv.Dr (g:=g) I O f ap ⟨fun b o q _ _ n=>sm b o (n _ rfl) q,fun b o q nf=>⟨o.slots,pl b o q nf⟩,.inl ⟨_,rfl⟩,sz⟩) ⟨tr,f.2.1,f.2.2.1,fun q w=>by cases w;exact f.2.2.2 (g,z) rfl⟩ fun p hp=>⟨(ap p hp).1,fun q w=>by cases w;exact(ap p hp).2 (g,z) rfl⟩
def XP(X:Cx)(pins:List (Addr×Obj))(σ:L2.St)(E:XK)(x:Value)(s':Shared):Prop:=∃e H' c dx t,x= .ref e/\L2.Inv X pins σ H' s'/\Fly X.s₀.heap H' s'.heap e c t/\ApP pins e t/\E c dx H'
def PEx(X:Cx)(e:Expr)(t:L2.St->Hp->VK->XK->Prop):Prop:=∀(pins:List (Addr×Obj)) (s:Shared) (σ:L2.St) (H:Hp) (Q:VK) (E:XK),L2.Inv X pins σ H s->t σ H Q E->wpAny (model X.prog X.w) X.A (eval e X.env) (EP X pins σ Q) (XP X pins σ E) s
def CD{k:Nat}{f:Addr}{fd:FuncData}{ps:List Str}{sp:Sp}{Q:VK}{E:XK}{us:List Value}{vs:List V}(O:Own X)(F:aT X.prog X.w X.K X.mg X.base (CX1 X.prog X.w) k f fd ps sp)(hr:dq k X.A)(hb:Binds X.K fd ps [])
 (I:L2.Inv X pins σ H s) (r:Vals vs us) (h:sp vs H Q E):wpAny (model X.prog X.w) X.A (call (.ref f) us) (EP X pins σ Q) (XP X pins σ E) s:=by
 have hl:(us++[]).length=ps.length:=by rw[qY_,<-r.length];exact F.len _ _ _ _ h
 have hbd:=hb s us I.kIn hl
 rw[qY_]at hbd
 refine wpAny_call (codeAny_mono (F.run X.A X.stack s H ⟨us,[]⟩ us vs Q E hr I.Ed hbd r h) fun r s' hq=>?_)
 cases r with
 |error x=>
  obtain⟨e,H',c,dx,t,rfl,os,bare,un,hok,f,q⟩:=hq
  refine⟨e,H',c,dx,t,rfl,I.zy (ch:=[]) os un hok bare (fun b z=>absurd z (by simp)),f.old fun b o z=>I.base.there b o z (by rw[O.ex];simp),fun p hp=>?_,q⟩
  have live:=(I.pin p (qE_ _ hp)).1
  exact⟨fun z=>(by rw[z,f.2.2.1]at live;cases live),fun y w z=>(by rw[z,(f.2.2.2 y w).2]at live;cases live)⟩
 |ok fl=>
  cases fl with
  |ret u=>exact I.after hq
  |next=>exact False.elim hq
  |brk=>exact False.elim hq
  |cont=>exact False.elim hq
end
def tEx(T:Tab)(K:PySem.W.Frag)(f:M3.E3):L2.St->Hp->VK->XK->Prop:=fun σ H Q E=>tE T K (EX.of T K E) f σ H Q
section
variable{X:Cx}{T:Tab}{o e:Expr}{es:List Expr}{p pos apos:Pos}{fa:M3.E3}{f3:M3.A3}{k n C:Nat}{x m:Str}{g:List M3.D->M3.M M3.D}
def Hy{α:Type}{M:Model}{A:Around}{t:Sem α}{Q Q':α->Shared->Prop}{E:Value->Shared->Prop}{s:Shared}(h:wpAny M A t Q (fun _ _=>False) s)(hq:∀a s,Q a s->Q' a s):wpAny M A t Q' E s:=wpAny_mono h hq fun _ _ z=>z.elim
def CI{pl:Sem Bool}(O:Own X)(F:Mt3 X.prog X.w X.K X.mg X.base (CX1 X.prog X.w) T k C m n g)(hr:dq k X.A)(ho:∀E,PE X.nox o (tE T X.K (EX.of T X.K E) fa))(ha:∀E,PA X.nox (e :: es) (tA T X.K (EX.of T X.K E) f3))
 (hst:starEach (e :: es) X.env=(false,eval e X.env) :: starEach es X.env:=by rfl) (hpl:(backTo pos (starEach es X.env)).any (·.1)=false:=by rfl)
 (ht:eval (.Call (.Attribute o m apos) (e :: es) [] pos) X.env=(do
   let ov <-eval o X.env
   standAt apos.atName
   let (f,first) <-holding [ov] (getMethod ov m pl)
   callWith pos f first (backTo pos (starEach (e :: es) X.env)) (backToKw pos (keywordEach [] X.env))):=by rfl):
 PEx X (.Call (.Attribute o m apos) (e :: es) [] pos) (tEx T X.K (M3.aN C g fa f3)):=by
 obtain⟨Ca,f,fd,ps,hc,cl,hm,ok,hb⟩:=F.ex
 intro pins s σ H Q E I h
 have h':=uX (CX:=CX1 X.prog X.w) (P:=X.prog) (w:=X.w) (mg:=X.mg) (base:=X.base) (k:=k) hc F.no F.len h
 refine PySem.W.methodCall_KW (pl:=pl) (Hy (ho E pins s σ H _ (I.pe _) h') fun u s1 ⟨y,H1,I1,rx,a,dx,fs,ex,ea,l,q⟩=>?_) ht
 subst ex
 obtain rfl:u=Value.ref a:=rx
 have J1:=I1.gE
 refine lI J1 ea cl hm l ?_
 refine PySem.W.callWith_K (first:=[.ref a]) (h₀:=X.base) I.ok.mod.kin hm.kp (Hy (ha E pos pins s1 σ H1 _ I1 q) fun us s2 ⟨vs,H2,I2,r,q2⟩=>⟨I2.gE.kIn,?_⟩) hst hpl
 have q2:sp3 T X.K n g (V.ref a :: (vs++[])) H2 Q E:=q2
 rw[qY_]at q2
 exact CD (us:= .ref a :: us) (vs:= .ref a :: vs) O ok hr hb I2.gE (.cons rfl r) q2
def mkX(X:Cx)(e:Addr):Cx:={X with A:=X.A.mark (some (.ref e)),calm:=false,xe:=fun _ _=>False}
def Inv.mk'{pins:List (Addr×Obj)}{σ:L2.St}{H:Hp}{s:Shared}{e:Addr}(I:L2.Inv X pins σ H s):L2.Inv (mkX X e) pins σ H s:=
 have ok:=I.ok
 ⟨⟨ok.mod,ok.kind,ok.glob,ok.blt,ok.above,ok.inj,ok.has,ok.cab,(fun z=>nomatch z),ok.frames,ok.stk,ok.exf,ok.bs,ok.bsz,ok.vA,ok.xP,ok.mf,ok.frf⟩,I.os,I.bare,I.base,I.loc,I.cell,I.free,I.fR,I.pin,I.hok,I.len⟩
def Inv.yt{pins:List (Addr×Obj)}{σ:L2.St}{H:Hp}{s:Shared}{e:Addr}(ok:X.Ok)(I:L2.Inv (mkX X e) pins σ H s):L2.Inv X pins σ H s:=
 ⟨ok,I.os,I.bare,I.base,I.loc,I.cell,I.free,I.fR,I.pin,I.hok,I.len⟩
theorem SP.yt{pins:List (Addr×Obj)}{D:Ends}{f:Flow}{s':Shared}{e:Addr}(ok:X.Ok)(h:SP (mkX X e) pins D f s'):SP X pins D f s':=by
 cases f with
 |next=>obtain⟨σ',H',I,q⟩:=h;exact⟨σ',H',Inv.yt ok I,q⟩
 |brk=>obtain⟨σ',H',I,q⟩:=h;exact⟨σ',H',Inv.yt ok I,q⟩
 |cont=>obtain⟨σ',H',I,q⟩:=h;exact⟨σ',H',Inv.yt ok I,q⟩
 |ret u=>obtain⟨v,σ',H',I,r,q⟩:=h;exact⟨v,σ',H',Inv.yt ok I,r,q⟩
end
inductive Hs (X:Cx) (T:Tab) (Y:EX):List ExceptHandler->List ((Nat->Bool)×M3.S3)->Prop
 |nil:Hs X T Y [] []
 |cons {x:Str} {px pos:Pos} {cv:Value} {m:Nat->Bool} {b:Stmt} {body:List Stmt} {f:M3.S3} {hs:List ExceptHandler} {ms:List ((Nat->Bool)×M3.S3)} (hx:X.mg x=some cv) (hg:Gl X x) (hdb:(x==("__debug__":Str))=false)
   (hm:∀c Ca,T.cls c=some Ca->PySem.W.exmOne X.K (.ref Ca) cv=some (m c)) (hb:∀e,PSs (mkX X e) (b :: body) (tS T X.K Y f)) (r:Hs X T Y hs ms):Hs X T Y (.ExceptHandler (some (.Name x px)) none (b :: body) pos :: hs) ((m,f) :: ms)
section
variable{X:Cx}{T:Tab}{Y:EX}{pins:List (Addr×Obj)}{σ:L2.St}{H:Hp}
def handle(O:Own X){D:Ends}{c:Nat}{Ca:Addr}{e:Addr}(hc:T.cls c=some Ca):∀{hs:List ExceptHandler} {ms:List ((Nat->Bool)×M3.S3)},Hs X T Y hs ms->∀{f:M3.S3},M3.pick c ms=some f->
 ∀{s:Shared} {g:Addr} {z:Value},L2.Inv X pins σ H s->Fly X.s₀.heap H s.heap e (.ref Ca) (some (g,z))->ApP pins e (some (g,z))->tS T X.K Y f D σ H->wpAny (model X.prog X.w) X.A (handleBy (.ref e) X.env hs) (SP X pins D) X.xe s:=by
 intro hs ms hh
 induction hh with
 |nil=>intro f hf;cases hf
 |@cons x px pos cv m b body f0 hs ms hx hg hdb hm hb r ih=>
  intro f hf s g z I fl ap ht
  refine wpAny_handleBy_cons (codeAny_handlers_test ?_) (by intro q;cases q)
  refine ku (X:=mkX X e) (Inv.mk' I) hg hx ?_ hdb
  have lt:PySem.W.Looks (model X.prog X.w) s.heap (typeOf (.ref e)) (.ref Ca):=by
   obtain⟨oe,vs,ge,ce,de,_⟩:=fl.1
   rw[<-ce]
   exact(PySem.W.Looks.ld ge).andThen .now
  refine PySem.W.exm_one I.kIn lt (hm c Ca hc) _ _ _ s (fun _ _ q=>q) ?_
  cases q:m c with
  |false=>
   have hf':M3.pick c ms=some f:=by
    unfold M3.pick at hf
    rw[q,if_neg qC_]at hf
    exact hf
   exact ih hf' I fl ap ht
  |true=>
   have hf':f0=f:=by
    unfold M3.pick at hf
    rw[q,if_pos rfl]at hf
    cases hf;rfl
   subst hf'
   refine codeAny_handlers_suite (nL O I fl ap fun h' I' fl' ap'=>?_)
   exact wpAny_mono (hb e pins {s with heap:=h'} σ H D (Inv.mk' I') ht) (fun fl s' q=>SP.yt I.ok q) fun _ _ z=>z.elim
def E0(O:Own X){D:Ends}{hs:List ExceptHandler}{ms:List ((Nat->Bool)×M3.S3)}(hh:Hs X T Y hs ms)
 {x:Value} {s:Shared} (xp:XP X pins σ (fun cv dx H'=>∃c Ca,cv= .ref Ca/\T.cls c=some Ca/\∃f,M3.pick c ms=some f/\tS T X.K Y f D σ H') x s):
 wpAny (model X.prog X.w) X.A (noteFrame x X.env) (fun _ s₂=>wpAny (model X.prog X.w) X.A (setFlight x none) (fun _ s₃=>wpAny (model X.prog X.w) X.A (handleBy x X.env hs) (SP X pins D) X.xe s₃) X.xe s₂) X.xe s:=by
 obtain⟨e,H',cv,dx,t,rfl,I,fl,ap,c,Ca,rfl,hc,f,hf,ht⟩:=xp
 refine yq O I.ok.frames I fl ap fun h1 g I1 fl1 ap1=>?_
 refine nL O I1 fl1 ap1 fun h2 I2 fl2 ap2=>?_
 exact handle O hc hh hf I2 fl2 ap2 ht
def Ic(T:Tab)(K:PySem.W.Frag)(Y:EX)(ms:List ((Nat->Bool)×M3.S3))(D:Ends)(σ:L2.St):XK:=fun cv dx H'=>∃c Ca,cv= .ref Ca/\T.cls c=some Ca/\∃f,M3.pick c ms=some f/\tS T K Y f D σ H'
def AF{K:PySem.W.Frag}{ms:List ((Nat->Bool)×M3.S3)}{D:Ends}{fe:M3.E3}{k:M3.D->M3.St->M3.Fl×M3.St}{μ:List Addr}{σ3:M3.St}{G:M3.Hh}{R:VK}(sd:StD K H μ σ3 σ)(h:M3.run (M3.vg fe k ms σ3) G (eG T K μ H D) (Y.x μ H))
 (ok:∀d G' v H1 μ1,Up μ μ1 H H1->Sim T K μ1 H1 G'->Den K H1 μ1 d v->eG T K μ H D (k d σ3) G'->R v H1):M3.run (fe σ3) G (du T K μ H R) ((EX.of T K (Ic T K Y ms D σ)).x μ H):=
 M3.aq (M3.Bz h) (fun d G' q v H1 μ1 u S1 dv=>ok d G' v H1 μ1 u S1 dv q) fun c G' ⟨f,hf,hr⟩ Ca dx H' μ' hc u S'=>⟨c,Ca,rfl,hc,f,hf,μ',σ3,G',S',sd.up u,M3.aq hr (fun _ _ q=>q.up u) fun _ _ q=>Y.up u q⟩
variable{e:Expr}{fe:M3.E3}{h0:ExceptHandler}{hs:List ExceptHandler}{ms:List ((Nat->Bool)×M3.S3)}{p1 pos:Pos}
def Bd(O:Own X)(he:PEx X e (tEx T X.K fe))(hh:Hs X T Y (h0 :: hs) ms):PS X (.Try [.Return (some e) p1] (h0 :: hs) [] [] pos) (tS T X.K Y (M3.vg fe (fun d σ=>(.ret d,σ)) ms)):=by
 intro pins s σ H D I ⟨μ,σ3,G,S,sd,h⟩
 refine wpAny_Try_except (wpAny_execs_cons (wpAny_Return_some (wpAny_mono (he pins s σ H (fun v H1=>D.rt v H1) (Ic T X.K Y ms D σ) I ⟨μ,σ3,G,S,sd,AF sd h fun d G' v H1 μ1 u S1 dv q=>q σ H1 μ1 u S1 (sd.up u) v dv⟩) (fun v s1 ⟨x,H1,I1,r1,q1⟩=>?_) fun x s1 xp=>E0 O hh xp)))
 exact⟨x,σ,H1,I1,r1,q1⟩
end
section
variable{P:Program}{w:World}{K:PySem.W.Frag}{mg:Str->Option Value}{base:Heap}{CX:CXT}{T:Tab}{x m qual:Str}{st:Stmt}{fa Ca:Addr}{fd:FuncData}{N ps:List Str}{k n C:Nat}{pad:M3.St}{body:M3.S3}
def eY(ok:aT P w K mg base CX k fa fd ps (sp3 T K n (M3.fnM n pad body)))(F:Fun K x qual st fa fd)(hm:mg x=some (.ref fa))(hb:Binds K fd ps []):Fn3 P w K mg base CX T k x n (M3.fnM n pad body):=
 ⟨⟨fa,fd,ps,ok,hm,F.kp,hb⟩,fun _ _ _ _ q=>sL q⟩
def bC(ok:aT P w K mg base CX k fa fd ps (sp3 T K n (M3.fnM n pad body)))(hc:T.cls C=some Ca)(cl:Cls K Ca)(me:Meth K Ca m fa)(hb:Binds K fd ps [])(no:∀g,T.nm g≠m):Mt3 P w K mg base CX T k C m n (M3.fnM n pad body):=
 ⟨⟨Ca,fa,fd,ps,hc,cl,me,ok,hb⟩,no,fun _ _ _ _ q=>sL q⟩
def uR(ok:aT P w K mg base CX k fa fd ps (sp3 T K n (M3.fnM n pad body)))(hc:T.cls C=some Ca)(mk:Mk K Ca fa)(hm:mg x=some (.ref Ca))(hb:Binds K fd ps []):Ct3 P w K mg base CX T k x C n (M3.fnM n pad body):=
 ⟨⟨Ca,fa,fd,ps,hc,mk,hm,ok,hb⟩,fun _ _ _ _ q=>sL q⟩
end
end L3
namespace HT
open PySem PyProof.Rows
end HT
namespace L2
open PySem PySem.Spec PyProof.Rows
section
variable{X:Cx}{pins:List (Addr×Obj)}{σ:List (Option V)}{H:Hp}{s:Shared}{h':Heap}
def Inv.CK{t':Nat}{fp:List Addr}(I:Inv X pins σ H s)(k:∀b o,b∉fp->s.heap.get? b=some o->h'.get? b=some o)(hf:∀b∈fp,m3 X pins H b):Inv X pins σ H {s with heap:=h',toks:=t'}:=by
 have nit:∀b u,H b=some u->b∉fp:=fun b u e z=>by rw[(hf b z).1]at e;cases e
 refine I.step (g':=s.gens) (d':=s.drawn) (ch:=fp) (fun b hb=>⟨(hf b hb).2.2.2.1,(hf b hb).2.1,(hf b hb).2.2.2.2.1,(hf b hb).2.2.2.2.2⟩) (fun b o _ _ hc e _=>k b o hc e) (fun b o _ _ hc e _=>⟨o.slots,k b o hc e⟩) (fun _ _ _ _ n=>n)
  (fun b o hc e=>⟨o,k b o hc e⟩) (fun _ _ e=>e) (fun _ _ _ e=>e) (fun b ps e=>⟨#[],by rw[e];simp⟩) (fun m hm=>?_) (fun b u e=>?_) I.bare
 · obtain⟨o,es,ep,ho,r⟩:=hm
   exact⟨o,es,ep,k _ o (fun z=>(hf _ z).2.1 rfl) ho,r⟩
 · refine(I.hok b u e).gH (fun c v hc q=>k c v ?_ q) (fun _ q=>q) fun _ _ q=>q
   rcases hc with z |z
   · rw[z];exact nit b u e
   · exact nit c _ z
end
def Ite(K:PySem.W.Frag)(a:Addr):It:=
 ⟨fun i H=>∃xs x,SqL K H a xs/\xs[i]? =some x,fun i H x H'=>∃y p,H p=none/\x= .ref p/\H'=upd H p (.tup [.int (i:Int),y])/\∀xs,SqL K H a xs->xs[i]? =some y,fun i H=>∃xs,SqL K H a xs/\xs.length<=i⟩
def yz{P:Program}{w:World}{K:PySem.W.Frag}{elts:List Expr}{k:Nat}{pos:Pos}(a e it:Addr)(hne:e≠it):Turn P w K (.Tuple elts k pos) (Ite K a) [e,it] e (fun i h=>(∃old,IsEnum h e it ((i:Nat):Int) old)/\h.IsListIter it a i) where
 mem:=by simp
 obj:=fun i h st b hb=>by
  obtain⟨⟨old,he⟩,o,eo,c,d⟩:=st
  rcases qS_.mp hb with rfl |hb
  · exact⟨_,he,fun v z=>by
     have z':Data.fields _=Data.cell v:=z
     cases z'⟩
  · have e:b=it:=by simpa using hb
    subst e
    exact⟨o,eo,fun v z=>by rw[d]at z;cases z⟩
 keep:=fun i h h' st k=>⟨let ⟨old,he⟩:=st.1;⟨old,k e (by simp) _ he⟩,st.2.at fun o eo=>k it (by simp) o eo⟩
 item:=by
  intro X hP hw hK hc i pins s σ H E I hf st hg
  subst hP hw hK
  obtain⟨⟨old,he⟩,hit⟩:=st
  obtain⟨xs,x,hq,hx⟩:=hg
  obtain⟨its,rv,p,hz⟩:=I.list hq
  obtain⟨u,hu,ru⟩:=rv.get hx
  refine wpAny_pyNext_enum_item he hit p.isList (x:=u) (by simpa using hu) hne fun h₁ heo hit₁ ht₁ hz₁ hk₁=>?_
  have hlt:∀b∈ [e,it],b < s.heap.objs.size:=fun b hb=>by
   rcases qS_.mp hb with rfl |hb
   · exact Heap.lt_size he
   · have eb:b=it:=by simpa using hb
     subst eb
     obtain⟨o,eo,_⟩:=id hit
     exact Heap.lt_size eo
  have I1:Inv X pins σ (upd H s.heap.objs.size (.tup [.int (i:Int),x])) {s with heap:=s.heap.push {cls:= .type "tuple",data:= .seq #[.int (i:Int) s.toks,u]},toks:=s.toks+1}:=
   I.laid (fun b o eb=>Heap.get?_push_of_some _ eb) (qO_ _) ⟨by rw[sizeLine_eq];exact qP_ rfl,[.int (i:Int) s.toks,u],.cons ⟨_,rfl⟩ (.cons ru .nil),⟨_,Heap.get?_push_size _ rfl,rfl,_,rfl⟩⟩
  have hf1:∀b∈ [e,it],m3 X pins (upd H s.heap.objs.size (.tup [.int (i:Int),x])) b:=fun b hb=>⟨by rw[aI (Nat.ne_of_lt (hlt b hb))];exact(hf b hb).1,(hf b hb).2⟩
  have I2:Inv X pins σ (upd H s.heap.objs.size (.tup [.int (i:Int),x])) {s with heap:=h₁,toks:=s.toks+1}:=by
   refine Inv.CK (s:={s with heap:=s.heap.push {cls:= .type "tuple",data:= .seq #[.int (i:Int) s.toks,u]},toks:=s.toks+1}) (h':=h₁) (t':=s.toks+1) (fp:=[e,it]) I1 (fun b o hb eb=>?_) hf1
   rcases Heap.get?_push_cases eb with ⟨z1,z2⟩ |z
   · rw[z1,z2];exact ht₁
   · exact hk₁ b o (fun z=>hb (by simp [z])) (fun z=>hb (by simp [z])) z
  refine⟨_,rfl,wpAny_letOwnedTupleGo_enum heo fun h₂ he₂ hs₂=>?_⟩
  obtain⟨f0,f1,f2,f3,f4,f5⟩:=hf1 e (by simp)
  have hs₂:Heap.SameBut e h₁ h₂:=hs₂
  have I3:Inv X pins σ (upd H s.heap.objs.size (.tup [.int (i:Int),x])) {s with heap:=h₂,toks:=s.toks+1}:=I2.turned (t':=s.toks+1) (fun b o hb eb=>(hs₂.2 b hb).trans eb) f0 f1 f3 f4 f5
  refine⟨.ref s.heap.objs.size,_,I3,rfl,⟨x,s.heap.objs.size,I.hok.fresh (qO_ _),rfl,rfl,fun ys hy=>by rw[I.jL hy hq];exact hx⟩,⟨⟨u,?_⟩,hit₁.at fun o eo=>(hs₂.2 it (Ne.symm hne)).trans eo⟩,fun b hb=>(hf1 b hb).1⟩
  have:((i+1:Nat):Int)=(i:Int)+1:=by push_cast;rfl
  rw[this]
  exact he₂
 done:=by
  intro X hP hw hK hc i pins s σ H E I hf st hg
  subst hP hw hK
  obtain⟨⟨old,he⟩,hit⟩:=st
  obtain⟨xs,hq,hx⟩:=hg
  obtain⟨its,rv,p,hz⟩:=I.list hq
  obtain⟨f0,f1,f2,f3,f4,f5⟩:=hf it (by simp)
  have hl:=rv.length
  exact wpAny_pyNext_enum_end (I.ok.hd hc) he hit p.isList (by simp;omega) fun h' eb=>⟨rfl,I.turned (t':=s.toks) (fun b o hb e=>eb b o hb e) f0 f1 f3 f4 f5⟩
 self:=fun _ _ _ _ _ st h=>let ⟨_,he⟩:=st.1;wpAny_pyIter_enum he h
def FA(K:PySem.W.Frag)(ta:TA):TI:=fun σ H R=>ta σ H fun vs H1=>∃a,vs=[.ref a]/\(∃xs,SqL K H1 a xs)/\R (Ite K a) H1
def Bu{X:Cx}{l:Expr}{elts:List Expr}{k:Nat}{ptg:Pos}{ta:TA}{p pos:Pos}(hg:Gl X "enumerate")(hm:X.mg "enumerate"=none)(ha:PA X [l] ta)(hs:starEach [l] X.env=[(false,eval l X.env)]:=by rfl):PI X (.Tuple elts k ptg) (.Call (.Name "enumerate" p) [l] [] pos) (FA X.K ta):=by
 intro pins s σ H R I h
 refine Call_ (nu I hg hm boot_enumerate (PyProof.Rows.callWith_type1 (thn (ha pos pins s σ H _ I h) fun us s1 ⟨vs,H1,I1,r1,q1⟩=>?_) hs rfl))
 obtain⟨a,e,⟨xs,hq⟩,q⟩:=q1
 subst e
 cases r1 with
 |cons r rr=>
  cases rr
  cases r
  obtain⟨its,rv,pl,hz⟩:=I1.list hq
  refine call_enumerate_list pl.isList fun h' hE hIt hsz hk=>?_
  have I2:Inv X pins σ H1 {s1 with heap:=h'}:=I1.kept (t':=s1.toks) hk
  refine wpAny_pyIter_enum hE ?_
  refine⟨s1.heap.objs.size+1,[s1.heap.objs.size+1,s1.heap.objs.size],_,_,H1,rfl,I2,yz a _ _ (Nat.succ_ne_self _),⟨⟨.none,hE⟩,hIt⟩,fun b hb=>?_,q⟩
  have hb:s1.heap.objs.size<=b:=by
   rcases qS_.mp hb with rfl |hb
   · exact Nat.le_succ _
   · have:b=s1.heap.objs.size:=by simpa using hb
     exact Nat.le_of_eq this.symm
  exact I1.yN hb (I1.hok.fresh hb)
end L2
namespace L3
open PySem PySem.Spec PyProof.Rows L2 PySem.SeqAt
section
variable{X:Cx}{T:Tab}{Y:EX}{a b e o i:Expr}{es:List Expr}{fa fb fc:M3.E3}{ft:M3.T3}{f3:M3.A3}{pos pos' p p2 apos:Pos}
def z7{elts:List Expr}{k:Nat}{ptg:Pos}(hm:X.mg "enumerate"=none)(ha:PE X a (tE T X.K Y fa))(hg:Gl X "enumerate":=by rfl)(hs:starEach [a] X.env=[(false,eval a X.env)]:=by rfl):PI X (.Tuple elts k ptg) (.Call (.Name "enumerate" p) [a] [] pos) (tI T X.K Y (M3.zC fa)):=by
 refine PI.of (Bu hg hm (gY ha lx hs) hs) fun σ H R ⟨μ,σ3,G,S,sd,h⟩=>⟨μ,σ3,G,S,sd,bq h fun d G1 v H1 μ1 u1 S1 d1 h1=>?_⟩
 have main:∀{n:Nat} {xs:List M3.D} {o:M3.O} {ck:M3.Hh->Bool} {q:Addr},μ1[n]? =some q->(∀G',ck G'=true->G'[n]? =some o)->(o= .lst xs\/o= .frz xs)->vW T X.K μ1 H1 ⟨M3.iz xs,ck⟩ (Ite X.K q):=by
  intro n xs o ck q ea hck ho
  have key:∀{μ' H' G'},Up μ1 μ' H1 H'->Sim T X.K μ' H' G'->ck G'=true->∃vs,SqL X.K H' q vs/\ax X.K H' μ' xs vs:=by
   intro μ' H' G' u S c
   have ob:=S.obj n q o (u.at ea) (hck G' c)
   rcases ho with rfl |rfl
   · obtain⟨vs,e1,r⟩:=ob;exact⟨vs,SqL.of e1,r⟩
   · obtain⟨vs,e1,r⟩:=ob;exact⟨vs,e1.sq,r⟩
  have eget:∀{i:Nat} {d:M3.D},(M3.iz xs)[i]? =some d->∃y,xs[i]? =some y/\d= .tup [.int (i:Int),y]:=by
   intro i d h
   unfold M3.iz at h
   rw[List.getElem?_mapIdx]at h
   cases z:xs[i]? with
   |none=>rw[z]at h;cases h
   |some y=>rw[z]at h;exact⟨y,rfl,(Option.some.inj h).symm⟩
  refine⟨fun i d μ' H' G' u S c e=>?_,fun i d v μ' H' H'' G' u S c e y=>?_,fun μ' H' G' u S c=>?_⟩
  · obtain⟨vs,sq,r⟩:=key u S c
    obtain⟨y,ey,_⟩:=eget e
    obtain⟨v,e1,_⟩:=r.get ey
    exact⟨vs,v,sq,e1⟩
  · obtain⟨vs,sq,r⟩:=key u S c
    obtain⟨z,ez,rfl⟩:=eget e
    obtain⟨w,e1,dw⟩:=r.get ez
    obtain⟨yv,t,ht,rfl,rfl,hy⟩:=y
    have hy:=hy vs sq
    rw[e1]at hy
    cases hy
    have sm:gi H' (upd H' t (.tup [.int (i:Int),w])):=gi.new _ ht
    exact⟨sm,t,[.int (i:Int),w],rfl,SqT.of aK,⟨_,_,rfl,rfl,_,_,rfl,Den.up (Up.same (μ:=μ') sm) dw,rfl⟩⟩
  · obtain⟨vs,sq,r⟩:=key u S c
    refine⟨vs,sq,Nat.le_of_eq ?_⟩
    rw[<-r.length]
    simp [M3.iz]
 unfold M3.run M3.o9 at h1
 cases d with
 |ref n=>
  dsimp only at h1
  obtain⟨q,eq,rfl⟩:=d1
  cases z:G1[n]? with
  |none=>rw[z]at h1;exact False.elim h1
  |some ob=>
   have od:=S1.obj n q ob eq z
   rw[z]at h1
   cases ob with
   |lst xs=>obtain⟨vs,e1,r⟩:=od;exact⟨q,rfl,⟨vs,SqL.of e1⟩,h1 _ H1 μ1 u1 S1 (main eq (fun G' c=>of_decide_eq_true c) (.inl rfl))⟩
   |frz xs=>obtain⟨vs,e1,r⟩:=od;exact⟨q,rfl,⟨vs,e1.sq⟩,h1 _ H1 μ1 u1 S1 (main eq (fun G' c=>of_decide_eq_true c) (.inr rfl))⟩
   |_=>exact False.elim h1
 |_=>exact False.elim h1
def xb{K:PySem.W.Frag}{H:Hp}{μ:List Addr}{x:M3.D}{v:V}(d:Den K H μ x v):(V.bl (decide (v= .non)))= .bl (decide (x= .non)):=by
 cases x with
 |non=>cases (show v= .non from d);rfl
 |bl b=>cases (show v= .bl b from d);rfl
 |int b=>cases (show v= .int b from d);rfl
 |str b=>cases (show v= .str b from d);rfl
 |ref n=>obtain⟨_,_,rfl⟩:=d;rfl
 |tup ds=>obtain⟨_,_,rfl,_⟩:=d;rfl
def Gz{j}(ha:PE X a (tE T X.K Y fa)):PT X (.Compare a [.Is] [.Constant .none j pos'] pos) (tT T X.K Y (M3.tB (M3.eUn M3.nR fa))):=by
 refine PT.of (zZ (A5 ha)) fun σ H Q ⟨μ,σ3,G,S,sd,h⟩=>?_
 have h:M3.run (M3.bnd (M3.bnd (fa σ3) M3.nR) M3.asB) G (nQ T X.K μ H Q) (Y.x μ H):=h
 rw[M3.kg]at h
 exact⟨μ,σ3,G,S,sd,bq h fun x G1 v H1 μ1 u1 S1 d1 h1=>⟨decide (x= .non),xb d1,h1 H1 μ1 u1 S1⟩⟩
def DY{j}(ha:PE X a (tE T X.K Y fa)):PT X (.Compare a [.IsNot] [.Constant .none j pos'] pos) (tT T X.K Y (M3.tB (M3.eUn M3.fQ fa))):=by
 refine PT.of (zZ (wz ha)) fun σ H Q ⟨μ,σ3,G,S,sd,h⟩=>?_
 have h:M3.run (M3.bnd (M3.bnd (fa σ3) M3.fQ) M3.asB) G (nQ T X.K μ H Q) (Y.x μ H):=h
 rw[M3.kg]at h
 exact⟨μ,σ3,G,S,sd,bq h fun x G1 v H1 μ1 u1 S1 d1 h1=>⟨!decide (x= .non),by have:=xb d1;injection this with this;rw[this],h1 H1 μ1 u1 S1⟩⟩
end
end L3
namespace HT
open PySem
def kO:entryFor table "dict_itemiterator.__iter__"=some Builtin.«dict_keyiterator.__iter__»:=
 entryFor_alias (id':="dict_keyiterator.__iter__") (by kernel_rfl) (by first |rfl |decide +kernel |(unfold String.splitOn;simp +decide [String.splitOnAux])) (by decide +kernel) (by kernel_rfl)
end HT
namespace L2
open PySem PySem.Spec PyProof.Rows
def zN{k:Key}{u:Value}(h:o8 k u=true):RelV (kV k) u:=by
 rcases bS h with ⟨i,t,rfl,rfl⟩ |⟨x,t,rfl,rfl⟩
 · exact⟨t,rfl⟩
 · exact⟨t,rfl⟩
theorem KV.get:∀{kvs:List (Key×V)} {vs:List (Key×Value)} {i:Nat} {k:Key} {v:V},KV kvs vs->kvs[i]? =some (k,v)->∃u,vs[i]? =some (k,u)/\RelV v u
 |_,_,_,_,_,.nil,e=>by simp at e
 |(k1,v1) :: kvs,(k2,u1) :: vs,0,k,v,.cons ⟨h1,h2⟩ t,e=>by
  simp at e
  obtain⟨rfl,rfl⟩:=e
  exact⟨u1,by rw[<-show k1=k2 from h1];rfl,h2⟩
 |(k1,v1) :: kvs,(k2,u1) :: vs,i+1,k,v,.cons _ t,e=>by
  obtain⟨u,h1,h2⟩:=KV.get (i:=i) t (by simpa using e)
  exact⟨u,by simpa using h1,h2⟩
def Itd(d:Addr)(ob:Obj)(kvs:List (Key×V)):It:=
 ⟨fun i H=>H d=some (.frz ob (.dK kvs))/\i < kvs.length,fun i H x H'=>∃k v p,kvs[i]? =some (k,v)/\H p=none/\x= .ref p/\H'=upd H p (.tup [kV k,v]),fun i H=>H d=some (.frz ob (.dK kvs))/\kvs.length<=i⟩
def yW{X:Cx}{pins:List (Addr×Obj)}{σ:St}{H:Hp}{s:Shared}{d:Addr}{ob:Obj}{kvs:List (Key×V)}{es:Array DictEntry}{ep:Nat}(I:Inv X pins σ H s)(hob:ob.data= .dict es ep)(hd:H d=some (.frz ob (.dK kvs))):
 ∃vs,KV kvs vs/\s.heap.DictAt (bO X.prog X.w) d vs ep/\vs.length=kvs.length:=by
 obtain⟨hg,hz,hS,vs,rv,dd⟩:=(show bR X.prog X.w H s.heap d (.frz ob (.dK kvs))from I.hok d _ hd)
 obtain⟨ep',hat⟩:=dd.dictAt
 obtain⟨o,es',ho,hc,hdat,r⟩:=id hat
 rw[hg]at ho
 cases ho
 rw[hob]at hdat
 injection hdat with h1 h2
 subst h2
 exact⟨vs,rv,hat,rv.length.symm⟩
def vz{P:Program}{w:World}{K:PySem.W.Frag}{elts:List Expr}{k:Nat}{pos:Pos}(d it:Addr)(ob:Obj)(kvs:List (Key×V))(es:Array DictEntry)(ep:Nat)(hob:ob.data= .dict es ep):
 Turn P w K (.Tuple elts k pos) (Itd d ob kvs) [it] it (fun i h=>∃ok ov,IsItemIter h it d i kvs.length ep ok ov) where
 mem:=by simp
 obj:=fun i h st b hb=>by
  obtain⟨ok,ov,he⟩:=st
  have e:b=it:=by simpa using hb
  subst e
  exact⟨_,he,fun v z=>by
   have z':Data.fields _=Data.cell v:=z
   cases z'⟩
 keep:=fun i h h' st k=>let ⟨ok,ov,he⟩:=st;⟨ok,ov,k it (by simp) _ he⟩
 item:=by
  intro X hP hw hK hc i pins s σ H E I hf st hg
  subst hP hw hK
  obtain⟨ok,ov,he⟩:=st
  obtain⟨hd,hi⟩:=hg
  obtain⟨vs,rv,hat,hl⟩:=yW I hob hd
  have hkv:kvs[i]? =some (kvs[i].1,kvs[i].2):=qA_ hi
  generalize kvs[i].1=k0 at hkv
  generalize kvs[i].2=v0 at hkv
  obtain⟨u,hu,ru⟩:=KV.get rv hkv
  obtain⟨f0,f1,f2,f3,f4,f5⟩:=hf it (by simp)
  have he':IsItemIter s.heap it d i vs.length ep ok ov:=by rw[hl];exact he
  refine wpAny_pyNext_items_item he' hat hu fun key h₁ hkey heo ht₁ hz₁ hk₁=>?_
  have hlt:it < s.heap.objs.size:=Heap.lt_size he
  have I1:Inv X pins σ (upd H s.heap.objs.size (.tup [kV k0,v0])) {s with heap:=s.heap.push {cls:= .type "tuple",data:= .seq #[key,u]},toks:=s.toks}:=
   I.laid (t':=s.toks) (fun b o eb=>Heap.get?_push_of_some _ eb) (qO_ _) ⟨by rw[sizeLine_eq];exact qP_ rfl,[key,u],.cons (zN hkey) (.cons ru .nil),⟨_,Heap.get?_push_size _ rfl,rfl,_,rfl⟩⟩
  have g0:upd H s.heap.objs.size (.tup [kV k0,v0]) it=none:=by rw[aI (Nat.ne_of_lt hlt)];exact f0
  have I2:Inv X pins σ (upd H s.heap.objs.size (.tup [kV k0,v0])) {s with heap:=h₁,toks:=s.toks}:=by
   refine Inv.turned (s:={s with heap:=s.heap.push {cls:= .type "tuple",data:= .seq #[key,u]},toks:=s.toks}) (h':=h₁) (t':=s.toks) (it:=it) I1 (fun b o hb eb=>?_) g0 f1 f3 f4 f5
   rcases Heap.get?_push_cases eb with ⟨z1,z2⟩ |z
   · rw[z1,z2];exact ht₁
   · exact hk₁ b o hb z
  refine⟨_,rfl,wpAny_letOwnedTupleGo_items heo fun h₂ he₂ hs₂=>?_⟩
  have hs₂:Heap.SameBut it h₁ h₂:=hs₂
  have I3:Inv X pins σ (upd H s.heap.objs.size (.tup [kV k0,v0])) {s with heap:=h₂,toks:=s.toks}:=I2.turned (t':=s.toks) (fun b o hb eb=>(hs₂.2 b hb).trans eb) g0 f1 f3 f4 f5
  refine⟨.ref s.heap.objs.size,_,I3,rfl,⟨k0,v0,s.heap.objs.size,hkv,I.hok.fresh (qO_ _),rfl,rfl⟩,⟨key,u,by rw[<-hl];exact he₂⟩,fun b hb=>?_⟩
  have e:b=it:=by simpa using hb
  subst e
  exact g0
 done:=by
  intro X hP hw hK hc i pins s σ H E I hf st hg
  subst hP hw hK
  obtain⟨ok,ov,he⟩:=st
  obtain⟨hd,hi⟩:=hg
  obtain⟨vs,rv,hat,hl⟩:=yW I hob hd
  obtain⟨f0,f1,f2,f3,f4,f5⟩:=hf it (by simp)
  have he':IsItemIter s.heap it d i vs.length ep ok ov:=by rw[hl];exact he
  exact wpAny_pyNext_items_end (I.ok.hd hc) he' hat (List.getElem?_eq_none (by omega)) fun h' eb=>⟨rfl,I.turned (t':=s.toks) (fun b o hb e=>eb b o hb e) f0 f1 f3 f4 f5⟩
 self:=fun A i s Q E st h=>by
  obtain⟨ok,ov,he⟩:=st
  have hT:s.TypeIs (.ref it) "dict_itemiterator":=⟨_,he,rfl⟩
  refine wpAny_pyIter_slot hT PySem.F.slot_dict_itemiterator_iter (wpAny_call_entry PySem.F.slot_dict_itemiterator_iter hT HT.kO ?_ (PySem.F.args_dict_itemiterator_iter_1 _))
  show wpAny _ _ (ret (.ref it)) _ _ s
  exact wpAny_pure ⟨_,rfl,"dict_itemiterator",_,hT,PySem.F.slot_dict_itemiterator_next.lookup,h⟩
section
variable{X:Cx}{pins:List (Addr×Obj)}{σ:St}{H:Hp}{s:Shared}{d:Addr}{kvs:List (Key×V)}
def Inv.freeze{ob:Obj}(I:Inv X pins σ H s)(hd:H d=some (.dK kvs))(hg:s.heap.get? d=some ob):Inv X pins σ (upd H d (.frz ob (.dK kvs))) s:=by
 have old:=(show bR X.prog X.w H s.heap d (.dK kvs)from I.hok d _ hd)
 have:=I.write (x:=d) (e:=d) (o:= .frz ob (.dK kvs)) (h':=s.heap) (t':=s.toks) (by rw[hd];exact True.intro) (.inl rfl) (fun b u _ e=>e) ⟨ob,hg⟩ ⟨hg,old⟩
 exact this
def Inv.GL(I:Inv X pins σ H s)(hd:H d=some (.dK kvs)):∀o u,X.H₀ d≠some (.frz o u):=fun o u z=>by
 have:=I.base.mR d o u z
 rw[hd]at this;cases this
def Inv.qj{ob:Obj}(I:Inv X pins σ H s)(hd:H d=some (.frz ob (.dK kvs)))(nf:∀o u,X.H₀ d≠some (.frz o u)):Inv X pins σ (upd H d (.dK kvs)) s:=by
 have ne:∀b,H b=none->b≠d:=fun b n z=>by rw[z,hd]at n;cases n
 obtain⟨hg,old⟩:=(show bR X.prog X.w H s.heap d (.frz ob (.dK kvs))from I.hok d _ hd)
 refine⟨I.ok,I.os,I.bare,⟨I.base.keep,I.base.slot,fun b o q n nx=>?_,I.base.there,fun b xs q=>?_,fun b o u q=>?_,fun b ps q=>?_⟩,I.loc,I.cell,by rw[aI (ne _ I.free)];exact I.free,fun x c e=>by rw[aI (ne _ (I.fR x c e))];exact I.fR x c e,fun p hp=>?_,fun b u q=>?_,I.len⟩
 · have:=I.base.free b o q n nx
   rw[aI (ne _ this)];exact this
 · have:=I.base.pN b xs q
   rw[aI (by rintro rfl;rw[hd]at this;cases this)];exact this
 · have:=I.base.mR b o u q
   by_cases z:b=d
   · subst z;exact absurd q (nf o u)
   · rw[aI z];exact this
 · obtain⟨more,this⟩:=I.base.pT b ps q
   exact⟨more,by rw[aI (by rintro rfl;rw[hd]at this;cases this)];exact this⟩
 · obtain⟨a1,a2,a3⟩:=I.pin p hp
   exact⟨a1,by rw[aI (ne _ a2)];exact a2,a3⟩
 · by_cases z:b=d
   · subst z
     rw[aK]at q
     cases q
     exact old
   · rw[aI z]at q
     refine(I.hok b u q).gH (fun c v hc w=>w) (fun c w=>?_) fun c xs w=>?_
     · rw[aI (by rintro rfl;rw[hd]at w;cases w)];exact w
     · rw[aI (by rintro rfl;rw[hd]at w;cases w)];exact w
end
def D5(X:Cx)(to:TE):TI:=fun σ H R=>to σ H fun x H1=>∃d kvs,x= .ref d/\H1 d=some (.dK kvs)/\∀ob,(∀o u,X.H₀ d≠some (.frz o u))->R (Itd d ob kvs) (upd H1 d (.frz ob (.dK kvs)))
def zV{X:Cx}{o:Expr}{elts:List Expr}{k:Nat}{ptg apos ipos:Pos}{to:TE}(ho:PE X o to)(hbase:attributeBase o "items" X.env (eval o X.env)=eval o X.env:=by rfl)(hline:(apos.endLine==ipos.line)=true:=by rfl):
 PI X (.Tuple elts k ptg) (.Call (.Attribute o "items" apos) [] [] ipos) (D5 X to):=by
 intro pins s σ H R I h
 refine wpAny_Call_method0_late hbase hline (thn (ho pins s σ H _ I h) fun v s1 ⟨x,H1,I1,r1,d,kvs,e,hd,q⟩=>?_)
 subst e
 cases r1
 obtain⟨h1,h2⟩:=va I1 (x:= .ref d) rfl (T:="dict") (.inr (.inr (.inl ⟨rfl,.inl ⟨kvs,hd⟩⟩)))
 refine⟨"dict","dict.items",PySem.F.plainAttrs_dict,PySem.F.slot_dict_items,PySem.F.type_dict_items,h1,h2,Calls.callWith_builtin rfl (PySem.evalArgs_none ?_)⟩
 obtain⟨hz,hS,vs,rv,dd⟩:=zi I1.hok hd
 refine call_meetsIn PySem.F.slot_dict_items dd.typeIs PySem.F.entry_dict_items (PySem.F.args_dict_items_1 _) (meets_dict_items (bO X.prog X.w) d hS) ⟨⟨vs,dd⟩,?_⟩
 obtain⟨ep,hat⟩:=dd.dictAt
 obtain⟨ob,es,hg,hc,hob,r⟩:=id hat
 have I2:Inv X pins σ H1 {s1 with heap:=s1.heap.push {cls:= .type "dict_items",data:= .fields #[.ref d]}}:=I1.kept (t':=s1.toks) fun b u e=>Heap.get?_push_of_some _ e
 refine wpAny_pyIter_items (knd:=bO X.prog X.w) (d:=d) (kvs:=vs) (ep:=ep) ⟨_,Heap.get?_push_size _ rfl,rfl,rfl⟩ (hat.push _) ?_
 have I3:Inv X pins σ H1 {s1 with heap:=(s1.heap.push {cls:= .type "dict_items",data:= .fields #[.ref d]}).push {cls:= .type "dict_itemiterator",data:= .fields #[.none,.bool false,.ref d,.int 0 0,.int vs.length 0,.int ep 0,.none,.none]}}:=I2.kept (t':=s1.toks) fun b u e=>Heap.get?_push_of_some _ e
 have I4:=I3.freeze (ob:=ob) hd (Heap.get?_push_of_some _ (Heap.get?_push_of_some _ hg))
 refine⟨(s1.heap.push {cls:= .type "dict_items",data:= .fields #[.ref d]}).objs.size,[(s1.heap.push {cls:= .type "dict_items",data:= .fields #[.ref d]}).objs.size],_,_,_,rfl,I4,vz d _ ob kvs es ep hob,⟨.none,.none,?_⟩,fun b hb=>?_,q ob (I1.GL hd)⟩
 · rw[rv.length];exact Heap.get?_push_size _ rfl
 · have e:b=(s1.heap.push {cls:= .type "dict_items",data:= .fields #[.ref d]}).objs.size:=by simpa using hb
   subst e
   refine I2.yN (qO_ _) ?_
   have hn:=I2.hok.fresh (qO_ (s1.heap.push {cls:= .type "dict_items",data:= .fields #[.ref d]}).objs.size)
   rw[aI (by intro z;rw[z]at hn;rw[hd]at hn;cases hn)]
   exact hn
end L2
namespace L3
open PySem PySem.Spec PyProof.Rows L2 PySem.SeqAt
section
variable{X:Cx}{T:Tab}{Y:EX}{a b e o i:Expr}{es:List Expr}{fa fb fc:M3.E3}{ft:M3.T3}{f3:M3.A3}{pos pos' p p2 apos ipos:Pos}
def Up.qj{μ μ1:List Addr}{H H1:Hp}{a:Addr}{n:Nat}{ob:Obj}{ws:List (L2.Key×V)}(ea:μ[n]? =some a)(ha:H a=some (.dK ws))(u:Up μ μ1 (upd H a (.frz ob (.dK ws))) H1):Up μ μ1 H (upd H1 a (.dK ws)):=by
 refine⟨u.pre,⟨fun b xs e=>?_,fun b q w e=>?_⟩,fun b w e nb=>?_⟩
 · have hb:b≠a:=by rintro rfl;rw[ha]at e;cases e
   rw[aI hb];exact u.keeps.tup b xs (by rw[aI hb];exact e)
 · have hb:b≠a:=by rintro rfl;rw[ha]at e;cases e
   rw[aI hb];exact u.keeps.frz b q w (by rw[aI hb];exact e)
 · have hb:b≠a:=by rintro rfl;exact nb (qD_ ea)
   rw[aI hb];exact u.rest b w (by rw[aI hb];exact e) nb
def Sim.qj{K:PySem.W.Frag}{μ:List Addr}{H:Hp}{G:M3.Hh}{n:Nat}{a:Addr}{ob:Obj}{kvs:List (M3.Key×M3.D)}{ws:List (L2.Key×V)}(S:Sim T K μ H G)(ea:μ[n]? =some a)(hn:G[n]? =some (.dF kvs))(ha:H a=some (.frz ob (.dK ws)))
 (k:Keeps H (upd H a (.dK ws))\/True) (r:Paired (fun(p:M3.Key×M3.D) (q:L2.Key×V)=>p.1=q.1/\Den K (upd H a (.dK ws)) μ p.2 q.2) kvs ws)
 (kd:∀d v,Den K H μ d v->Den K (upd H a (.dK ws)) μ d v) (kds:∀ds vs,ax K H μ ds vs->ax K (upd H a (.dK ws)) μ ds vs):Sim T K μ (upd H a (.dK ws)) (G.set n (.dK kvs)):=by
 have hl:=(qB_.mp hn).1
 refine⟨by rw[qX_];exact S.len,fun m b o q1 q2=>?_,fun m j b o1 o2 hmj q1 q2 q3 q4=>?_⟩
 · by_cases h:m=n
   · subst h
     rw[ea]at q1
     cases q1
     rw[qU_ hl]at q2
     cases q2
     exact⟨ws,aK,r⟩
   · rw[qV_ (Ne.symm h)]at q2
     have od:=S.obj m b o q1 q2
     have gH:isF o=false->∀x,H b=some x->upd H a (.dK ws) b=some x:=fun hf x z=>by
      have hb:b≠a:=by
       rintro rfl
       rcases S.inj m n b o (.dF kvs) h q1 ea q2 hn with z |z
       · rw[hf]at z;cases z
       · cases z
      rw[aI hb];exact z
     cases o with
     |lst xs=>obtain⟨vs,e1,rr⟩:=od;exact⟨vs,gH rfl _ e1,kds _ _ rr⟩
     |frz xs=>
      obtain⟨vs,e1,rr⟩:=od
      refine⟨vs,?_,kds _ _ rr⟩
      rcases e1 with ⟨o',e1⟩ |e1
      · have hb:b≠a:=by rintro rfl;rw[ha]at e1;cases e1
        exact .inl ⟨o',by rw[aI hb];exact e1⟩
      · exact .inr e1
     |dK xs=>obtain⟨vs,e1,rr⟩:=od;exact⟨vs,gH rfl _ e1,Paired.imp' (fun _ _ z=>⟨z.1,kd _ _ z.2⟩) rr⟩
     |dF xs=>obtain⟨o',vs,e1,rr⟩:=od;exact⟨o',vs,gH rfl _ e1,Paired.imp' (fun _ _ z=>⟨z.1,kd _ _ z.2⟩) rr⟩
     |dT xs=>obtain⟨vs,e1,rr⟩:=od;exact⟨vs,gH rfl _ e1,Paired.imp' (fun p q z=>⟨z.1,(by obtain⟨b',us,e',sq,ds⟩:=kd (.tup (p.1.map M3.D.int)) (.ref q.2.1) ⟨_,_,rfl,z.2.1,ax.sk⟩;cases e';rw[ax.ints ds]at sq;exact sq),let ⟨v,x,y⟩:=z.2.2;⟨v,kd _ _ x,y⟩⟩) rr⟩
     |ins C fs=>obtain⟨Ca,dx,vs,hc,e1,rr⟩:=od;exact⟨Ca,dx,vs,hc,gH rfl _ e1,Paired.imp' (fun _ _ z=>⟨z.1,kd _ _ z.2⟩) rr⟩
 · have back:∀(m:Nat) o,(G.set n (.dK kvs))[m]? =some o->∃o',G[m]? =some o'/\isF o'=isF o:=fun m o q=>by
    by_cases h:m=n
    · subst h
      rw[qU_ hl]at q
      cases q
      exact⟨_,hn,rfl⟩
    · rw[qV_ (Ne.symm h)]at q
      exact⟨o,q,rfl⟩
   obtain⟨p1,r1,f1⟩:=back m o1 q3
   obtain⟨p2,r2,f2⟩:=back j o2 q4
   rw[<-f1,<-f2]
   exact S.inj m j b p1 p2 hmj q1 q2 r1 r2
mutual
theorem Den.off{K:PySem.W.Frag}{μ:List Addr}{H:Hp}{a:Addr}{ob:Obj}{ws:List (L2.Key×V)}(ha:H a=some (.frz ob (.dK ws))):∀{d:M3.D} {v:V},Den K H μ d v->Den K (upd H a (.dK ws)) μ d v
 | .non,_,h=>h
 | .bl _,_,h=>h
 | .int _,_,h=>h
 | .str _,_,h=>h
 | .ref _,_,h=>h
 | .tup ds,_,⟨b,vs,e,h,r⟩=>by
   refine⟨b,vs,e,?_,ax.off ha r⟩
   rcases h with (h |⟨o,h⟩) |h
   · exact .inl (.inl (by rw[aI (by rintro rfl;rw[ha]at h;cases h)];exact h))
   · exact .inl (.inr ⟨o,by rw[aI (by rintro rfl;rw[ha]at h;cases h)];exact h⟩)
   · exact .inr h
theorem ax.off{K:PySem.W.Frag}{μ:List Addr}{H:Hp}{a:Addr}{ob:Obj}{ws:List (L2.Key×V)}(ha:H a=some (.frz ob (.dK ws))):∀{ds:List M3.D} {vs:List V},ax K H μ ds vs->ax K (upd H a (.dK ws)) μ ds vs
 | [],_,h=>h
 |_ :: _,_,⟨v,r,e,h,t⟩=>⟨v,r,e,Den.off ha h,ax.off ha t⟩
end
theorem wF{α β:Type}{R:α->β->Prop}:∀{xs:List α} {ys:List β} {i:Nat} {x:α},Paired R xs ys->xs[i]? =some x->∃y,ys[i]? =some y/\R x y
 |_,_,_,_,.nil,e=>by simp at e
 |_,_,0,_,.cons h t,e=>by simp at e;subst e;exact⟨_,rfl,h⟩
 |_,_,i+1,_,.cons h t,e=>by
  obtain⟨y,h1,h2⟩:=wF (i:=i) t (by simpa using e)
  exact⟨y,by simpa using h1,h2⟩
def Az{Z:Nat->M3.Hh->Prop}{n:Nat}{kvs:List (M3.Key×M3.D)}{m:M3.M (M3.Fl×M3.St)}{G:M3.Hh}{P:M3.Fl×M3.St->M3.Hh->Prop}(h:M3.run (M3.uG n kvs m) G P Z):
 M3.run m (G.set n (.dF kvs)) (fun p G'=>G'[n]? =some (.dF kvs)/\P p (G'.set n (.dK kvs))) (fun _ _=>False):=by
 unfold M3.run M3.uG at*
 cases q:m (G.set n (.dF kvs))with
 |none=>rw[q]at h;exact h
 |some z=>
  obtain⟨o,G1⟩:=z
  rw[q]at h
  cases o with
  |ok a=>
   dsimp only at h ⊢
   by_cases c:G1[n]? =some (.dF kvs)
   · rw[if_pos c]at h;exact⟨c,h⟩
   · rw[if_neg c]at h;exact False.elim h
  |exc c=>exact False.elim h
def Dw(X:Cx)(D:Ends):Ends where
 nx:=fun σ H=>∃d ob kvs,H d=some (.frz ob (.dK kvs))/\(∀o u,X.H₀ d≠some (.frz o u))/\D.nx σ (upd H d (.dK kvs))
 rt:=fun v H=>∃d ob kvs,H d=some (.frz ob (.dK kvs))/\(∀o u,X.H₀ d≠some (.frz o u))/\D.rt v (upd H d (.dK kvs))
 bk:=fun σ H=>∃d ob kvs,H d=some (.frz ob (.dK kvs))/\(∀o u,X.H₀ d≠some (.frz o u))/\D.bk σ (upd H d (.dK kvs))
 ct:=fun σ H=>∃d ob kvs,H d=some (.frz ob (.dK kvs))/\(∀o u,X.H₀ d≠some (.frz o u))/\D.ct σ (upd H d (.dK kvs))
theorem SP.qj{pins:List (Addr×Obj)}{D:Ends}{f:Flow}{s':Shared}(h:SP X pins (Dw X D) f s'):SP X pins D f s':=by
 cases f with
 |next=>obtain⟨σ',H',I,d,ob,kvs,hd,nf,q⟩:=h;exact⟨σ',_,I.qj hd nf,q⟩
 |brk=>obtain⟨σ',H',I,d,ob,kvs,hd,nf,q⟩:=h;exact⟨σ',_,I.qj hd nf,q⟩
 |cont=>obtain⟨σ',H',I,d,ob,kvs,hd,nf,q⟩:=h;exact⟨σ',_,I.qj hd nf,q⟩
 |ret u=>obtain⟨v,σ',H',I,r,d,ob,kvs,hd,nf,q⟩:=h;exact⟨v,σ',_,I.qj hd nf,r,q⟩
def BR{elts:List Expr}{k:Nat}{ptg:Pos}{body:List Stmt}{g:M3.D->M3.St->M3.M M3.St}{f:M3.S3}(hp:PassesOwn (model X.prog X.w) X.A X.env X.xe)(hc:X.calm=true)(ho:PE X o (tE T X.K Y fa))(hg:PG X (.Tuple elts k ptg) (tG T X.K Y g))(hb:PSs X body (tS T X.K Y f))
 (hbase:attributeBase o "items" X.env (eval o X.env)=eval o X.env:=by rfl) (hline:(apos.endLine==ipos.line)=true:=by rfl)
 (hs:∀x,foldedSetIterable (.Call (.Attribute o "items" apos) [] [] ipos) X.env x=pure x:=by intro _;rfl):PS X (.For (.Tuple elts k ptg) (.Call (.Attribute o "items" apos) [] [] ipos) body [] pos) (tS T X.K Y (M3.uZ fa g f)):=by
 intro pins s σ H D I ⟨μ,σ3,G,S,sd,h⟩
 refine wpAny_mono (zL hp hc (zV (elts:=elts) (k:=k) (ptg:=ptg) (apos:=apos) (ipos:=ipos) ho hbase hline) hg hb hs pins s σ H (Dw X D) I ⟨μ,σ3,G,S,sd,bq h fun x G1 v H1 μ1 u1 S1 d1 h1=>?_⟩) (fun _ _ z=>SP.qj z) fun _ _ z=>z
 unfold M3.vc at h1
 cases x with
 |ref n=>
  obtain⟨c,ec,rfl⟩:=d1
  have h1:M3.run (fun G=>match G[n]? with
   |some (.dK kvs)=>M3.uG n kvs (M3.forL (fun _=>true) (fun x σ=>M3.bnd (g x σ) f) (M3.eK kvs) σ3) G
   |_=>none) G1 (eG T X.K μ H D) (Y.x μ1 H1):=h1
  unfold M3.run at h1
  dsimp only at h1
  cases q:G1[n]? with
  |none=>rw[q]at h1;exact False.elim h1
  |some ob1=>
   have od:=S1.obj n c ob1 ec q
   rw[q]at h1
   cases ob1 with
   |dK kvs=>
    obtain⟨ws,e1,r⟩:=od
    refine⟨c,ws,rfl,e1,fun ob nf=>?_⟩
    have hw:=Az (P:=eG T X.K μ H D) (Z:=Y.x μ1 H1) h1
    have u2:Up μ1 μ1 H1 (upd H1 c (.frz ob (.dK ws))):=Up.set S1 _ ec q rfl
    have S2:Sim T X.K μ1 (upd H1 c (.frz ob (.dK ws))) (G1.set n (.dF kvs)):=S1.set ec q rfl rfl ⟨ob,ws,aK,Paired.imp' (fun _ _ z=>⟨z.1,Den.up u2 z.2⟩) r⟩
    have len:(M3.eK kvs).length=ws.length:=by unfold M3.eK;rw[qM_];exact Paired.length r
    refine⟨fun i m σ' H'=>m=ws.length - i/\i<=ws.length/\∃μ' σ3' G',Up μ1 μ' (upd H1 c (.frz ob (.dK ws))) H'/\Sim T X.K μ' H' G'/\StD X.K H' μ' σ3' σ'/\M3.run (M3.forL (fun _=>true) (fun x σ=>M3.bnd (g x σ) f) ((M3.eK kvs).drop i) σ3') G' (fun p G'=>G'[n]? =some (.dF kvs)/\eG T X.K μ H D p (G'.set n (.dK kvs))) (Y.x μ' H'),
     ⟨_,rfl,qf_ _,μ1,σ3,_,Up.refl _ _,S2,(sd.up u1).up u2,M3.aq hw (fun _ _ z=>z) fun _ _ z=>z.elim⟩,?_⟩
    have fin:∀{σ':L2.St} {H':Hp} {μ':List Addr} {p:M3.Fl×M3.St} {G':M3.Hh},Up μ1 μ' (upd H1 c (.frz ob (.dK ws))) H'->Sim T X.K μ' H' G'->G'[n]? =some (.dF kvs)->eG T X.K μ H D p (G'.set n (.dK kvs))->
     H' c=some (.frz ob (.dK ws))/\eG T X.K μ' (upd H' c (.dK ws)) D p (G'.set n (.dK kvs))/\Sim T X.K μ' (upd H' c (.dK ws)) (G'.set n (.dK kvs))/\(StD X.K H' μ' p.2 σ'->StD X.K (upd H' c (.dK ws)) μ' p.2 σ'):=by
     intro σ' H' μ' p G' u' S' hn hP
     have hf:H' c=some (.frz ob (.dK ws)):=u'.keeps.frz c ob _ aK
     have ut:Up μ1 μ' H1 (upd H' c (.dK ws)):=Up.qj ec e1 u'
     refine⟨hf,hP.up (u1.trans ut),Sim.qj S' (u'.at ec) hn hf (.inr True.intro) (Paired.imp' (fun _ _ z=>⟨z.1,Den.up ut z.2⟩) r) (fun _ _ z=>Den.off hf z) fun _ _ z=>ax.off hf z,fun sd'=>⟨sd'.len,fun i d e=>let ⟨v,e1,dv⟩:=sd'.at_ i d e;⟨v,e1,Den.off hf dv⟩⟩⟩
    rintro i m σ' H' ⟨rfl,hi,μ',σ3',G',u',S',sd',q'⟩
    have hf:H' c=some (.frz ob (.dK ws)):=u'.keeps.frz c ob _ aK
    by_cases hlt:i < ws.length
    · rw[List.drop_eq_getElem_cons (by rw[len];exact hlt)]at q'
      obtain⟨_,q2⟩:=qN q'
      have ex:(M3.eK kvs)[i]? =some ((M3.eK kvs)[i]'(by rw[len];exact hlt)):=qA_ _
      generalize (M3.eK kvs)[i]'(by rw[len];exact hlt)=it at ex q2
      refine .inr ⟨⟨hf,hlt⟩,fun σ2 H2=>∃μ2 σ4 G2,Up μ1 μ2 (upd H1 c (.frz ob (.dK ws))) H2/\Sim T X.K μ2 H2 G2/\StD X.K H2 μ2 σ4 σ2/\M3.run (M3.forL (fun _=>true) (fun x σ=>M3.bnd (g x σ) f) ((M3.eK kvs).drop (i+1)) σ4) G2 (fun p G'=>G'[n]? =some (.dF kvs)/\eG T X.K μ H D p (G'.set n (.dK kvs))) (Y.x μ2 H2),
       fun σ2 H2 hN=>⟨_,by omega,rfl,hlt,hN⟩,fun x H'' y=>?_⟩
      obtain⟨k0,v0,t,hkv,ht,rfl,rfl⟩:=y
      have sm:gi H' (upd H' t (.tup [kV k0,v0])):=gi.new _ ht
      have us:Up μ' μ' H' (upd H' t (.tup [kV k0,v0])):=Up.same sm
      have dit:Den X.K (upd H' t (.tup [kV k0,v0])) μ' it (.ref t):=by
       unfold M3.eK at ex
       rw[qQ_]at ex
       cases z:kvs[i]? with
       |none=>rw[z]at ex;cases ex
       |some kd=>
        rw[z]at ex
        cases ex
        obtain⟨q0,z2,h2,h3⟩:=wF r z
        rw[hkv]at z2
        cases z2
        obtain⟨kk,dd⟩:=kd
        have h2:kk=k0:=h2
        subst h2
        refine⟨t,[kV kk,v0],rfl,SqT.of aK,⟨_,_,rfl,?_,_,_,rfl,Den.up us (Den.up u' (Den.up u2 h3)),rfl⟩⟩
        cases kk <;> rfl
      refine⟨μ',σ3',G',_,S'.same sm,sd'.up us,dit,cD (Y.upE us (M3.aR (M3.aR q2))) fun σ5 G5 q5 σ6 H6 μ6 u6 S6 sd6=>?_⟩
      have u6:=us.trans u6
      refine⟨μ6,σ5,G5,S6,sd6,cD (Y.upE u6 q5) fun p G7 q7 σ7 H7 μ7 u7 S7 sd7=>?_⟩
      obtain⟨fl,σ8⟩:=p
      have up:=u'.trans (u6.trans u7)
      cases fl with
      |next=>exact⟨μ7,σ8,G7,up,S7,sd7,Y.upE (u6.trans u7) q7⟩
      |cont=>exact⟨μ7,σ8,G7,up,S7,sd7,Y.upE (u6.trans u7) q7⟩
      |brk=>
       obtain⟨hn,hP⟩:=q7
       obtain⟨z1,z2,z3,z4⟩:=fin (σ':=σ7) up S7 hn hP
       exact⟨c,ob,ws,z1,nf,z2 σ7 _ μ7 (Up.refl _ _) z3 (z4 sd7)⟩
      |ret d=>
       obtain⟨hn,hP⟩:=q7
       obtain⟨z1,z2,z3,z4⟩:=fin (σ':=σ7) up S7 hn hP
       exact fun v dv=>⟨c,ob,ws,z1,nf,z2 σ7 _ μ7 (Up.refl _ _) z3 (z4 sd7) v (Den.off z1 dv)⟩
    · have e:i=ws.length:=by omega
      subst e
      rw[<-len,List.drop_length]at q'
      obtain⟨_,hn,hP⟩:=tX q'
      obtain⟨z1,z2,z3,z4⟩:=fin (σ':=σ') u' S' hn hP
      exact .inl ⟨⟨hf,qO_ _⟩,c,ob,ws,z1,nf,z2 σ' _ μ' (Up.refl _ _) z3 (z4 sd')⟩
   |_=>exact False.elim h1
 |_=>exact False.elim h1
end
open PySem PySem.Spec PyProof.Rows L2
def wU{CX:CXT}{P:Program}{w:World}{K:PySem.W.Frag}{mg:Str->Option Value}{base:Heap}{N:List Str}{qual:Str}{scope:Scope}{fa:Addr}{cd:Value}{A:Around}{outer:List Env}{s:Shared}{H:Hp}{E:XK}:
 Own (k9 CX P w K mg base N qual scope fa cd A outer s H E).nox:=⟨rfl,rfl,rfl,rfl⟩
def clF(cs xs:List Addr)(c:Nat):Option Addr:=if c < 1000 then cs[c]? else xs[c - 1000]?
def D3{cs xs:List Addr}{c:Nat}{Ca:Addr}(e:clF cs xs c=some Ca)(hc:c < 1000):Ca∈cs:=by
 unfold clF at e
 rw[if_pos hc]at e
 exact qD_ e
def clP(cs xs:List Addr):List (Addr×Nat):=cs.mapIdx (fun i a=>(a,i))++xs.mapIdx fun i a=>(a,1000+i)
def E2{cs xs:List Addr}{c:Nat}{Ca:Addr}(e:clF cs xs c=some Ca):(Ca,c)∈clP cs xs:=by
 unfold clF at e
 unfold clP
 by_cases hc:c < 1000
 · rw[if_pos hc]at e
   refine qF_ _ (qD_ (i:=c) ?_)
   rw[List.getElem?_mapIdx,e];rfl
 · rw[if_neg hc]at e
   refine qE_ _ (qD_ (i:=c - 1000) ?_)
   rw[List.getElem?_mapIdx,e]
   show some (Ca,1000+(c - 1000))=some (Ca,c)
   rw[show 1000+(c - 1000)=c by omega]
def mz{K:PySem.W.Frag}{cs xs:List Addr}{C:Addr}{k:Nat}(h:((clP cs xs).all fun p=>PySem.W.exmOne K (.ref p.1) (.ref C)==some (decide (p.2=k)))=true){c:Nat}{Ca:Addr}(e:clF cs xs c=some Ca):PySem.W.exmOne K (.ref Ca) (.ref C)=some (decide (c=k)):=
 eq_of_beq (List.all_eq_true.mp h _ (E2 e))
def getD_inj{L:List Str}(nd:L.Nodup)(ne:Str.empty∉L){f g:Nat}(hf:f < L.length)(h:L.getD g Str.empty=L.getD f Str.empty):g=f:=by
 have e1:L.getD f Str.empty=L[f]:=by rw[List.getD_eq_getElem?_getD,qA_ hf];rfl
 by_cases hg:g < L.length
 · have e2:L.getD g Str.empty=L[g]:=by rw[List.getD_eq_getElem?_getD,qA_ hg];rfl
   rw[e1,e2]at h
   exact(List.getElem_inj nd).mp h
 · have e2:L.getD g Str.empty=Str.empty:=by rw[List.getD_eq_getElem?_getD,List.getElem?_eq_none (by omega)];rfl
   rw[e1,e2]at h
   exact absurd (h ▸ List.getElem_mem hf) ne
def FN{L:List Str}{K:PySem.W.Frag}{cl:Nat->Option Addr}{Cs:List Addr}{f:Nat}(hcl:∀c Ca,cl c=some Ca->c < 1000->Ca∈Cs)(hC:∀Ca,Ca∈Cs->Cls K Ca/\∀x∈L,iE K Ca x)(nd:L.Nodup)(ne:Str.empty∉L)(hf:f < L.length):
 wA ⟨cl,fun g=>L.getD g Str.empty⟩ K f:=by
 refine⟨fun C Ca hlt e=>?_,fun g h=>getD_inj nd ne hf h⟩
 obtain⟨h1,h2⟩:=hC Ca (hcl C Ca e hlt)
 refine⟨h1,h2 _ ?_⟩
 show L.getD f Str.empty∈L
 rw[List.getD_eq_getElem?_getD,qA_ hf]
 exact List.getElem_mem hf
def Hi{L:List Str}{m:Str}(h:m∉L)(h0:m≠Str.empty)(g:Nat):L.getD g Str.empty≠m:=by
 intro e
 by_cases hg:g < L.length
 · rw[List.getD_eq_getElem?_getD,qA_ hg]at e
   exact h (e ▸ List.getElem_mem hg)
 · rw[List.getD_eq_getElem?_getD,List.getElem?_eq_none (by omega)]at e
   exact h0 e.symm
def Ay(nm:Nat->Str)(K:PySem.W.Frag)(n:Nat)(f:List M3.D->M3.M M3.D):Sp:=fun vs H Q E=>∀cl,sp3 ⟨cl,nm⟩ K n f vs H Q E
def DG{P:Program}{w:World}{K:PySem.W.Frag}{mg:Str->Option Value}{base:Heap}{CX:CXT}{k n:Nat}{fa:Addr}{fd:FuncData}{ps:List Str}{nm:Nat->Str}{f:List M3.D->M3.M M3.D}{cl:Nat->Option Addr}(F:aT P w K mg base CX k fa fd ps (sp3 ⟨cl,nm⟩ K n f)):
 aT P w K mg base CX k fa fd ps (Ay nm K n f):=F.imp fun vs H Q E q=>q cl
def BZ{nm:Nat->Str}{K:PySem.W.Frag}{f:List M3.D->M3.M M3.D}{n:Nat}(h:∀ns:List Int,ns.length<=n->M3.run (f [.ref 0]) [.frz (ns.map M3.D.int)] (fun d _=>d= .bl true) fun _ _=>False)
 {H:Hp} {a:Addr} {ns:List Int} (hl:ns.length<=n) (hO:Ar H) (sq:SqL K H a (ns.map V.int)):Ay nm K 1 f [.ref a] H (fun v _=>v= .bl true) fun _ _ _=>False:=fun cl=>Eh h hl hO sq
open PySem
def Al{xs:List Expr}{k:Nat}{p:Pos}{es:List Expr}{env:Env}:starEach (.Tuple xs k p :: es) env=(false,eval (.Tuple xs k p) env) :: starEach es env:=rfl
def yK{xs:List Expr}{p:Pos}{es:List Expr}{env:Env}:starEach (.List xs p :: es) env=(false,eval (.List xs p) env) :: starEach es env:=rfl
def pM{c:Const}{k:Nat}{p:Pos}{es:List Expr}{env:Env}:starEach (.Constant c k p :: es) env=(false,eval (.Constant c k p) env) :: starEach es env:=rfl
def iw{x:Str}{p:Pos}{es:List Expr}{env:Env}:starEach (.Name x p :: es) env=(false,eval (.Name x p) env) :: starEach es env:=rfl
def yG{f:Expr}{as:List Expr}{ks:List Keyword}{p:Pos}{es:List Expr}{env:Env}:starEach (.Call f as ks p :: es) env=(false,eval (.Call f as ks p) env) :: starEach es env:=rfl
def AO{a b:Expr}{o:Operator}{p:Pos}{es:List Expr}{env:Env}:starEach (.BinOp a o b p :: es) env=(false,eval (.BinOp a o b p) env) :: starEach es env:=rfl
def o5{a b:Expr}{p:Pos}{es:List Expr}{env:Env}:starEach (.Subscript a b p :: es) env=(false,eval (.Subscript a b p) env) :: starEach es env:=rfl
def kF{a:Expr}{x:Str}{p:Pos}{es:List Expr}{env:Env}:starEach (.Attribute a x p :: es) env=(false,eval (.Attribute a x p) env) :: starEach es env:=rfl
def Aa{a:Expr}{os:List CmpOp}{bs:List Expr}{p:Pos}{es:List Expr}{env:Env}:starEach (.Compare a os bs p :: es) env=(false,eval (.Compare a os bs p) env) :: starEach es env:=rfl
def Ex{xs:List Expr}{p:Pos}{t:Option Expr}{l:Nat}{env:Env}:swapsWith (.List xs p) t l env=pure false:=rfl
def Bs{x:Str}{p:Pos}{t:Option Expr}{l:Nat}{env:Env}:swapsWith (.Name x p) t l env=pure false:=rfl
def nZ{f:Expr}{as:List Expr}{ks:List Keyword}{p:Pos}{t:Option Expr}{l:Nat}{env:Env}:swapsWith (.Call f as ks p) t l env=pure false:=rfl
def DE{a b:Expr}{o:Operator}{p:Pos}{t:Option Expr}{l:Nat}{env:Env}:swapsWith (.BinOp a o b p) t l env=pure false:=rfl
def Ei{a b:Expr}{p:Pos}{t:Option Expr}{l:Nat}{env:Env}:swapsWith (.Subscript a b p) t l env=pure false:=rfl
def CB{a:Expr}{x:Str}{p:Pos}{t:Option Expr}{l:Nat}{env:Env}:swapsWith (.Attribute a x p) t l env=pure false:=rfl
def F8{a:Expr}{o:UnaryOp}{p:Pos}{t:Option Expr}{l:Nat}{env:Env}:swapsWith (.UnaryOp o a p) t l env=pure false:=rfl
def Ak{T:Tab}{X:Cx}{Y:EX}{o e:Expr}{fa fb:M3.E3}{apos pos:Pos}(ho:PE X o (tE T X.K Y fa))(he:PE X e (tE T X.K Y fb))
 (hs:starEach (e :: []) X.env=(false,eval e X.env) :: starEach [] X.env)
 (hbase:attributeBase o "extend" X.env (eval o X.env)=eval o X.env:=by rfl)
 (hline:(apos.endLine==pos.line)=true:=by rfl):
 PE X (.Call (.Attribute o "extend" apos) [e] [] pos) (tE T X.K Y (M3.tN fa fb)):=by
 refine mE ho he hbase ?_ hline hs rfl
 rw[hs]
 rfl
section
variable{K:PySem.W.Frag}{μ:List Addr}{H:Hp}
abbrev KDT(K:PySem.W.Frag)(H:Hp)(μ:List Addr):List (List Int×M3.D)->List (List Int×Addr×Value)->Prop:=Paired fun p q=>p.1=q.1/\SqT K H q.2.1 (p.1.map V.int)/\∃v,Den K H μ p.2 v/\RelV v q.2.2
theorem itI{P:Program}{w:World}:∀{ks:List Int} {us:List Value},Vals (ks.map V.int) us->ItemsAre (intKind P w) ks us
 | [],_,r=>by rw[List.map_nil]at r;cases r;exact .nil
 |k :: ks,_,r=>by
  rw[List.map_cons]at r
  cases r with
  |cons h t=>
   obtain⟨tk,rfl⟩:=h
   exact .cons (by simp [intKind,Value.isInt]) (itI t)
def yg{X:Cx}{pins:List (Addr×Obj)}{σ:L2.St}{s:Shared}{b:Addr}{ks:List Int}(I:Inv X pins σ H s)(h:SqT X.K H b (ks.map V.int)):(tupleKind (intKind X.prog X.w)).is s.heap ks b:=by
 obtain⟨its,r,⟨o,h1,h2,n,h3⟩,_⟩:=I.tuple h
 exact⟨o,its.toArray,n,h1,h2,h3,by simpa using itI r⟩
def dtI{X:Cx}{pins:List (Addr×Obj)}{σ:L2.St}{s:Shared}{a:Addr}{kvs:List (List Int×M3.D)}{xs:List (List Int×Addr×Value)}(I:Inv X pins σ H s)(e:H a=some (.ext (lK a xs)))(r:KDT X.K H μ kvs xs):
 (a==sysModules)=false/\xs.length<=sizeLine/\s.heap.DictOfH (tupleKind (intKind X.prog X.w)) a xs:=by
 obtain⟨⟨z,y,o,es,ep,h1,h2,h3,h4,h5⟩,_⟩:=(show bR X.prog X.w H s.heap a (.ext (lK a xs))from I.hok a _ e)
 refine⟨z,y,o,es,ep,h1,h2,h3,h4,fun x hx=>?_,h5⟩
 have all:∀{l:List (List Int×M3.D)} {m:List (List Int×Addr×Value)},KDT X.K H μ l m->∀x∈m,(tupleKind (intKind X.prog X.w)).is s.heap x.1 x.2.1:=by
  intro l m q
  induction q with
  |nil=>intro x hx;exact nomatch hx
  |@cons p q ps qs hq t ih=>
   intro x hx
   rcases qS_.mp hx with e |hx
   · subst e
     exact yg I (by rw[<-hq.1];exact hq.2.1)
   · exact ih x hx
 exact all r x hx
theorem KDT.look(k:List Int):∀{kvs:List (List Int×M3.D)} {xs:List (List Int×Addr×Value)},KDT K H μ kvs xs->(M3.look kvs k=none/\atKey xs k=none)\/∃d p v,M3.look kvs k=some d/\atKey xs k=some p/\Den K H μ d v/\RelV v p.2
 |_,_,.nil=>.inl ⟨rfl,rfl⟩
 |(k1,d) :: kvs,(k2,p) :: xs,.cons ⟨h1,h2,v,h3,h4⟩ t=>by
  cases (show k1=k2 from h1)
  by_cases h:k1=k
  · exact .inr ⟨d,p,v,by simp [M3.look,h],by simp [atKey,h],h3,h4⟩
  · have e1:M3.look ((k1,d) :: kvs) k=M3.look kvs k:=by simp [M3.look,h]
    have e2:atKey ((k1,p) :: xs) k=atKey xs k:=by simp [atKey,h]
    rw[e1,e2]
    exact KDT.look k t
theorem KDT.xT(k:List Int){d:M3.D}{v:V}{u:Value}(dv:Den K H μ d v)(rv:RelV v u):∀{kvs:List (List Int×M3.D)} {xs:List (List Int×Addr×Value)},KDT K H μ kvs xs->KDT K H μ (kvs.map fun kv=>if kv.1=k then (kv.1,d)else kv) (xs.map (putAt k u))
 |_,_,.nil=>.nil
 |(k1,x) :: kvs,(k2,w) :: ws,.cons ⟨h1,h2,h3⟩ t=>by
  cases (show k1=k2 from h1)
  rw[List.map_cons,List.map_cons]
  refine .cons ?_ (KDT.xT k dv rv t)
  unfold putAt
  by_cases h:k1=k
  · rw[if_pos h,if_pos h];exact⟨rfl,h2,v,dv,rv⟩
  · rw[if_neg h,if_neg h];exact⟨rfl,h2,h3⟩
theorem tD(k:List Int):∀kvs:List (List Int×M3.D),(kvs.any fun kv=>decide (kv.1=k))=(M3.look kvs k).isSome
 | []=>rfl
 |(a,d) :: r=>by
  rw[List.any_cons]
  by_cases h:a=k
  · have e1:M3.look ((a,d) :: r) k=some d:=by simp [M3.look,h]
    rw[e1];simp [h]
  · have e1:M3.look ((a,d) :: r) k=M3.look r k:=by simp [M3.look,h]
    rw[e1,<-tD k r];simp [h]
theorem KDT.put(k:List Int){b:Addr}{d:M3.D}{v:V}{u:Value}(hb:SqT K H b (k.map V.int))(dv:Den K H μ d v)(rv:RelV v u){kvs:List (List Int×M3.D)}{xs:List (List Int×Addr×Value)}(r:KDT K H μ kvs xs):KDT K H μ (M3.put kvs k d) (storedH xs k b u):=by
 have e:(kvs.any fun kv=>decide (kv.1=k))=(atKey xs k).isSome:=by
  have h1:=tD k kvs
  rw[h1]
  rcases KDT.look k r with ⟨a,b⟩ |⟨_,_,_,a,b,_⟩ <;> rw[a,b] <;> rfl
 unfold M3.put storedH
 rw[e]
 by_cases q:(atKey xs k).isSome=true
 · rw[if_pos q,if_pos q];exact KDT.xT k dv rv r
 · rw[if_neg q,if_neg q];exact Paired.snoc r ⟨rfl,hb,v,dv,rv⟩
def FC{P:Program}{w:World}{h:Heap}{a:Addr}{xs:List (List Int×Addr×Value)}(t:lK a xs h):bR P w H h a (.ext (lK a xs)):=by
 refine⟨t,?_,fun h1 h2 t1 k=>?_⟩
 · obtain⟨_,_,o,_,_,h1,_⟩:=t;exact⟨o,h1⟩
 · obtain⟨z,y,o,es,ep,e,r⟩:=t1
   exact⟨z,y,o,es,ep,k o e,r⟩
end
section
variable{X:Cx}{T:Tab}{Y:EX}{a b e o i:Expr}{fa fb fc:M3.E3}{pos pos' p p2 apos:Pos}
def n0{K:PySem.W.Frag}{H:Hp}{μ:List Addr}{x:M3.D}{k:List Int}{v:V}(h:M3.nS x=some k)(d:Den K H μ x v):∃c,v= .ref c/\SqT K H c (k.map V.int):=by
 cases x with
 |tup xs=>
  obtain⟨c,vs,rfl,sq,ds⟩:=d
  have h:M3.intsOf xs=some k:=h
  cases cH h
  rw[ax.ints ds]at sq
  exact⟨c,rfl,sq⟩
 |_=>cases h
def tH{G:M3.Hh}{x y:M3.D}{o:Option M3.D}(h:M3.gZ x y G=some o):∃n kvs k,y= .ref n/\G[n]? =some (.dT kvs)/\M3.nS x=some k/\M3.look kvs k=o:=by
 unfold M3.gZ at h
 cases y with
 |ref n=>
  dsimp only at h
  cases q:G[n]? with
  |none=>rw[q]at h;cases h
  |some ob=>
   rw[q]at h
   cases ob with
   |dT kvs=>
    dsimp only at h
    cases qk:M3.nS x with
    |none=>rw[qk]at h;cases h
    |some k=>rw[qk]at h;exact⟨n,kvs,k,rfl,q,rfl,Option.some.inj h⟩
   |_=>cases h
 |_=>cases h
def yX(T:Tab)(K:PySem.W.Frag)(neg:Bool):R2:=fun v w H Q=>∃μ G x y o,Sim T K μ H G/\Den K H μ x v/\Den K H μ y w/\M3.gZ x y G=some o/\Q (.bl (if neg then !o.isSome else o.isSome)) H
def tQ(hu:X.A.units+9 < cLine)(neg:Bool){pins:List (Addr×Obj)}{s:Shared}{σ:L2.St}{H:Hp}{v w:V}{u u':Value}{Q:VK}(I:Inv X pins σ H s)(r:RelV v u)(r':RelV w u')(h:yX T X.K neg v w H Q):
 wpAny (model X.prog X.w) X.A (compareOp (if neg then .NotIn else .In) u u') (EP X pins σ Q) X.xe s:=by
 obtain⟨μ,G,x,y,o,S,dx,dy,e,q⟩:=h
 obtain⟨n,kvs,k,rfl,qn,qk,ql⟩:=tH e
 obtain⟨c,rfl,sq⟩:=n0 qk dx
 obtain⟨d,ed,rfl⟩:=dy
 cases (show u=Value.ref c from r)
 cases (show u'=Value.ref d from r')
 obtain⟨xs,e1,rs⟩:=S.obj n d _ ed qn
 obtain⟨z,_,dd⟩:=dtI I e1 rs
 have hb:(atKey xs k).isSome=o.isSome:=by
  rcases KDT.look k rs with ⟨h1,h2⟩ |⟨_,_,_,h1,h2,_⟩
  · rw[h2,<-ql,h1];rfl
  · rw[h2,<-ql,h1];rfl
 cases neg with
 |false=>exact wpAny_in_heap (tupleKind_room_in1 (by omega)) (yg I sq) z dd ⟨.bl o.isSome,H,I.tok _,by rw[hb];rfl,q⟩
 |true=>exact wpAny_notIn_heap (tupleKind_room_in1 (by omega)) (yg I sq) z dd ⟨.bl (!o.isSome),H,I.tok _,by rw[hb];rfl,q⟩
def zX{α:Type}{G:M3.Hh}{o:Option α}{f:α->M3.D}{P:M3.D->M3.Hh->Prop}{Z:Nat->M3.Hh->Prop}(h:M3.run (fun G=>o.map fun x=>(M3.Oc.ok (f x),G)) G P Z):∃x,o=some x/\P (f x) G:=by
 unfold M3.run at h
 cases o with
 |none=>exact False.elim h
 |some x=>exact⟨x,rfl,h⟩
def E8(hu:X.A.units+64 < cLine):OpR X (compareOp .In) (yX T X.K false)/\Br2 T X.K Y M3.zA (yX T X.K false):=⟨fun pins s σ H v w u u' Q I r r' h=>tQ (by omega) false I r r' h,by
 intro μ H G x y v w Q S dx dy h
 obtain⟨z,e,q⟩:=zX (o:=M3.gZ x y G) (f:=fun o=>.bl o.isSome) (show M3.run (fun G'=>(M3.gZ x y G).map _) G _ _ from h)
 exact⟨μ,G,x,y,z,S,dx,dy,e,q _ H μ (Up.refl _ _) S rfl⟩⟩
def xR(hu:X.A.units+64 < cLine):OpR X (compareOp .NotIn) (yX T X.K true)/\Br2 T X.K Y M3.kz (yX T X.K true):=⟨fun pins s σ H v w u u' Q I r r' h=>tQ (by omega) true I r r' h,by
 intro μ H G x y v w Q S dx dy h
 obtain⟨z,e,q⟩:=zX (o:=M3.gZ x y G) (f:=fun o=>.bl (!o.isSome)) (show M3.run (fun G'=>(M3.gZ x y G).map _) G _ _ from h)
 exact⟨μ,G,x,y,z,S,dx,dy,e,q _ H μ (Up.refl _ _) S rfl⟩⟩
def HP(T:Tab)(K:PySem.W.Frag):R2:=fun v w H Q=>∃μ G x y d,Sim T K μ H G/\Den K H μ x v/\Den K H μ y w/\M3.gZ y x G=some (some d)/\∀z,Den K H μ d z->Q z H
def z8(hu:X.A.units+1 < cLine):IxR X (HP T X.K):=by
 intro value slice pins s σ H x y v u Q I rx ry h hs
 obtain⟨μ,G,dx',dy',d,S,dx,dy,e,q⟩:=h
 obtain⟨n,kvs,k,rfl,qn,qk,ql⟩:=tH e
 obtain⟨c,rfl,sq⟩:=n0 qk dy
 obtain⟨a,ed,rfl⟩:=dx
 cases (show v=Value.ref a from rx)
 cases (show u=Value.ref c from ry)
 obtain⟨xs,e1,rs⟩:=S.obj n a _ ed qn
 obtain⟨_,_,dd⟩:=dtI I e1 rs
 rcases KDT.look k rs with ⟨h1,h2⟩ |⟨d',p,z,h1,h2,h3,h4⟩
 · rw[h1]at ql;cases ql
 · rw[h1]at ql;cases ql
   refine tail_any dd.typeIs PySem.F.slot_dict_getitem.lookup ?_ hs
   exact wpAny_getItem_heap (tupleKind_room_in1 hu) (yg I sq) dd h2 ⟨z,H,I.tok _,h4,q z h3⟩
def DB(hu:X.A.units+64 < cLine)(ha:PE X a (tE T X.K Y fa))(hb:PE X b (tE T X.K Y fb))(hs:oy b:=by intro _ _;rfl):PE X (.Subscript a b pos) (tE T X.K Y (M3.eOp M3.xQ fa fb)):=
 PE.of (Dt (z8 (T:=T) (by omega)) ha hb hs) fun _ _ _ h=>zM (by
   intro μ H G x y v w Q S dx dy h
   unfold M3.run M3.xQ at h
   cases q:M3.gZ y x G with
   |none=>rw[q]at h;exact False.elim h
   |some o=>
    rw[q]at h
    cases o with
    |none=>exact False.elim h
    |some d=>exact⟨μ,G,x,y,d,S,dx,dy,q,fun z dz=>h z H μ (Up.refl _ _) S dz⟩) h
def wx{G:M3.Hh}{x y w:M3.D}{P:Unit->M3.Hh->Prop}{Z:Nat->M3.Hh->Prop}(h:M3.run (M3.qM x y w) G P Z):∃n kvs k,x= .ref n/\G[n]? =some (.dT kvs)/\M3.nS y=some k/\kvs.length < M3.aC/\P () (G.set n (.dT (M3.put kvs k w))):=by
 unfold M3.run M3.qM at h
 cases x with
 |ref n=>
  dsimp only at h
  cases q:G[n]? with
  |none=>rw[q]at h;exact False.elim h
  |some ob=>
   rw[q]at h
   cases ob with
   |dT kvs=>
    dsimp only at h
    cases qk:M3.nS y with
    |none=>rw[qk]at h;exact False.elim h
    |some k=>
     rw[qk]at h
     dsimp only at h
     by_cases c:kvs.length < M3.aC
     · rw[if_pos c]at h;exact⟨n,kvs,k,rfl,q,rfl,c,h⟩
     · rw[if_neg c]at h;exact False.elim h
   |_=>exact False.elim h
 |_=>exact False.elim h
def Gm(T:Tab)(K:PySem.W.Frag):AN:=fun o i v H Q=>∃μ G n kvs k c d w a,Sim T K μ H G/\μ[n]? =some a/\o= .ref a/\G[n]? =some (.dT kvs)/\i= .ref c/\SqT K H c (k.map V.int)/\Den K H μ w v/\kvs.length < M3.aC/\d=(G.set n (.dT (M3.put kvs k w)))/\
 ∀H',Up μ μ H H'->Sim T K μ H' d->Q H'
def nB(xs:List (List Int×Addr×Value))(k:List Int)(a:Addr)(u:Value):(storedH xs k a u).length<=xs.length+1:=by
 unfold storedH
 split
 · rw[qM_];omega
 · simp
def xy(hu:X.A.units+64 < cLine):sV X (Gm T X.K):=by
 intro pins s σ H o i v ov iv u Q I ro ri rv h
 obtain⟨μ,G,n,kvs,k,c,_,w,a,S,ea,rfl,qn,rfl,sq,dw,cl,rfl,q⟩:=h
 cases (show ov=Value.ref a from ro)
 cases (show iv=Value.ref c from ri)
 obtain⟨xs,e1,rs⟩:=S.obj n a _ ea qn
 obtain⟨z,hz,dd⟩:=dtI I e1 rs
 have hl:xs.length < sizeLine:=by rw[<-Paired.length rs,<-bX];exact cl
 refine wpAny_setItem_heap (hsz:=hz) (tupleKind_room_in1 (by omega)) (yg I sq) dd fun h' dd' hs=>?_
 obtain⟨ob,es,ep,hq,h2,h3,h4,_,h5⟩:=dd'
 have up:=Up.set S (.ext (lK a (storedH xs k c u))) ea qn rfl
 refine⟨upd H a (.ext (lK a (storedH xs k c u))),oC I (by rw[e1];exact True.intro) hs ⟨ob,hq⟩ (FC ⟨z,Nat.le_trans (nB _ _ _ _) hl,ob,es,ep,hq,h2,h3,h4,h5⟩),q _ up (S.set ea qn rfl rfl ⟨_,aK,?_⟩)⟩
 exact KDT.put k (SqT.keeps up.keeps sq) (Den.up up dw) rv (Paired.imp' (fun _ _ z=>⟨z.1,SqT.keeps up.keeps z.2.1,let ⟨v,x,y⟩:=z.2.2;⟨v,Den.up up x,y⟩⟩) rs)
def Am(hu:X.A.units+64 < cLine)(ho:PE X o (tE T X.K Y fa))(hi:PE X i (tE T X.K Y fb))(he:PE X e (tE T X.K Y fc))
 (ha:∀v,assign (.Subscript o i pos') X.env v=(do
   let ov <-holding [v] (eval o X.env)
   let iv <-holding [v,ov] (eval i X.env)
   standAt pos'
   holding [v,ov,iv] (setItem ov iv v)
   release [v,ov,iv] []):=by intro _;rfl)
 (hs:swapsWithSole [.Subscript o i pos'] e pos.line X.env=pure false:=by rfl) (hw:swappedStores [.Subscript o i pos'] e X.env=pure none:=by rfl)
 (h1:(assignEach [.Subscript o i pos'] X.env).map (·.2)=[assign (.Subscript o i pos') X.env]:=by rfl):PS X (.Assign [.Subscript o i pos'] e pos) (tS T X.K Y (M3.Ao fa fb fc)):=by
 refine PS.of (v7 he (zj ho hi (xy (T:=T) hu) ha) hs hw h1) fun D σ H ⟨μ,σ3,G,S,sd,h⟩=>⟨μ,σ3,G,S,sd,bq h fun w G1 wv H1 μ1 u1 S1 d1 h1=>?_⟩
 refine⟨μ1,σ3,G1,S1,sd.up u1,bq h1 fun x G2 xv H2 μ2 u2 S2 d2 h2=>⟨μ2,σ3,G2,S2,sd.up (u1.trans u2),bq h2 fun y G3 yv H3 μ3 u3 S3 d3 h3=>?_⟩⟩
 obtain⟨n,kvs,k,rfl,qn,qk,cl,h4⟩:=wx (M3.aR h3)
 obtain⟨c,ec,rfl⟩:=Den.up u3 d2
 obtain⟨b,rfl,sq⟩:=n0 qk d3
 exact⟨μ3,G3,n,kvs,k,b,_,w,c,S3,ec,rfl,qn,rfl,sq,Den.up (u2.trans u3) d1,cl,rfl,fun H' up S'=>h4 _ _ μ3 (((u1.trans u2).trans u3).trans up) S' (sd.up (((u1.trans u2).trans u3).trans up))⟩
def zb{h:Heap}(hb:sysModules < h.objs.size):lK h.objs.size [] (h.push {cls:= .type "dict",data:= .dict #[]}):=
 ⟨beq_eq_false_iff_ne.mpr (Ne.symm (Nat.ne_of_lt hb)),qf_ _,_,#[],0,Heap.get?_push_size _ rfl,⟨rfl,rfl,rfl⟩,rfl,rfl,List.nodup_nil⟩
def GC{pins:List (Addr×Obj)}{s:Shared}{σ:L2.St}{H:Hp}(I:Inv X pins σ H s):Inv X pins σ (upd H s.heap.objs.size (.ext (lK s.heap.objs.size []))) {s with heap:=s.heap.push {cls:= .type "dict",data:= .dict #[]}}:=
 I.laid (a:=s.heap.objs.size) (o:= .ext (lK s.heap.objs.size [])) (h':=s.heap.push {cls:= .type "dict",data:= .dict #[]}) (t':=s.toks) (fun _ _ q=>Heap.get?_push_of_some _ q) (qO_ _) (FC (zb I.big))
def Iw(T:Tab)(K:PySem.W.Frag)(Q:VK)(n:Nat)(p:Addr)(xv yv:V)(H:Hp):Prop:=∃μ G kvs k w c,Sim T K μ H G/\μ[n]? =some p/\xv= .ref c/\G[n]? =some (.dT kvs)/\SqT K H c (k.map V.int)/\Den K H μ w yv/\kvs.length < M3.aC/\
 ∀H',Up μ μ H H'->Sim T K μ H' (G.set n (.dT (M3.put kvs k w)))->Q (.ref p) H'
def zo(hu:X.A.units+64 < cLine)(hk:PE X a (tE T X.K Y fa))(hv:PE X b (tE T X.K Y fb)):PE X (.Dict [some a] [b] pos) (tE T X.K Y (M3.zk fa fb)):=by
 intro pins s σ H Q I ⟨μ,σ3,G,S,sd,h⟩
 have hq:=I.hok.fresh (qO_ s.heap.objs.size)
 have I1:=GC I
 have u1:Up μ (μ++[s.heap.objs.size]) H (upd H s.heap.objs.size (.ext (lK s.heap.objs.size []))):=Up.new _ hq
 have S1:Sim T X.K (μ++[s.heap.objs.size]) (upd H s.heap.objs.size (.ext (lK s.heap.objs.size []))) (G++[.dT []]):=S.new hq rfl ⟨[],aK,.nil⟩
 have h0:M3.run (M3.bnd (fa σ3) fun k=>M3.bnd (fb σ3) fun v=>M3.bnd (M3.qM (.ref G.length) k v) fun _=>M3.ret (M3.D.ref G.length)) (G++[.dT []]) (du T X.K μ H Q) (Y.x μ H):=h
 have ex:(μ++[s.heap.objs.size])[G.length]? =some s.heap.objs.size:=by rw[<-S.len];simp
 have t1:tE T X.K Y fa σ (upd H s.heap.objs.size (.ext (lK s.heap.objs.size []))) (fun xv H2=>tE T X.K Y fb σ H2 fun yv H3=>Iw T X.K Q G.length s.heap.objs.size xv yv H3):=by
  refine⟨_,σ3,_,S1,sd.up u1,bq (EX.upE Y u1 (cD h0 fun a G' z=>du.up u1 z)) fun x G2 xv H2 μ2 u2 S2 d2 h2=>⟨μ2,σ3,G2,S2,sd.up (u1.trans u2),bq h2 fun y G3 yv H3 μ3 u3 S3 d3 h3=>?_⟩⟩
  obtain⟨n,kvs,k,e,qn,qk,cl,h4⟩:=wx (M3.aR h3)
  cases e
  obtain⟨c,rfl,sq⟩:=n0 qk (Den.up u3 d2)
  have e3:=(u2.trans u3).at ex
  exact⟨μ3,G3,kvs,k,y,c,S3,e3,rfl,qn,sq,d3,cl,fun H' up S'=>h4 _ _ μ3 ((u2.trans u3).trans up) S' ⟨_,e3,rfl⟩⟩
 refine wpAny_Dict_any rfl rfl (by simp) (by show 1<=15;decide) (pairTrees_cons_walk (thn (hk pins _ σ _ _ I1 t1) fun kv s2 ⟨xv,H2,I2,rx,q2⟩=>thn (hv pins s2 σ H2 _ I2 q2) fun vv s3 ⟨yv,H3,I3,ry,q3⟩=>pairTrees_nil_walk ?_))
 obtain⟨μ3,G3,kvs,k,w,c,S3,ea,rfl,qn,sq,dw,cl,q⟩:=q3
 cases (show kv=Value.ref c from rx)
 obtain⟨xs,e1,rs⟩:=S3.obj _ _ _ ea qn
 obtain⟨z,hz,dd⟩:=dtI I3 e1 rs
 have hl:xs.length < sizeLine:=by rw[<-Paired.length rs,<-bX];exact cl
 unfold storeAll
 rw[List.forIn_cons]
 refine wpAny_bind (wpAny_bind (wpAny_dictSet_heap (hsz:=hz) (knd:=tupleKind (intKind X.prog X.w)) (show X.A.units < cLine by omega) (yg I3 sq) dd fun h' dd' hs=>wpAny_pure ?_))
 show wpAny _ _ (forIn [] _ _) _ _ _
 rw[List.forIn_nil]
 refine wpAny_pure ?_
 obtain⟨ob,es,ep,hq,h2,h3,h4,_,h5⟩:=dd'
 have up:=Up.set S3 (.ext (lK s.heap.objs.size (storedH xs k c vv))) ea qn rfl
 refine⟨.ref s.heap.objs.size,upd H3 s.heap.objs.size (.ext (lK s.heap.objs.size (storedH xs k c vv))),oC I3 (by rw[e1];exact True.intro) hs ⟨ob,hq⟩ (FC ⟨z,Nat.le_trans (nB _ _ _ _) hl,ob,es,ep,hq,h2,h3,h4,h5⟩),rfl,q _ up (S3.set ea qn rfl rfl ⟨_,aK,?_⟩)⟩
 exact KDT.put k (SqT.keeps up.keeps sq) (Den.up up dw) ry (Paired.imp' (fun _ _ z=>⟨z.1,SqT.keeps up.keeps z.2.1,let ⟨v,x,y⟩:=z.2.2;⟨v,Den.up up x,y⟩⟩) rs)
end
end L3
namespace HT
open PySem PyProof.Rows
def A4(A:Around)(s:Shared)(a:Int)(t:Tok)(c:Int)(u:Tok)(prog:Program)(w:World)(E:Value->Shared->Prop)(Q:Value->Shared->Prop)(h:Q (.bool (decide (c<=a))) s):
 wpAny (model prog w) A (richCompare .GtE (.int a t) (.int c u)) Q E s:=
 (PyProof.Rows.ge_int h:wpAny (model prog w) A (compareOp .GtE (.int a t) (.int c u)) Q E s)
section
open PySem.SeqAt
open PySem.AutoSeq1 (wpAny_loadPart')
open PySem.MeetsSeq PySem.MeetsSeq2 PySem.MeetsSeq3
def qr(l b:Addr)(items items2:Array Value)(n n2:Nat)(dd dd2:Option Addr)(sl sl2:Array (Option Value))(ns ms:List Int)(hi:IntsAre items.toList ns)(hj:IntsAre items2.toList ms):
 Meets (Builtin.«tuple.__ge__» ⟨[.ref l,.ref b],[]⟩)
  (fun _ R s=>s.heap.get? l=some {cls:= .type "tuple",dict:=dd,data:= .seq items n,slots:=sl}/\s.heap.get? b=some {cls:= .type "tuple",dict:=dd2,data:= .seq items2 n2,slots:=sl2}/\
    R (.ok (.ret (.bool (!lexLt ns ms)))) s):=
 .of_wp fun prog w A R s h=>by
  obtain⟨hp,g,d,tk,os⟩:=s;obtain⟨hl,hb,h⟩:=h
  have f2:=AutoSeq1.sub_tuple_tuple
  have z1:items.size=ns.length:=by rw[<-hi.length];simp
  have z2:items2.size=ms.length:=by rw[<-hj.length];simp
  wp_walk using wpAny_loadPart' hl,wpAny_loadPart' hb,wpAny_forIn_list _ (fun rest b s'=>b.1=none/\s'=⟨hp,g,d,tk,os⟩/\∃(vs ws:List Value) (ns' ms':List Int),rest=vs.zip ws/\
   IntsAre vs ns'/\IntsAre ws ms'/\ns'.length+items2.size=ms'.length+items.size/\R (.ok (.ret (.bool (!lexLt ns' ms')))) ⟨hp,g,d,tk,os⟩) _
  case turn=>
   rintro⟨y,x⟩ rest b s' ⟨hb',rfl,vs,ws,ns',ms',hz,hvi,hwi,hlen,hR⟩
   cases hvi with
   |nil=>rw[List.zip_nil_left]at hz;cases hz
   |cons a t hvi'=>
    cases hwi with
    |nil=>rw[List.zip_nil_right]at hz;cases hz
    |cons c u hwi'=>
     rw[List.zip_cons_cons]at hz
     injection hz with hyx hrest
     injection hyx with hy hx
     subst hy hx
     rw[lq]at hR
     simp only[List.length_cons]at hlen
     obtain⟨e,he,hiff⟩:=pb A.in1 ⟨hp,g,d,tk,os⟩ a t c u
     refine wpAny_bind (he prog w _ _ ?_)
     cases e with
     |true=>
      rw[if_pos (hiff.mp rfl)]at hR
      wp_walk
      exact⟨rfl,rfl,_,_,_,_,hrest,hvi',hwi',by omega,hR⟩
     |false=>
      have ne:¬a=c:=fun q=>absurd (hiff.mpr q) qC_
      rw[if_neg ne,show (!decide (a < c))=decide (c<=a) by rw[<-decide_not];exact decide_eq_decide.mpr (by omega)]at hR
      have hri:=A4 A.in1 ⟨hp,g,d,tk,os⟩ a t c u prog w
      wp_walk using hri
      exact⟨_,rfl,by simpa using hR⟩
  case fin=>
   rintro⟨b1,b2⟩ s' ⟨hb',rfl,vs,ws,ns',ms',hz,hvi,hwi,hlen,hR⟩
   simp only at hb'
   subst hb'
   have hv:(!lexLt ns' ms')=decide (items2.size<=items.size):=by
    cases hvi with
    |nil=>
     cases hwi with
     |nil=>
      simp only[List.length_nil]at hlen
      rw[ij]
      exact(qZ_ (by omega)).symm
     |cons c u hw=>
      simp only[List.length_nil,List.length_cons]at hlen
      rw[gB]
      exact(qa_ (by omega)).symm
    |cons a t hv=>
     cases hwi with
     |nil=>
      simp only[List.length_nil,List.length_cons]at hlen
      rw[gm]
      exact(qZ_ (by omega)).symm
     |cons c u hw=>
      rw[List.zip_cons_cons]at hz
      cases hz
   rw[hv]at hR
   wp_walk
   exact⟨_,rfl,by simpa [Builtin.Tuple.tupleCompareSizes] using hR⟩
  case h=>
   exact⟨rfl,rfl,items.toList,items2.toList,ns,ms,rfl,hi,hj,by omega,h⟩
end
def vP{prog:Program}{w:World}{A:Around}{E:Value->Shared->Prop}{s:Shared}{l b:Addr}{items items2:Array Value}{ns ms:List Int}{Q:Value->Shared->Prop}(hl:IsTup s.heap l items)(hb:IsTup s.heap b items2)(hi:IntsAre items.toList ns)(hj:IntsAre items2.toList ms)
 (hu:A.units < cLine) (h:Q (.bool (!lexLt ns ms)) s):wpAny (model prog w) A (compareOp .GtE (.ref l) (.ref b)) Q E s:=by
 obtain⟨⟨cls,dd,data,sl⟩,ho,hc,n,hd⟩:=id hl
 obtain⟨⟨cls2,dd2,data2,sl2⟩,ho2,hc2,n2,hd2⟩:=id hb
 simp only at hc hd hc2 hd2
 subst hc hd hc2 hd2
 exact richCompare_meets_room (op:= .GtE) ⟨_,ho,rfl⟩ ⟨_,ho2,rfl⟩ PySem.F.slot_tuple_ge PySem.F.entry_tuple_ge (PySem.F.args_tuple_ge_2 _ _) (qr l b items items2 n n2 dd dd2 sl sl2 ns ms hi hj)
  ⟨ho,ho2,show Value.bool (!lexLt ns ms)≠Value.notImplemented/\Q (.bool (!lexLt ns ms)) s from⟨(fun x=>nomatch x),h⟩⟩ hu
end HT
namespace L3
open PySem PySem.Spec PyProof.Rows L2 PySem.SeqAt
section
variable{X:Cx}{T:Tab}{Y:EX}
def FQ(K:PySem.W.Frag):R2:=fun x y H Q=>∃a b ns ms,x= .ref a/\y= .ref b/\SqT K H a (ns.map V.int)/\SqT K H b (ms.map V.int)/\Q (.bl (!HT.lexLt ns ms)) H
def EA(hu:X.A.units < cLine):OpR X (compareOp .GtE) (FQ X.K):=by
 intro pins s σ H x y v u Q I rx ry h
 obtain⟨a,b,ns,ms,rfl,rfl,ha,hb,q⟩:=h
 cases rx
 cases ry
 obtain⟨its,r1,p1,_⟩:=I.tuple ha
 obtain⟨its2,r2,p2,_⟩:=I.tuple hb
 have i1:IntsAre its.toArray.toList ns:=intsAre_of r1
 have i2:IntsAre its2.toArray.toList ms:=intsAre_of r2
 exact HT.vP p1 p2 i1 i2 hu ⟨.bl (!HT.lexLt ns ms),H,I,rfl,q⟩
def Ea(hu:X.A.units+64 < cLine):OpR X (compareOp .GtE) (FQ X.K)/\Br2 T X.K Y M3.BD (FQ X.K):=⟨EA (by omega),by
 intro μ H G x y v w Q S dx dy h
 cases x with
 |tup ds=>cases y with
  |tup es=>
   unfold M3.BD at h
   dsimp only at h
   cases q1:M3.intsOf ds with
   |none=>rw[q1]at h;exact False.elim h
   |some m=>
    cases q2:M3.intsOf es with
    |none=>rw[q1,q2]at h;exact False.elim h
    |some n=>
     rw[q1,q2]at h
     rw[cH q1]at dx
     rw[cH q2]at dy
     obtain⟨p,vs,rfl,sp,rp⟩:=dx
     obtain⟨q,ws,rfl,sq,rq⟩:=dy
     rw[ax.ints rp]at sp
     rw[ax.ints rq]at sq
     refine⟨p,q,m,n,rfl,rfl,sp,sq,?_⟩
     rw[<-om]
     exact h _ H μ (Up.refl _ _) S rfl
  |_=>exact False.elim h
 |_=>exact False.elim h⟩
end
open PySem PySem.Spec PyProof.Rows L2
section
variable{X:Cx}{T:Tab}{Y:EX}{a b:Expr}{fa fb:M3.E3}{pos:Pos}
def Fy(ha:PE X a (tE T X.K Y fa))(hb:PE X b (tE T X.K Y fb)):PE X (.BinOp a .Add b pos) (tE T X.K Y (M3.eOp M3.gI fa fb)):=Cr BP ha hb
def EL(ha:PE X a (tE T X.K Y fa))(hb:PE X b (tE T X.K Y fb)):PE X (.BinOp a .Sub b pos) (tE T X.K Y (M3.eOp M3.uz fa fb)):=Cr BC ha hb
def E6(ha:PE X a (tE T X.K Y fa))(hb:PE X b (tE T X.K Y fb)):PE X (.BinOp a .Mult b pos) (tE T X.K Y (M3.eOp M3.fj fa fb)):=Cr CO ha hb
def FW(ha:PE X a (tE T X.K Y fa))(hb:PE X b (tE T X.K Y fb)):PE X (.BinOp a .Mod b pos) (tE T X.K Y (M3.eOp M3.oMod fa fb)):=Cr Cc ha hb
def Hz(ha:PE X a (tE T X.K Y fa))(hb:PE X b (tE T X.K Y fb))(hu:X.A.units+64 < cLine):PE X (.Compare a [.Eq] [b] pos) (tE T X.K Y (M3.eOp M3.oEq fa fb)):=Aw (Dx hu) ha hb (hW _)
def HM(ha:PE X a (tE T X.K Y fa))(hb:PE X b (tE T X.K Y fb))(hu:X.A.units+64 < cLine):PE X (.Compare a [.Lt] [b] pos) (tE T X.K Y (M3.eOp M3.oLt fa fb)):=Aw (Ds hu) ha hb (hW _)
def Gi(ha:PE X a (tE T X.K Y fa))(hb:PE X b (tE T X.K Y fb))(hu:X.A.units+64 < cLine):PE X (.Compare a [.Gt] [b] pos) (tE T X.K Y (M3.eOp M3.oGt fa fb)):=Aw (De hu) ha hb (hW _)
def GO(ha:PE X a (tE T X.K Y fa))(hb:PE X b (tE T X.K Y fb))(hu:X.A.units+64 < cLine):PT X (.Compare a [.Eq] [b] pos) (tT T X.K Y (M3.tB (M3.eOp M3.oEq fa fb))):=kY (Dx hu) ha hb (hW _)
def F9(ha:PE X a (tE T X.K Y fa))(hb:PE X b (tE T X.K Y fb))(hu:X.A.units+64 < cLine):PT X (.Compare a [.NotEq] [b] pos) (tT T X.K Y (M3.tB (M3.eOp M3.oNe fa fb))):=kY (Ih hu) ha hb (hW _)
def GS(ha:PE X a (tE T X.K Y fa))(hb:PE X b (tE T X.K Y fb))(hu:X.A.units+64 < cLine):PT X (.Compare a [.Lt] [b] pos) (tT T X.K Y (M3.tB (M3.eOp M3.oLt fa fb))):=kY (Ds hu) ha hb (hW _)
def GZ(ha:PE X a (tE T X.K Y fa))(hb:PE X b (tE T X.K Y fb))(hu:X.A.units+64 < cLine):PT X (.Compare a [.Gt] [b] pos) (tT T X.K Y (M3.tB (M3.eOp M3.oGt fa fb))):=kY (De hu) ha hb (hW _)
def GA(ha:PE X a (tE T X.K Y fa))(hb:PE X b (tE T X.K Y fb))(hu:X.A.units+64 < cLine):PT X (.Compare a [.LtE] [b] pos) (tT T X.K Y (M3.tB (M3.eOp M3.oLe fa fb))):=kY (HW hu) ha hb (hW _)
def GI(ha:PE X a (tE T X.K Y fa))(hb:PE X b (tE T X.K Y fb))(hu:X.A.units+64 < cLine):PT X (.Compare a [.GtE] [b] pos) (tT T X.K Y (M3.tB (M3.eOp M3.oGe fa fb))):=kY (Hq hu) ha hb (hW _)
def A8(ha:PE X a (tE T X.K Y fa))(hb:PE X b (tE T X.K Y fb))(hu:X.A.units+64 < cLine)(hm:behindInMarks .In b=false:=by rfl):PT X (.Compare a [.In] [b] pos) (tT T X.K Y (M3.tB (M3.eOp M3.zA fa fb))):=kY (E8 hu) ha hb hm
def qS(ha:PE X a (tE T X.K Y fa))(hb:PE X b (tE T X.K Y fb))(hu:X.A.units+64 < cLine)(hm:behindInMarks .NotIn b=false:=by rfl):PT X (.Compare a [.NotIn] [b] pos) (tT T X.K Y (M3.tB (M3.eOp M3.kz fa fb))):=kY (xR hu) ha hb hm
end
section
variable{X:Cx}{T:Tab}{Y:EX}{K:PySem.W.Frag}{o e:Expr}{es:List Expr}{fa:M3.E3}{f3:M3.A3}{pos p:Pos}{x:Str}{C:Nat}{f:List M3.D->M3.M M3.D}
def BK(h:False):PE X (.Call (.Name x p) (e :: es) [] pos) (tE T K Y (M3.aF f f3)):=h.elim
def Cg(h:False):PE X (.Call (.Attribute o x p) (e :: es) [] pos) (tE T K Y (M3.aN C f fa f3)):=h.elim
def ze(h:False):PE X (.Call (.Attribute o x p) [] [] pos) (tE T K Y (M3.aN C f fa f3)):=h.elim
def BW(h:False):PE X (.Call (.Name x p) (e :: es) [] pos) (tE T K Y (M3.j6 C f f3)):=h.elim
def AH(h:False):PE X (.Call (.Name x p) [] [] pos) (tE T K Y (M3.j6 C f f3)):=h.elim
end
end L3
namespace M3
open PySem
section
variable{α β:Type}{G G':Hh}{E:Nat->Hh->Prop}{σ:St}
variable{Q:D->Hh->Prop}{QB:Bool->Hh->Prop}{QA:List D->Hh->Prop}{QS:Fl×St->Hh->Prop}{QU:Unit->Hh->Prop}{QI:Src->Hh->Prop}{QG:St->Hh->Prop}
def Cz{QP:Option Int->Hh->Prop}(h:QP none G):run (tF σ) G QP E:=h
def sD{e:E3}{QP:Option Int->Hh->Prop}(h:run (e σ) G (fun d G1=>run (asI d) G1 QP E) E):run (oT e σ) G QP E:=ay h
def Ax{i:Int}{QP:Option Int->Hh->Prop}(h:QP (some i) G):run (asI (.int i)) G QP E:=h
def HG{n:Nat}{xs:List D}{lo hi:Option Int}(hn:G[n]? =some (.frz xs))(h:Q (.ref G.length) (G++[.lst (cutD xs lo hi)])):run (oSl (.ref n) lo hi) G Q E:=by
 unfold run oSl
 dsimp only
 rw[hn]
 exact h
def B8{e:E3}(h:run (e σ) G (fun x G1=>run (o9 x) G1 QI E) E):run (zC e σ) G QI E:=ay h
def BN{n:Nat}{xs:List D}(hl:G[n]? =some (.lst xs))(h:QI ⟨iz xs,fun G'=>decide (G'[n]? =some (.lst xs))⟩ G):run (o9 (.ref n)) G QI E:=by
 refine aP (G':=G) ?_ h
 unfold o9;dsimp only;rw[hl]
def xu{xs:List D}{i:Nat}{x:D}(h:(iz xs)[i]? =some x):∃y,xs[i]? =some y/\x= .tup [.int (i:Int),y]:=by
 unfold iz at h
 rw[List.getElem?_mapIdx]at h
 cases q:xs[i]? with
 |none=>rw[q]at h;cases h
 |some y=>rw[q]at h;exact⟨y,rfl,(Option.some.inj h).symm⟩
def yf{xs:List D}:(iz xs).length=xs.length:=by simp [iz]
def fJ{j:Nat}(hj:j<=1000000)(h:QI ⟨rng 0 j,fun _=>true⟩ G):run (BX (.int (j:Int))) G QI E:=by
 have c:rA (j:Int)=true:=by unfold rA;exact qZ_ (by omega)
 show run (if rA (j:Int)=true then ret (⟨rng 0 (j:Int).toNat,fun _=>true⟩:Src)else fail) G QI E
 rw[if_pos c,Int.toNat_natCast];exact h
def mP{n:Nat}{body:D->St->M (Fl×St)}(P:Nat->St->Hh->Prop)
 (hs:∀(i:Nat) σ G,i < n->P i σ G->run (body (.int (i:Int)) σ) G (fun p G1=>match p.1 with
   | .next=>P (i+1) p.2 G1
   | .cont=>P (i+1) p.2 G1
   | .brk=>QS (.next,p.2) G1
   | .ret d=>QS (.ret d,p.2) G1) E)
 (hd:∀σ G,P n σ G->QS (.next,σ) G) (h0:P 0 σ G):run (forL (fun _=>true) body (rng 0 n) σ) G QS E:=by
 refine oG (xs:=rng 0 n) P (fun _ _ _ _=>rfl) (fun i x σ G hx p=>?_) (fun σ G p=>hd σ G (by rw[oh]at p;exact p)) _ 0 σ G List.drop_zero (qf_ _) h0
 obtain⟨rfl,hi⟩:=mD hx
 rw[Int.zero_add]
 exact hs i σ G hi p
def jK{α:Type}{f:α->D}{xs:List α}{ck:Hh->Bool}{body:D->St->M (Fl×St)}(P:Nat->St->Hh->Prop)(hck:∀i σ G,P i σ G->ck G=true)
 (hs:∀(i:Nat) x σ G,xs[i]? =some x->P i σ G->run (body (f x) σ) G (fun p G1=>match p.1 with
   | .next=>P (i+1) p.2 G1
   | .cont=>P (i+1) p.2 G1
   | .brk=>QS (.next,p.2) G1
   | .ret d=>QS (.ret d,p.2) G1) E)
 (hd:∀σ G,P xs.length σ G->QS (.next,σ) G) (h0:P 0 σ G):run (forL ck body (xs.map f) σ) G QS E:=by
 refine oG (xs:=xs.map f) P hck (fun i x σ G hx p=>?_) (fun σ G p=>hd σ G (by rw[qM_]at p;exact p)) _ 0 σ G List.drop_zero (qf_ _) h0
 rw[qQ_]at hx
 cases q:xs[i]? with
 |none=>rw[q]at hx;cases hx
 |some y=>
  rw[q]at hx
  cases hx
  exact hs i y σ G q p
def EZ{n:Nat}{kvs:List (Key×D)}(hl:G[n]? =some (.dK kvs))(h:Q (.int kvs.length) G):run (dG [.ref n]) G Q E:=by
 refine aP (a:= .int kvs.length) (G':=G) ?_ h
 unfold dG;dsimp only;rw[hl]
end
end M3
local macro_rules |`(tactic|walk_at "f")=>`(tactic|(refine M3.Eb rfl ?_;simp only[List.map_cons,List.map_nil,List.cons_append,qc_]))
local macro_rules |`(tactic|lia)=>`(tactic|repeat walk_at "w")
local macro_rules |`(tactic|walk_at "s")=>`(tactic|simp only[List.set_cons_succ,List.set_cons_zero])
local macro_rules |`(tactic|walk_at "w")=>`(tactic|first
 |with_reducible refine M3.aD ?_
 |((with_reducible refine' M3.w_var ?e1 ?_);case e1=>rfl)
 |(with_reducible first |refine M3.w_c ?_ |refine M3.aA ?_)
 |((with_reducible refine M3.w_next ?_);try walk_at "s")
 |(with_reducible first |refine M3.FH ?_ |refine M3.bB ?_ |refine M3.b8 ?_ |refine M3.bI ?_ |refine M3.dZ ?_ |refine M3.cZ ?_ |refine M3.bT ?_ |refine M3.aj ?_ |refine M3.aB ?_ |refine M3.wu ?_ |refine M3.yR ?_ |refine M3.lL ?_ |refine M3.dI ?_ |refine M3.jM ?_ |refine M3.kc ?_ |refine M3.oY ?_ |refine M3.lH ?_ |refine M3.cn ?_ |refine M3.lA ?_ |refine M3.wd ?_ |refine M3.HX ?_ |refine M3.EM ?_ |refine M3.GV ?_ |refine M3.lM ?_ |refine M3.mT ?_ |refine M3.ol ?_ |refine M3.ox ?_ |refine M3.fL ?_ |refine M3.Ah ?_ |refine M3.zH ?_)
 |((with_reducible refine' M3.Fj ?e1 ?_);case e1=>decide)
 |((with_reducible refine' M3.FR ?e1 ?_);case e1=>decide)
 |((with_reducible refine' M3.m5 ?e1 ?_);case e1=>decide)
 |(with_reducible first |refine M3.A0 ?_ |refine M3.Hb ?_ |refine M3.C9 ?_ |refine M3.Gy ?_)
 |((with_reducible refine' M3.Ho ?e1 ?e2 ?_);(case e1=>rfl);(case e2=>rfl))
 |((with_reducible refine' M3.bi ?e1 ?_);case e1=>rfl)
 |(with_reducible first |refine M3.rS ?_ |refine M3.uH ?_ |refine M3.sg ?_ |refine M3.sQ ?_ |refine M3.xh ?_ |refine M3.Dk ?_ |refine M3.g8 ?_ |refine M3.mw ?_ |refine M3.gN ?_ |refine M3.nG ?_ |refine M3.rL ?_ |refine M3.AG ?_ |refine M3.jk ?_ |refine M3.j5 ?_ |refine M3.rJ ?_ |refine M3.FZ ?_ |refine M3.HZ ?_ |refine M3.Cz ?_ |refine M3.sD ?_ |refine M3.Ax ?_ |refine M3.B8 ?_)
 |((with_reducible refine' M3.wO ?e1 ?_);(case e1=>rfl);try walk_at "s")
 |((with_reducible refine' M3.ED ?e1 ?_);case e1=>exact qP_ rfl)
 |with_reducible refine And.intro (show (_:Nat)<=M3.aC from qP_ (by with_unfolding_all rfl)) ?_
 |(with_reducible first |refine M3.w_fld ?_ |refine M3.fv ?_ |refine M3.bu ?_ |refine M3.tK ?_ |refine M3.wM ?_ |refine M3.FG ?_ |refine M3.Bp ?_)
 |((with_reducible refine' M3.bh ?e1 ?e2 ?e3 ?_);(case e1=>assumption);(case e2=>decide);(case e3=>rfl))
 |((with_reducible refine' M3.bU ?e1 ?_);(case e1=>assumption))
 |with_reducible refine M3.ay ?_)
namespace KH
open PySem M3
def Ext(G G':Hh):Prop:=∃r,G'=G++r
def Ext.refl(G:Hh):Ext G G:=⟨[],by simp⟩
def Ext.trans{A B C:Hh}(a:Ext A B)(b:Ext B C):Ext A C:=by
 obtain⟨r,rfl⟩:=a
 obtain⟨t,rfl⟩:=b
 exact⟨r++t,by simp⟩
def Ext.add(G:Hh)(o:O):Ext G (G++[o]):=⟨[o],rfl⟩
def Ext.get{A B:Hh}(a:Ext A B){n:Nat}{o:O}(h:A[n]? =some o):B[n]? =some o:=by
 obtain⟨r,rfl⟩:=a
 rw[qK_ (qB_.mp h).1]
 exact h
def bc(G:Hh)(o:O):(G++[o])[G.length]? =some o:=by simp
def take_succ{α:Type}{xs:List α}{i:Nat}{x:α}(h:xs[i]? =some x):xs.take (i+1)=xs.take i++[x]:=by
 rw[List.take_add_one,h];rfl
def rG{α:Type}{f:α->D}{ps:List α}{i:Nat}{x:D}(h:(ps.map f)[i]? =some x):∃p,ps[i]? =some p/\x=f p:=by
 rw[qQ_]at h
 cases e:ps[i]? with
 |none=>rw[e]at h;cases h
 |some p=>rw[e]at h;exact⟨p,rfl,(Option.some.inj h).symm⟩
def iH{α:Type}{f:α->D}{xs:List α}{i:Nat}{x:α}(h:xs[i]? =some x):atI (xs.map f) (i:Int)=some (f x):=by
 have hl:=(qB_.mp h).1
 unfold atI M3.ixN
 rw[if_pos (Int.natCast_nonneg _),qM_,if_pos (by exact_mod_cast hl)]
 simp [h]
def Ab{α:Type}{f:α->D}{xs:List α}{i:Int}{x:α}(h0:0<=i)(h:xs[i.toNat]? =some x):atI (xs.map f) i=some (f x):=by
 have:=iH (f:=f) h
 rwa [Int.toNat_of_nonneg h0]at this
def eq_int{G:Hh}{k:Nat}{a b:Int}:eqG G (k+1) (.int a) (.int b)=some (decide (a=b)):=rfl
def mX{κ:Type} [DecidableEq κ]{kvs:List (κ×D)}{k:κ}:look kvs k=none↔k∉kvs.map (·.1):=by
 unfold look
 rw[Option.map_eq_none_iff,List.find?_eq_none]
 constructor
 · intro h z
   obtain⟨kv,hm,e⟩:=qH_.mp z
   exact h kv hm (qZ_ e)
 · intro h kv hm e
   exact h (qH_.mpr ⟨kv,hm,of_decide_eq_true e⟩)
def um{κ:Type} [DecidableEq κ]{kvs:List (κ×D)}{k:κ}:(look kvs k).isSome=decide (k∈kvs.map (·.1)):=by
 by_cases h:k∈kvs.map (·.1)
 · rw[qZ_ h]
   cases q:look kvs k with
   |none=>exact absurd h (mX.mp q)
   |some _=>rfl
 · rw[qa_ h,mX.mpr h];rfl
end KH
namespace KC
open PySem M3
def mK:S3:=
    (aG (eOp oGt (eOp fj (aa 1) (eC (.int 2))) (aa 0)))
def kj:List D->M D:=fnM 2 [] mK
def pw:S3:=
    (aw (bD 1 (eC (.tup [(.tup [(.int 0),(.int 0)]),(.int 0)])))
    (aw (jF (iOf (aa 0)) (gNm 2) (sIf (tB (eOp oGt (eOp oIx (aa 2) (eC (.int 0))) (eOp oIx (aa 1) (eC (.int 0))))) (bD 1 (aa 2)) bf))
    (aG (aa 1))))
def lX:List D->M D:=fnM 1 [none,none] pw
def ib:S3:=
    (aw (bD 3 (gz (iOf (aa 0)) [] kU (eOp oIx (eOp oIx (aa 0) (eC (.int 0))) (eC (.int 0)))))
    (aG (cm (ae (eOp gI (aF yn (ae (eOp gI (aa 3) (dJ (ae (aa 1) ao))) ao)) (eC (.int 1))) (ae (aa 2) ao)))))
def fx:List D->M D:=fnM 3 [none] ib
def jA:S3:=
    (aw (bz (aa 0) 0 (aa 1))
    (aw (bz (aa 0) 1 (aa 2))
    (aw (bz (aa 0) 2 (eC (.bl false)))
    (aw (bz (aa 0) 3 (eC .non))
    (aw (bz (aa 0) 4 (eC .non))
    (aw (bz (aa 0) 5 (eC (.int 0)))
    (aw (bz (aa 0) 6 oX)
    (bz (aa 0) 7 (eC (.int 0))))))))))
def gR:List D->M D:=fnM 3 [] jA
def gv:S3:=
    (aw (bD 1 (gz (gK (aW (aa 0) 1)) [0] (tB (eOp mV (aa 0) (aW (aa 1) 6))) (aa 0)))
    (aG (gz (iOf (aa 1)) [0] kU (cm (ae (aW (aa 1) 0) (ae (aa 0) (ae (aW (aa 1) 5) (ae (aW (aa 1) 4) ao))))))))
def cC:List D->M D:=fnM 1 [none] gv
def dX:S3:=
    (aw (bz (aa 0) 5 (eOp gI (aW (aa 0) 5) (eC (.int 1))))
    (aw (bz (aa 0) 4 (aa 1))
    (aw (bz (aa 0) 6 oX)
    (aG (aN 0 cC (aa 0) ao)))))
def bE:List D->M D:=fnM 2 [] dX
def iV:S3:=
    (aw (sIf (tOf (aW (aa 0) 2)) (lj 1004 (ae (eC (.str "the hand is at work already")) ao)) bf)
    (aw (bz (aa 0) 2 (eC (.bl true)))
    (aw (bz (aa 0) 3 (aa 1))
    (aG (aN 0 bE (aa 0) (ae (eC .non) ao))))))
def di:List D->M D:=fnM 2 [] iV
def dQ:S3:=
    (aG (aN 0 di (aa 0) (ae (aa 1) ao)))
def cJ:List D->M D:=fnM 2 [] dQ
def eP:S3:=
    (aG (aN 0 di (aa 0) (ae (eC .non) ao)))
def cQ:List D->M D:=fnM 1 [] eP
def dP:S3:=
    (sIf (fO (tOf (aW (aa 0) 2))) (lj 1005 (ae (eC (.str "the hand is not at work")) ao)) bf)
def bF:List D->M D:=fnM 1 [] dP
def eV:S3:=
    (aw (cj (aN 0 bF (aa 0) ao))
    (aG (aN 0 cC (aa 0) ao)))
def cR:List D->M D:=fnM 1 [] eV
def gu:S3:=
    (aw (cj (aN 0 bF (aa 0) ao))
    (bz (aa 0) 2 (eC (.bl false))))
def eO:List D->M D:=fnM 1 [] gu
def hG:S3:=
    (aw (bD 1 (zE (aW (aa 0) 6)))
    (aw (sIf (tB (eUn nR (aW (aa 0) 3))) (aG (aF lX (ae (aa 1) ao))) bf)
    (aw (bD 2 (aF fx (ae (aa 1) (ae (aW (aa 0) 7) (ae (aW (aa 0) 0) ao)))))
    (aw (bz (aa 0) 7 (eOp oIx (aa 2) (eC (.int 0))))
    (aG (cm (ae (aa 2) (ae (aW (aa 0) 3) ao))))))))
def fy:List D->M D:=fnM 1 [none,none] hG
def jC:S3:=
    (aw (sIf (tOr (fO (tOf (aW (aa 0) 2))) (tB (eOp oNe (eOp oIx (aa 1) (eC (.int 2))) (aW (aa 0) 5)))) (aG (cm (ae (dJ ao) (ae (eC .non) ao)))) bf)
    (aw (w6 (aW (aa 0) 6) (eOp oIx (aa 1) (eC (.int 1))) (eOp oIx (aa 1) (eC (.int 3))))
    (aw (sIf (fO (tOf (aF kj (ae (aW (aa 0) 1) (ae (aF dG (ae (aW (aa 0) 6) ao)) ao))))) (aG (cm (ae (dJ ao) (ae (eC .non) ao)))) bf)
    (aw (sIf (tB (eUn nR (aW (aa 0) 4))) (aG (cm (ae (aN 0 bE (aa 0) (ae (aN 0 fy (aa 0) ao) ao)) (ae (eC .non) ao)))) bf)
    (aw (bz (aa 0) 2 (eC (.bl false)))
    (aG (cm (ae (dJ ao) (ae (aW (aa 0) 4) ao)))))))))
def gQ:List D->M D:=fnM 2 [] jC
def hJ:S3:=
    (aw (bz (aa 0) 4 (eC (.tup [(.tup [(.int 0),(.int 0)]),(.int 0)])))
    (bz (aa 0) 8 (eC (.bl true))))
def fz:List D->M D:=fnM 1 [] hJ
def hZ:S3:=
    (aw (bD 1 (aW (aa 0) 8))
    (aw (bz (aa 0) 8 (eC (.bl false)))
    (aG (aa 1))))
def fB:List D->M D:=fnM 1 [none] hZ
def hU:S3:=
    (aw (bD 1 (Cf (aW (aa 0) 8)))
    (aw (bz (aa 0) 8 (eC (.bl true)))
    (aG (aa 1))))
def fw:List D->M D:=fnM 1 [none] hU
def hV:S3:=
    (sIf (tB (eOp oGt (eOp oIx (aa 1) (eC (.int 0))) (eOp oIx (aW (aa 0) 4) (eC (.int 0))))) (bz (aa 0) 4 (aa 1)) bf)
def fD:List D->M D:=fnM 2 [] hV
def eg:S3:=
    (aw (sIf (fO (tOf (aW (aa 0) 8))) (aG (eC .non)) bf)
    (aw (bD 2 (eOp oIx (aa 1) (eC (.int 3))))
    (aw (sIf (tB (eUn nR (aa 2))) (aG (eOp gI (eSl (aa 1) tF (oT (eC (.int 3)))) (cm (ae (aW (aa 0) 4) ao)))) bf)
    (aw (cj (aN 1 fD (aa 0) (ae (aa 2) ao)))
    (aG (eOp gI (eSl (aa 1) tF (oT (eC (.int 3)))) (cm (ae (eC .non) ao))))))))
def cG:List D->M D:=fnM 2 [none] eg
def j9:S3:=
    (aw (bz (aa 0) 9 (gz (gK (aa 1)) [] kU (j6 1 fz ao)))
    (aw (bz (aa 0) 10 (gz (gK (aa 2)) [1] kU (j6 0 gR (ae (aa 0) (ae (aa 1) ao)))))
    (bz (aa 0) 11 (dJ ao))))
def fM:List D->M D:=fnM 3 [] j9
def gF:S3:=
    (aw (sIf (tOr (tB (eOp oLt (aa 1) (eC (.int 0)))) (tB (eOp oGe (aa 1) (aF dG (ae (aW (aa 0) 10) ao))))) (lj 1001 (ae (eC (.str "there is no such hand")) ao)) bf)
    (aG (eOp oIx (aW (aa 0) 10) (aa 1))))
def aX:List D->M D:=fnM 2 [] gF
def fm:S3:=
    (aw (sIf (tOr (tB (eOp oLt (aa 1) (eC (.int 0)))) (tB (eOp oGe (aa 1) (aF dG (ae (aW (aa 0) 9) ao))))) (lj 1002 (ae (eC (.str "there is no such keeper")) ao)) bf)
    (aG (eOp oIx (aW (aa 0) 9) (aa 1))))
def bx:List D->M D:=fnM 2 [] fm
def jQ:S3:=
    (cj (tN (aW (aa 0) 11) (gz (iOf (aa 1)) [] kU (cm (ae (eC (.bl false)) (ae (aa 0) ao))))))
def bQ:List D->M D:=fnM 2 [] jQ
def iI:S3:=
    (cj (aN 2 bQ (aa 0) (ae (aN 0 cJ (aN 2 aX (aa 0) (ae (aa 1) ao)) (ae (aa 2) ao)) ao)))
def gf:List D->M D:=fnM 3 [] iI
def jx:S3:=
    (cj (aN 2 bQ (aa 0) (ae (aN 0 cQ (aN 2 aX (aa 0) (ae (aa 1) ao)) ao) ao)))
def gX:List D->M D:=fnM 2 [] jx
def iS:S3:=
    (aw (bD 2 (aN 0 cR (aN 2 aX (aa 0) (ae (aa 1) ao)) ao))
    (aw (cj (aN 2 bQ (aa 0) (ae (aa 2) ao)))
    (aG (aF dG (ae (aa 2) ao)))))
def gb:List D->M D:=fnM 2 [none] iS
def iU:S3:=
    (cj (aN 0 eO (aN 2 aX (aa 0) (ae (aa 1) ao)) ao))
def gc:List D->M D:=fnM 2 [] iU
def eB:S3:=
    (aG (aN 1 fB (aN 2 bx (aa 0) (ae (aa 1) ao)) ao))
def cL:List D->M D:=fnM 2 [] eB
def ef:S3:=
    (aG (aN 1 fw (aN 2 bx (aa 0) (ae (aa 1) ao)) ao))
def cK:List D->M D:=fnM 2 [] ef
def cN:S3:=
    (aw (bD 2 (aN 1 cG (eOp oIx (aW (aa 0) 9) (eOp oIx (aa 1) (eC (.int 1)))) (ae (aa 1) ao)))
    (sIf (tB (eUn fQ (aa 2))) (cj (xW (aW (aa 0) 11) (cm (ae (eC (.bl true)) (ae (aa 2) ao))))) bf))
def bY:List D->M D:=fnM 2 [none] cN
def dH:S3:=
    (aw (bD 2 (aN 0 gQ (eOp oIx (aW (aa 0) 10) (eOp oIx (aa 1) (eC (.int 0)))) (ae (aa 1) ao)))
    (aw (cj (aN 2 bQ (aa 0) (ae (eOp oIx (aa 2) (eC (.int 0))) ao)))
    (aw (sIf (tB (eUn nR (eOp oIx (aa 2) (eC (.int 1))))) (aG (dJ ao)) bf)
    (aG (dJ (ae (cm (ae (eOp oIx (aa 1) (eC (.int 0))) (ae (eOp oIx (aa 2) (eC (.int 1))) ao))) ao))))))
def cx:List D->M D:=fnM 2 [none] dH
def jX:S3:=
    (aw (bD 3 (eOp oIx (aW (aa 0) 11) (aa 1)))
    (aw (sIf (fO (tOf (aa 2))) (cj (sA (aW (aa 0) 11) (aa 1))) bf)
    (aw (sIf (tOf (eOp oIx (aa 3) (eC (.int 0)))) (aG (aN 2 cx (aa 0) (ae (eOp oIx (aa 3) (eC (.int 1))) ao))) bf)
    (aw (cj (aN 2 bY (aa 0) (ae (eOp oIx (aa 3) (eC (.int 1))) ao)))
    (aG (dJ ao))))))
def cE:List D->M D:=fnM 3 [none] jX
def iN:S3:=
    (aw (sIf (fO (tOf (aW (aa 0) 11))) (lj 1003 (ae (eC (.str "no letter is under way")) ao)) bf)
    (aG (aN 2 cE (aa 0) (ae (eOp oMod (aa 1) (aF dG (ae (aW (aa 0) 11) ao))) (ae (aa 2) ao)))))
def fY:List D->M D:=fnM 3 [] iN
def cW:S3:=
    (aw (jF (zC (aW (aa 0) 11)) (gUn [3,4]) (sIf (tB (eOp oEq (eSl (eOp oIx (aa 4) (eC (.int 1))) tF (oT (eC (.int 2)))) (cm (ae (aa 1) (ae (aa 2) ao))))) (aG (aa 3)) bf))
    (aG (eC .non)))
def bH:List D->M D:=fnM 3 [none,none] cW
def cS:S3:=
    (aw (cj (aN 2 aX (aa 0) (ae (aa 1) ao)))
    (aw (cj (aN 2 bx (aa 0) (ae (aa 2) ao)))
    (aw (bD 3 (dJ ao))
    (aw (bD 4 (aN 2 bH (aa 0) (ae (aa 1) (ae (aa 2) ao))))
    (aw (sE (tB (eUn fQ (aa 4))) (aw (cj (tN (aa 3) (aN 2 cE (aa 0) (ae (aa 4) (ae (eC (.bl false)) ao)))))
    (bD 4 (aN 2 bH (aa 0) (ae (aa 1) (ae (aa 2) ao))))))
    (aG (aa 3)))))))
def cg:List D->M D:=fnM 3 [none,none] cS
def iP:S3:=
    (aw (bD 1 (dJ ao))
    (aw (sE (tOf (aW (aa 0) 11)) (cj (tN (aa 1) (aN 2 cE (aa 0) (ae (eC (.int 0)) (ae (eC (.bl false)) ao))))))
    (aG (aa 1))))
def fW:List D->M D:=fnM 1 [none] iP
def j7:S3:=
    (aw (bz (aa 0) 12 (aa 1))
    (aw (bz (aa 0) 13 (aa 2))
    (aw (bz (aa 0) 3 (aa 3))
    (aw (bz (aa 0) 14 (aa 4))
    (aw (bz (aa 0) 15 (eC .non))
    (bz (aa 0) 16 (eC .non)))))))
def gT:List D->M D:=fnM 5 [] j7
def jG:S3:=
    (aG (cm (ae (aW (aa 0) 12) (ae (aW (aa 0) 13) (ae (aW (aa 0) 3) (ae (aW (aa 0) 14) (ae (aW (aa 0) 15) ao)))))))
def gV:List D->M D:=fnM 1 [] jG
def iJ:S3:=
    (aw (bz (aa 0) 17 (j6 2 fM (ae (aa 1) (ae (aa 2) ao))))
    (aw (bz (aa 0) 18 (dJ ao))
    (aw (bz (aa 0) 19 oX)
    (bz (aa 0) 20 (eC (.int 0))))))
def fU:List D->M D:=fnM 3 [] iJ
def eI:S3:=
    (aw (bD 4 (aF dG (ae (aW (aa 0) 18) ao)))
    (aw (cj (xW (aW (aa 0) 18) (j6 3 gT (ae (aa 1) (ae (aa 2) (ae (aa 3) (ae (aW (aa 0) 20) ao)))))))
    (aw (w6 (aW (aa 0) 19) (aa 1) (aa 4))
    (aG (aa 4)))))
def b9:List D->M D:=fnM 4 [none] eI
def fg:S3:=
    (aw (bD 3 (eOp oIx (aW (aa 0) 19) (aa 1)))
    (aw (bD 4 (eOp oIx (aW (aa 0) 18) (aa 3)))
    (aw (bz (aa 4) 3 (eOp oIx (aa 2) (eC (.int 1))))
    (aw (bz (aa 4) 15 (aW (aa 0) 20))
    (aG (cm (ae (aa 3) (ae (aW (aa 4) 3) ao))))))))
def dm:List D->M D:=fnM 3 [none,none] fg
def eX:S3:=
    (aG (gz (iOf (aa 1)) [0] kU (aN 4 dm (aa 1) (ae (eOp oIx (aa 0) (eC (.int 0))) (ae (eOp oIx (aa 0) (eC (.int 1))) ao)))))
def bA:List D->M D:=fnM 2 [] eX
def iR:S3:=
    (aw (bD 2 (eOp oIx (aa 1) (eC (.int 0))))
    (aw (sIf (tB (eOp oEq (aa 2) (eC (.str "write")))) (aw (cj (aN 2 gf (aW (aa 0) 17) (ae (eOp oIx (aa 1) (eC (.int 1))) (ae (eOp oIx (aa 1) (eC (.int 2))) ao))))
    (aG (aN 4 b9 (aa 0) (ae (eOp oIx (aa 1) (eC (.int 1))) (ae (aa 2) (ae (eOp oIx (aa 1) (eC (.int 2))) ao)))))) bf)
    (aw (sIf (tB (eOp oEq (aa 2) (eC (.str "read")))) (aw (cj (aN 2 gX (aW (aa 0) 17) (ae (eOp oIx (aa 1) (eC (.int 1))) ao)))
    (aG (aN 4 b9 (aa 0) (ae (eOp oIx (aa 1) (eC (.int 1))) (ae (aa 2) (ae (eC .non) ao)))))) bf)
    (aw (sIf (tB (eOp oEq (aa 2) (eC (.str "carry")))) (aw (bD 3 (aN 4 bA (aa 0) (ae (aN 2 fY (aW (aa 0) 17) (ae (eOp oIx (aa 1) (eC (.int 1))) (ae (eOp oIx (aa 1) (eC (.int 2))) ao))) ao)))
    (aG (eIf (tOf (aa 3)) (eOp oIx (aa 3) (eC (.int 0))) (eC .non)))) bf)
    (aw (sIf (tB (eOp oEq (aa 2) (eC (.str "pass")))) (aG (aN 4 bA (aa 0) (ae (aN 2 cg (aW (aa 0) 17) (ae (eOp oIx (aa 1) (eC (.int 1))) (ae (eOp oIx (aa 1) (eC (.int 2))) ao))) ao))) bf)
    (aw (sIf (tB (eOp oEq (aa 2) (eC (.str "sweep")))) (aG (aN 4 bA (aa 0) (ae (aN 2 fW (aW (aa 0) 17) ao) ao))) bf)
    (aw (sIf (tB (eOp oEq (aa 2) (eC (.str "again")))) (aG (aN 2 gb (aW (aa 0) 17) (ae (eOp oIx (aa 1) (eC (.int 1))) ao))) bf)
    (aw (sIf (tB (eOp oEq (aa 2) (eC (.str "quit")))) (aw (cj (aN 2 gc (aW (aa 0) 17) (ae (eOp oIx (aa 1) (eC (.int 1))) ao)))
    (aG (eOp oIx (aW (aa 0) 19) (eOp oIx (aa 1) (eC (.int 1)))))) bf)
    (aw (sIf (tB (eOp oEq (aa 2) (eC (.str "stop")))) (aG (aN 2 cL (aW (aa 0) 17) (ae (eOp oIx (aa 1) (eC (.int 1))) ao))) bf)
    (aG (aN 2 cK (aW (aa 0) 17) (ae (eOp oIx (aa 1) (eC (.int 1))) ao))))))))))))
def fX:List D->M D:=fnM 2 [none,none] iR
def cA:S3:=
    (vg (aN 4 fX (aa 0) (ae (aa 1) ao)) (fun d σ=>(.ret d,σ)) [(fun c=>decide (c=1001),(aG (eC (.str "no hand")))),(fun c=>decide (c=1002),(aG (eC (.str "no keeper")))),(fun c=>decide (c=1003),(aG (eC (.str "no letter")))),(fun c=>decide (c=1004),(aG (eC (.str "busy")))),(fun c=>decide (c=1005),(aG (eC (.str "idle"))))])
def bL:List D->M D:=fnM 2 [] cA
def dB:S3:=
    (uZ (aW (aa 0) 19) (gUn [1,2]) (aw (bD 3 (aW (eOp oIx (aW (aW (aa 0) 17) 10) (aa 1)) 4))
    (sIf (tB (eUn fQ (aa 3))) (aw (bD 4 (eOp oIx (aW (aa 0) 18) (aa 2)))
    (bz (aa 4) 16 (eOp oIx (aa 3) (eC (.int 0))))) bf)))
def cy:List D->M D:=fnM 1 [none,none,none,none] dB
def gj:S3:=
    (aw (bD 2 (aN 4 bL (aa 0) (ae (aa 1) ao)))
    (aw (cj (aN 4 cy (aa 0) ao))
    (aw (bz (aa 0) 20 (eOp gI (aW (aa 0) 20) (eC (.int 1))))
    (aG (aa 2)))))
def cY:List D->M D:=fnM 2 [none] gj
def jz:S3:=
    (aw (bD 3 (j6 4 fU (ae (aa 0) (ae (aa 1) ao))))
    (aw (jF (iOf (aa 2)) (gNm 4) (cj (aN 4 cY (aa 3) (ae (aa 4) ao))))
    (aw (bD 5 (gz (iOf (aW (aa 3) 18)) [] kU (aN 3 gV (aa 0) ao)))
    (aw (bD 6 (gz (iOf (aW (aa 3) 18)) [] kU (aW (aa 0) 16)))
    (aw (bD 7 (gz (iOf (aW (aW (aa 3) 17) 9)) [] kU (aW (aa 0) 4)))
    (aG (cm (ae (aa 5) (ae (aa 6) (ae (aa 7) ao))))))))))
def gL:List D->M D:=fnM 3 [none,none,none,none,none] jz
def sP:S3:=
    (aG (we (aF (bIs .int) (ae (aa 0) ao)) (Cf (aF (bIs .bl) (ae (aa 0) ao)))))
def dO:List D->M D:=fnM 1 [] sP
def Eg:S3:=
    (aw (sIf (tB (eOp oLt (aa 1) (aF dG (ae (aa 0) ao)))) (aG (eOp oIx (aa 0) (aa 1))) bf)
    (aG (eC (.int 0))))
def tV:List D->M D:=fnM 2 [] Eg
def lJ:S3:=
    (aw (bD 2 (eOp gI (eOp fj (eOp oMod (aa 0) (aF vE (ae (eOp gI (eC (.str "1")) (eOp fj (eC (.str "0")) (eC (.int 88)))) ao))) (eC (.int 100))) (aa 1)))
    (aw (bD 3 (dJ (ae (eOp gI (aa 1) (eC (.int 1))) (ae (eOp uz (eOp uz (eC (.int 0)) (aa 1)) (eC (.int 1))) (ae (eOp gI (eOp fj (eC (.int 1000)) (aa 1)) (eC (.int 7))) (ae (aa 2) (ae (eOp uz (eC (.int 0)) (aa 2)) (ae (eC (.int 0)) ao))))))))
    (aG (eOp oIx (aa 3) (eOp oMod (eOp oMod (eOp fj (aa 0) (eC (.int 48271))) (eC (.int 1009))) (eC (.int 6)))))))
def je:List D->M D:=fnM 2 [none,none] lJ
def m7:S3:=
    (aw (bD 4 (eOp oMod (eOp oMod (eOp fj (aa 0) (eC (.int 48271))) (eC (.int 1013))) (eC (.int 20))))
    (aw (bD 5 (eOp oMod (eOp oMod (eOp fj (aa 0) (eC (.int 48271))) (eC (.int 1019))) (aa 3)))
    (aw (bD 6 (eOp oMod (eOp oMod (eOp fj (aa 0) (eC (.int 48271))) (eC (.int 1021))) (aa 2)))
    (aw (sIf (tB (eOp oLt (aa 4) (eC (.int 3)))) (aG (cm (ae (eC (.str "write")) (ae (aa 5) (ae (aF je (ae (aa 0) (ae (aa 1) ao))) ao))))) bf)
    (aw (sIf (tB (eOp oLt (aa 4) (eC (.int 6)))) (aG (cm (ae (eC (.str "read")) (ae (aa 5) ao)))) bf)
    (aw (sIf (tB (eOp oLt (aa 4) (eC (.int 14)))) (aG (cm (ae (eC (.str "pass")) (ae (aa 5) (ae (aa 6) ao))))) bf)
    (aw (sIf (tB (eOp oLt (aa 4) (eC (.int 16)))) (aw (bD 7 (eOp oMod (eOp oMod (eOp fj (aa 0) (eC (.int 48271))) (eC (.int 1031))) (eC (.int 40))))
    (aw (sIf (tB (eOp oEq (eOp oMod (eOp oMod (eOp fj (aa 0) (eC (.int 48271))) (eC (.int 1049))) (eC (.int 6))) (eC (.int 1)))) (bD 7 (eOp oMod (aa 0) (aF vE (ae (eOp gI (eC (.str "1")) (eOp fj (eC (.str "0")) (eC (.int 90)))) ao)))) bf)
    (aG (cm (ae (eC (.str "carry")) (ae (aa 7) (ae (eOp oGt (eOp oMod (eOp oMod (eOp fj (aa 0) (eC (.int 48271))) (eC (.int 1033))) (eC (.int 3))) (eC (.int 0))) ao))))))) bf)
    (aw (sIf (tB (eOp oEq (aa 4) (eC (.int 18)))) (aG (cm (ae (eC (.str "again")) (ae (aa 5) ao)))) bf)
    (aw (sIf (tB (eOp oEq (aa 4) (eC (.int 19)))) (aG (eOp oIx (dJ (ae (cm (ae (eC (.str "quit")) (ae (aa 5) ao))) (ae (cm (ae (eC (.str "sweep")) ao)) ao))) (eOp oMod (eOp oMod (eOp fj (aa 0) (eC (.int 48271))) (eC (.int 1039))) (eC (.int 2))))) bf)
    (aG (eOp oIx (dJ (ae (cm (ae (eC (.str "stop")) (ae (aa 6) ao))) (ae (cm (ae (eC (.str "wake")) (ae (aa 6) ao))) ao))) (eOp uz (aa 4) (eC (.int 16))))))))))))))
def ix:List D->M D:=fnM 4 [none,none,none,none] m7
def ni:S3:=
    (aw (bD 3 (eOp oMod (eOp oMod (eOp fj (aa 0) (eC (.int 48271))) (eC (.int 1093))) (eC (.int 4))))
    (aw (sIf (tB (eOp oEq (aa 3) (eC (.int 1)))) (aw (bD 4 (dJ (ae (cm (ae (eC (.str "write")) (ae (eC (.int 0)) (ae (eC (.int 7)) ao)))) (ae (cm (ae (eC (.str "carry")) (ae (eC (.int 0)) (ae (eC (.bl true)) ao)))) (ae (cm (ae (eC (.str "carry")) (ae (eC (.int 0)) (ae (eC (.bl true)) ao)))) ao)))))
    (aG (eOp gI (aa 4) (dJ (ae (cm (ae (eC (.str "carry")) (ae (aa 1) (ae (eC (.bl false)) ao)))) (ae (cm (ae (eC (.str "carry")) (ae (aa 1) (ae (eC (.bl false)) ao)))) ao)))))) bf)
    (aw (sIf (lF (tB (eOp oGt (aa 3) (eC (.int 1)))) (lF (tB (eOp oEq (aa 1) (eC (.int 3)))) (tB (eOp oGt (aa 2) (eC (.int 1)))))) (aw (bD 4 (dJ (ae (cm (ae (eC (.str "read")) (ae (eC (.int 0)) ao))) (ae (cm (ae (eC (.str "carry")) (ae (eC (.int 0)) (ae (eC (.bl true)) ao)))) (ae (cm (ae (eC (.str "write")) (ae (eC (.int 1)) (ae (eC (.int 9)) ao)))) ao)))))
    (aw (cj (tN (aa 4) (dJ (ae (cm (ae (eC (.str "pass")) (ae (eC (.int 1)) (ae (eC (.int 0)) ao)))) (ae (cm (ae (eC (.str "pass")) (ae (eC (.int 1)) (ae (eC (.int 1)) ao)))) (ae (cm (ae (eC (.str "pass")) (ae (eC (.int 1)) (ae (eC (.int 0)) ao)))) ao))))))
    (aw (cj (tN (aa 4) (dJ (ae (cm (ae (eC (.str "carry")) (ae (eC (.int 0)) (ae (eC (.bl true)) ao)))) (ae (cm (ae (eC (.str "carry")) (ae (eC (.int 6)) (ae (eC (.bl false)) ao)))) ao)))))
    (aG (eOp gI (aa 4) (dJ (ae (cm (ae (eC (.str "carry")) (ae (eC (.int 3)) (ae (eC (.bl false)) ao)))) (ae (cm (ae (eC (.str "pass")) (ae (eC (.int 0)) (ae (eC (.int 2)) ao)))) ao)))))))) bf)
    (aG (dJ ao)))))
def kq:List D->M D:=fnM 3 [none,none] ni
def rR:S3:=
    (aw (bD 3 (dJ ao))
    (aw (sIf (tB (eOp oNe (aa 0) (dJ ao))) (bD 3 (aF kq (ae (eOp oIx (aa 0) (eC (.int 0))) (ae (aa 1) (ae (aa 2) ao))))) bf)
    (aw (jF (gK (aF dG (ae (aa 0) ao))) (gNm 4) (cj (xW (aa 3) (aF ix (ae (eOp gI (eOp oIx (aa 0) (aa 4)) (eOp fj (eC (.int 7)) (aa 4))) (ae (aa 4) (ae (aa 1) (ae (aa 2) ao))))))))
    (aG (aa 3)))))
def oB:List D->M D:=fnM 3 [none,none] rR
def lG:S3:=
    (aw (sIf (tOr (fO (tOf (aF (bIs .tup) (ae (aa 0) ao)))) (tB (eOp oNe (aF dG (ae (aa 0) ao)) (eC (.int 2))))) (aG (eC (.bl false))) bf)
    (aG (we (aF dO (ae (eOp oIx (aa 0) (eC (.int 0))) ao)) (aF dO (ae (eOp oIx (aa 0) (eC (.int 1))) ao)))))
def fq:List D->M D:=fnM 1 [] lG
def mU:S3:=
    (aw (sIf (tOr (fO (tOf (aF (bIs .tup) (ae (aa 0) ao)))) (tB (eOp oNe (aF dG (ae (aa 0) ao)) (eC (.int 2))))) (aG (eC (.bl false))) bf)
    (aG (we (aF fq (ae (eOp oIx (aa 0) (eC (.int 0))) ao)) (aF dO (ae (eOp oIx (aa 0) (eC (.int 1))) ao)))))
def ko:List D->M D:=fnM 1 [] mU
def mL:S3:=
    (aw (sIf (tOr (fO (tOf (aF (bIs .tup) (ae (aa 0) ao)))) (tB (eOp oNe (aF dG (ae (aa 0) ao)) (eC (.int 5))))) (aG (eC (.bl false))) bf)
    (aw (sUn [1,2,3,4,5] (aa 0))
    (aw (sIf (tOr (fO (tOf (aF dO (ae (aa 1) ao)))) (tOr (fO (tOf (aF dO (ae (aa 4) ao)))) (fO (tOf (aF (bIs .str) (ae (aa 2) ao)))))) (aG (eC (.bl false))) bf)
    (aw (sIf (lF (tB (eUn fQ (aa 3))) (fO (tOf (aF dO (ae (aa 3) ao))))) (aG (eC (.bl false))) bf)
    (aG (eOr (eUn nR (aa 5)) (aF dO (ae (aa 5) ao))))))))
def kH:List D->M D:=fnM 1 [none,none,none,none,none] mL
def jH:S3:=
    (aw (sIf (tOr (fO (tOf (aF (bIs .tup) (ae (aa 0) ao)))) (tB (eOp oNe (aF dG (ae (aa 0) ao)) (eC (.int 3))))) (aG (eC (.bl false))) bf)
    (aw (jF (iOf (aa 0)) (gNm 2) (sIf (fO (tOf (aF (bIs .lst) (ae (aa 2) ao)))) (aG (eC (.bl false))) bf))
    (aw (jF (iOf (eOp oIx (aa 0) (eC (.int 0)))) (gNm 3) (sIf (fO (tOf (aF kH (ae (aa 3) ao)))) (aG (eC (.bl false))) bf))
    (aw (jF (iOf (eOp oIx (aa 0) (eC (.int 1)))) (gNm 4) (sIf (lF (tB (eUn fQ (aa 4))) (fO (tOf (aF fq (ae (aa 4) ao))))) (aG (eC (.bl false))) bf))
    (aw (jF (iOf (eOp oIx (aa 0) (eC (.int 2)))) (gNm 5) (sIf (fO (tOf (aF ko (ae (aa 5) ao)))) (aG (eC (.bl false))) bf))
    (aG (we (eOp oEq (aF dG (ae (eOp oIx (aa 0) (eC (.int 0))) ao)) (aF dG (ae (eOp oIx (aa 0) (eC (.int 1))) ao))) (eOp oEq (aF dG (ae (eOp oIx (aa 0) (eC (.int 2))) ao)) (aa 1)))))))))
def gM:List D->M D:=fnM 2 [none,none,none,none] jH
def ly:S3:=
    (aw (bD 3 (aF qW (ae (aa 2) ao)))
    (aw (bD 4 (aF gL (ae (aa 0) (ae (aa 1) (ae (aa 3) ao)))))
    (aw (sIf (tOr (tB (eOp oNe (aa 3) (aa 2))) (fO (tOf (aF gM (ae (aa 4) (ae (aa 0) ao)))))) (aG (eC .non)) bf)
    (aG (aa 4)))))
def iM:List D->M D:=fnM 3 [none,none] ly
def mM:S3:=
    (aw (bD 2 (zk (cm (ae (eC (.int 0)) (ae (eC (.int 0)) ao))) (eC (.int 0))))
    (aw (jF (gK (aF dG (ae (aa 0) ao))) (gNm 3) (sIf (lF (tB (eOp oEq (eOp oIx (eOp oIx (aa 0) (aa 3)) (eC (.int 1))) (eC (.str "write")))) (tB (eUn fQ (eOp oIx (aa 1) (aa 3))))) (aw (sUn [4,5] (eOp oIx (aa 1) (aa 3)))
    (aw (sIf (tOr (tB (eOp zA (eOp oIx (aa 1) (aa 3)) (aa 2))) (tOr (tB (eOp oLt (aa 4) (eC (.int 1)))) (tB (eOp oNe (aa 5) (eOp oIx (eOp oIx (aa 0) (aa 3)) (eC (.int 0))))))) (aG (eC .non)) bf)
    (Ao (aa 2) (eOp oIx (aa 1) (aa 3)) (eOp oIx (eOp oIx (aa 0) (aa 3)) (eC (.int 2)))))) bf))
    (aG (aa 2))))
def kG:List D->M D:=fnM 2 [none,none,none,none] mM
def jh:S3:=
    (aw (jF (gK (aF dG (ae (aa 0) ao))) (gNm 3) (sIf (tB (eUn fQ (eOp oIx (eOp oIx (aa 0) (aa 3)) (eC (.int 4))))) (aw (sIf (tB (eUn nR (eOp oIx (aa 1) (aa 3)))) (aG (eC (.bl false))) bf)
    (aw (bD 4 (aF dG (ae (gz (iOf (aa 2)) [1,3] (tB (eOp BD (eOp oIx (aa 0) (eC (.int 0))) (eOp oIx (aa 1) (aa 2)))) (aa 0)) ao)))
    (sIf (tB (eOp oLe (aa 4) (eOp uz (aF dG (ae (aa 2) ao)) (aa 4)))) (aG (eC (.bl false))) bf))) bf))
    (aG (eC (.bl true))))
def fZ:List D->M D:=fnM 3 [none,none] jh
def ie:S3:=
    (aw (jF (gK (aF dG (ae (aa 0) ao))) (gNm 2) (jF (gK (aF dG (ae (aa 0) ao))) (gNm 3) (aw (bD 4 (eOp oIx (eOp oIx (aa 0) (aa 3)) (eC (.int 4))))
    (aw (bD 5 (we (eUn fQ (aa 4)) (eOp oLt (aa 4) (eOp oIx (eOp oIx (aa 0) (aa 2)) (eC (.int 3))))))
    (sIf (lF (tOf (aa 5)) (tB (eUn fQ (eOp oIx (aa 1) (aa 2))))) (aw (sIf (tB (eOp oLt (eOp oIx (aa 1) (aa 2)) (eOp oIx (aa 1) (aa 3)))) (aG (eC (.bl false))) bf)
    (sIf (lF (tB (eOp oEq (eOp oIx (eOp oIx (aa 0) (aa 2)) (eC (.int 1))) (eC (.str "write")))) (tB (eOp oEq (eOp oIx (aa 1) (aa 2)) (eOp oIx (aa 1) (aa 3))))) (aG (eC (.bl false))) bf)) bf)))))
    (aG (eC (.bl true))))
def fC:List D->M D:=fnM 2 [none,none,none,none] ie
def Av:S3:=
    (aw (bD 1 (eOp oIx (dJ (ae (eC (.int 3)) (ae (eC (.int 3)) (ae (eC (.int 3)) (ae (eC (.int 1)) (ae (eC (.int 2)) (ae (eC (.int 4)) (ae (eC (.int 5)) (ae (eC (.int 3)) (ae (eC (.int 7)) (ae (eC (.int 8)) (ae (eC (.int 9)) (ae (eC (.int 3)) ao))))))))))))) (eOp oMod (eOp oMod (eOp fj (aF tV (ae (aa 0) (ae (eC (.int 0)) ao))) (eC (.int 48271))) (eC (.int 1049))) (eC (.int 12)))))
    (aw (bD 2 (eOp oIx (dJ (ae (eC (.int 2)) (ae (eC (.int 2)) (ae (eC (.int 3)) (ae (eC (.int 1)) (ae (eC (.int 2)) (ae (eC (.int 3)) (ae (eC (.int 2)) (ae (eC (.int 9)) ao))))))))) (eOp oMod (eOp oMod (eOp fj (aF tV (ae (aa 0) (ae (eC (.int 0)) ao))) (eC (.int 48271))) (eC (.int 1051))) (eC (.int 8)))))
    (aw (bD 3 (aF iM (ae (aa 1) (ae (aa 2) (ae (aF oB (ae (eSl (aa 0) (oT (eC (.int 1))) (oT (eC (.int 23)))) (ae (aa 1) (ae (aa 2) ao)))) ao)))))
    (aw (sIf (tB (eUn nR (aa 3))) (aG (eC (.bl false))) bf)
    (aw (sUn [4,5,6] (aa 3))
    (aw (bD 7 (aF kG (ae (aa 4) (ae (aa 5) ao))))
    (aw (sIf (tOr (tB (eUn nR (aa 7))) (fO (tOf (aF fZ (ae (aa 4) (ae (aa 5) (ae (aa 6) ao))))))) (aG (eC (.bl false))) bf)
    (aw (jF (iOf (aa 6)) (gNm 8) (sIf (tOr (tB (eOp kz (eOp oIx (aa 8) (eC (.int 0))) (aa 7))) (tB (eOp oNe (eOp xQ (aa 7) (eOp oIx (aa 8) (eC (.int 0)))) (eOp oIx (aa 8) (eC (.int 1)))))) (aG (eC (.bl false))) bf))
    (aw (jF (gK (aF dG (ae (aa 4) ao))) (gNm 9) (sIf (lF (tB (eOp oEq (eOp oIx (eOp oIx (aa 4) (aa 9)) (eC (.int 1))) (eC (.str "read")))) (tB (eUn fQ (eOp oIx (aa 5) (aa 9))))) (aw (sIf (tB (eOp kz (eOp oIx (aa 5) (aa 9)) (aa 7))) (aG (eC (.bl false))) bf)
    (sIf (lF (tB (eUn fQ (eOp oIx (eOp oIx (aa 4) (aa 9)) (eC (.int 4))))) (tB (eOp oNe (eOp oIx (eOp oIx (aa 4) (aa 9)) (eC (.int 2))) (eOp xQ (aa 7) (eOp oIx (aa 5) (aa 9)))))) (aG (eC (.bl false))) bf)) bf))
    (aG (aF fC (ae (aa 4) (ae (aa 5) ao)))))))))))))
def pP:List D->M D:=fnM 1 [none,none,none,none,none,none,none,none,none] Av
end KC
namespace KH
open PySem M3
def Chg(S:List Nat)(G G':Hh):Prop:=G.length<=G'.length/\∀n,n < G.length->n∉S->G'[n]? =G[n]?
def Chg.refl(S:List Nat)(G:Hh):Chg S G G:=⟨qO_ _,fun _ _ _=>rfl⟩
theorem Chg.trans{S:List Nat}{A B C:Hh}(a:Chg S A B)(b:Chg S B C):Chg S A C:=
 ⟨Nat.le_trans a.1 b.1,fun n hn hs=>(b.2 n (qd_ hn a.1) hs).trans (a.2 n hn hs)⟩
def Chg.trans'{S T:List Nat}{A B C:Hh}(a:Chg S A B)(b:Chg T B C)(h:∀n∈T,n∈S\/A.length<=n):Chg S A C:=
 ⟨Nat.le_trans a.1 b.1,fun n hn hs=>(b.2 n (qd_ hn a.1) (fun z=>(h n z).elim hs fun w=>qe_ _ (qd_ hn w))).trans (a.2 n hn hs)⟩
def Chg.mono{S T:List Nat}{A B:Hh}(a:Chg S A B)(h:∀n∈S,n∈T):Chg T A B:=⟨a.1,fun n hn hs=>a.2 n hn fun z=>hs (h n z)⟩
def Chg.add{S:List Nat}(G:Hh)(o:O):Chg S G (G++[o]):=⟨by simp,fun n hn _=>qK_ hn⟩
theorem Chg.set{S:List Nat}(G:Hh){n:Nat}(o:O)(h:n∈S):Chg S G (G.set n o):=⟨by simp,fun m hm hs=>by
 rw[qV_ (by rintro rfl;exact hs h)]⟩
def Chg.get{S:List Nat}{A B:Hh}(a:Chg S A B){n:Nat}{o:O}(h:A[n]? =some o)(hs:n∉S):B[n]? =some o:=by
 rw[a.2 n (qB_.mp h).1 hs];exact h
def Ext.chg{S:List Nat}{A B:Hh}(a:Ext A B):Chg S A B:=by
 obtain⟨r,rfl⟩:=a
 exact⟨by simp,fun n hn _=>qK_ hn⟩
def az{G:Hh}{n:Nat}{o:O}(h:G[n]? =some o):n < G.length:=(qB_.mp h).1
def gC{G:Hh}{l:Nat}{o o':O}(h:G[l]? =some o):(G.set l o')[l]? =some o':=qU_ (qB_.mp h).1
section
variable{G G':Hh}{E:Nat->Hh->Prop}{σ:St}{Q:D->Hh->Prop}{QU:Unit->Hh->Prop}{QA:List D->Hh->Prop}{QS:Fl×St->Hh->Prop}
def aM{n C f:Nat}{fs:List (Nat×D)}{y:D}(hn:G[n]? =some (.ins C fs))(hl:C < 1000/\fs.length < 1000)(h:∀G',Chg [n] G G'->G'.length=G.length->G'[n]? =some (.ins C (putN f y fs))->QU () G'):run (xw (.ref n) f y) G QU E:=
 Es hn hl (h _ (Chg.set _ _ qI_) (by simp) (gC hn))
def xm{n:Nat}{kvs:List (Key×D)}{i v:D}{k:Key}(hn:G[n]? =some (.dK kvs))(hk:pO i=some k)(hl:kvs.length < aC)(h:∀G',Chg [n] G G'->G'.length=G.length->G'[n]? =some (.dK (put kvs k v))->QU () G'):run (yo (.ref n) i v) G QU E:=
 Fs hn hk hl (h _ (Chg.set _ _ qI_) (by simp) (gC hn))
def m8{n:Nat}{xs:List D}{y:D}(hl:G[n]? =some (.lst xs))(hz:xs.length < aC)(h:∀G',Chg [n] G G'->G'.length=G.length->G'[n]? =some (.lst (xs++[y]))->Q .non G'):run (iL (.ref n) y) G Q E:=
 yH hl hz (h _ (Chg.set _ _ qI_) (by simp) (gC hl))
def gG{n m:Nat}{xs ys:List D}(hn:G[n]? =some (.lst xs))(hm:G[m]? =some (.lst ys))(hl:xs.length+ys.length<=aC)(h:∀G',Chg [n] G G'->G'.length=G.length->G'[n]? =some (.lst (xs++ys))->Q .non G'):run (jg (.ref n) (.ref m)) G Q E:=
 yh hn hm hl (h _ (Chg.set _ _ qI_) (by simp) (gC hn))
def pB(h:∀G',Chg [] G G'->G'.length=G.length+1->G'[G.length]? =some (.dK [])->Q (.ref G.length) G'):run (oX σ) G Q E:=h _ (Chg.add _ _) (by simp) (bc _ _)
def fE(h:∀G',Chg [] G G'->G'.length=G.length+1->G'[G.length]? =some (.lst [])->Q (.ref G.length) G'):run (dJ ao σ) G Q E:=yR (aB ⟨qf_ _,h _ (Chg.add _ _) (by simp) (bc _ _)⟩)
def mF{C:Nat}{g:List D->M D}{a:A3}(h:run (a σ) G (fun ds G1=>∀G2,Chg [] G1 G2->G2.length=G1.length+1->G2[G1.length]? =some (.ins C [])->run (g (.ref G1.length :: ds)) G2 (fun r G3=>r= .non/\Q (.ref G1.length) G3) E) E):run (j6 C g a σ) G Q E:=
 Fe (aq h (fun ds G1 q=>q _ (Chg.add _ _) (by simp) (bc _ _)) fun _ _ z=>z)
def kh{α:Type}{f:α->D}{p:α->Bool}{g:α->D}{xs:List α}{ck:Hh->Bool}{cond:D->M Bool}{elt:D->M D}(hck:ck G=true)(hz:xs.length<=1000000)
 (hc:∀x∈xs,run (cond (f x)) G (fun c G1=>G1=G/\c=p x) E) (he:∀x∈xs,p x=true->run (elt (f x)) G (fun y G1=>G1=G/\y=g x) E)
 (h:QA ((xs.filter p).map g) G):run (b6 ck cond elt (xs.map f) []) G QA E:=by
 refine kA (fun i acc G'=>G'=G/\acc=((xs.take i).filter p).map g) ?_ ?_ ?_ (xs.map f) 0 [] G List.drop_zero (qf_ _) ⟨rfl,by simp⟩
 · rintro i acc G' ⟨rfl,_⟩
   exact hck
 · rintro i x acc G' hx ⟨rfl,rfl⟩
   obtain⟨y,hy,rfl⟩:=rG hx
   have hm:=qD_ hy
   refine aq (hc y hm) (fun c G1 ⟨e1,e2⟩=>?_) fun _ _ z=>z
   subst e1 e2
   have e3:((xs.take (i+1)).filter p).map g=((xs.take i).filter p).map g++(if p y=true then [g y]else []):=by
    rw[take_succ hy,List.filter_append,qT_]
    cases q:p y <;> simp [q]
   cases q:p y with
   |true=>
    rw[if_pos rfl]
    refine aq (he y hm q) (fun v G2 ⟨e1,e2⟩=>?_) fun _ _ z=>z
    subst e1 e2
    refine⟨?_,rfl,?_⟩
    · have:=List.length_filter_le p (xs.take i)
      simp [aC]
      rw[List.length_take]at this
      omega
    · rw[e3,q];rfl
   |false=>
    rw[if_neg qC_]
    refine⟨rfl,?_⟩
    rw[e3,q];simp
 · rintro acc G' ⟨rfl,rfl⟩
   rw[qM_,List.take_length]
   exact h
theorem sW{t:T3}{body:S3}(P:St->Hh->Nat->Prop)(hs:∀σ G m,P σ G m->run (t σ) G (fun c G1=>if c=true then run (body σ) G1 (fun p G2=>match p.1 with
 | .next=>∃m',m' < m/\P p.2 G2 m'
 | .cont=>∃m',m' < m/\P p.2 G2 m'
 | .brk=>QS (.next,p.2) G2
 | .ret d=>QS (.ret d,p.2) G2) E else QS (.next,σ) G1) E):∀(k:Nat) (σ:St) (G:Hh) (m:Nat),m < k->P σ G m->run (i0 t body k σ) G QS E
 |0,_,_,_,h,_=>absurd h (Nat.not_lt_zero _)
 |k+1,σ,G,m,hm,p=>by
  show run (bnd (t σ) fun c=>if c then bnd (body σ) (fun p=>match p.1 with
   | .next=>i0 t body k p.2
   | .cont=>i0 t body k p.2
   | .brk=>ret (.next,p.2)
   | .ret d=>ret (.ret d,p.2))else ret (.next,σ)) G QS E
  refine ay (aq (hs σ G m p) (fun c G1 q=>?_) fun _ _ z=>z)
  cases c with
  |false=>exact q
  |true=>
   refine ay (aq q (fun r G2 q2=>?_) fun _ _ z=>z)
   obtain⟨f,σ'⟩:=r
   cases f with
   |next=>obtain⟨m',h1,h2⟩:=q2;exact sW P hs k σ' G2 m' (by omega) h2
   |cont=>obtain⟨m',h1,h2⟩:=q2;exact sW P hs k σ' G2 m' (by omega) h2
   |brk=>exact q2
   |ret d=>exact q2
def uL{t:T3}{body:S3}{m:Nat}(P:St->Hh->Nat->Prop)(hs:∀σ G m,P σ G m->run (t σ) G (fun c G1=>if c=true then run (body σ) G1 (fun p G2=>match p.1 with
 | .next=>∃m',m' < m/\P p.2 G2 m'
 | .cont=>∃m',m' < m/\P p.2 G2 m'
 | .brk=>QS (.next,p.2) G2
 | .ret d=>QS (.ret d,p.2) G2) E else QS (.next,σ) G1) E) (hm:m < 1000000000) (h:P σ G m):run (sE t body σ) G QS E:=sW P hs sZ σ G m hm h
end
end KH
namespace KS
open PySem M3 KC KH
abbrev Pr:=(Int×Int)×Int
def pD(p:Pr):D:= .tup [.tup [.int p.1.1,.int p.1.2],.int p.2]
def opD:Option Pr->D
 |none=>.non
 |some p=>pD p
def oD:Option Int->D
 |none=>.non
 |some i=>.int i
def oj(o:Option Pr):decide (opD o= .non)=o.isNone:=by cases o <;> rfl
def zR(o:Option Int):decide (oD o= .non)=o.isNone:=by cases o <;> rfl
structure Lt where
 hand:Nat
 kpr:Nat
 num:Int
 pair:Option Pr
def ltD(l:Lt):D:= .tup [.int (l.hand:Int),.int (l.kpr:Int),.int l.num,opD l.pair]
def enD(e:Bool×Lt):D:= .tup [.bl e.1,ltD e.2]
def gtS(a b:Int×Int):Bool:=k6 [b.1,b.2] [a.1,a.2]
def better(b p:Pr):Pr:=if gtS p.1 b.1 then p else b
def start:Pr:=((0,0),0)
def oq(ps:List Pr):Pr:=ps.foldl better start
def turns(ps:List Pr):List Int:=ps.map fun p=>p.1.1
def lP(ps:List Pr)(own:Int):Int:=match turns ps++[own]with
 |m :: r=>jr m r
 | []=>0
structure Kr where
 pair:Pr
 up:Bool
def krF(k:Kr):List (Nat×D):=[(4,pD k.pair),(8,.bl k.up)]
structure Hd where
 num:Nat
 cnt:Nat
 atw:Bool
 val:Option Int
 pair:Option Pr
 rnd:Int
 ak:List (Nat×Option Pr)
 own:Int
def hdF(h:Hd)(d:Nat):List (Nat×D):=[(0,.int (h.num:Int)),(1,.int (h.cnt:Int)),(2,.bl h.atw),(3,oD h.val),(4,opD h.pair),(5,.int h.rnd),(6,.ref d),(7,.int h.own)]
def cX(l:List (Nat×Option Pr)):List (Key×D):=l.map fun e=>(.inl (e.1:Int),opD e.2)
def gD(G:Hh)(a:Nat)(k:Kr):Prop:=G[a]? =some (.ins 1 (krF k))
def fi(G:Hh)(a d:Nat)(h:Hd):Prop:=G[a]? =some (.ins 0 (hdF h d))/\G[d]? =some (.dK (cX h.ak))
section
variable{G:Hh}{Q:D->Hh->Prop}{E:Nat->Hh->Prop}
def yk{c m:Int}(h:Q (.bl (decide (c < m*2))) G):run (kj [.int c,.int m]) G Q E:=by
 walk_at "f"
 unfold mK
 lia
 exact h
def zT{l:Nat}{ps:List Pr}(hl:G[l]? =some (.lst (ps.map pD)))(h:Q (pD (oq ps)) G):run (lX [.ref l]) G Q E:=by
 walk_at "f"
 unfold pw
 lia
 refine eS hl ?_
 refine jK (fun i σ G'=>G'=G/\∃x,σ=[some (.ref l),some (pD ((ps.take i).foldl better start)),x]) ?_ ?_ ?_ ⟨rfl,none,rfl⟩
 · rintro i σ G' ⟨rfl,_⟩
   exact qZ_ hl
 · rintro i p σ G' hp ⟨rfl,y,rfl⟩
   unfold pD
   lia
   have key:(ps.take (i+1)).foldl better start=better ((ps.take i).foldl better start) p:=by rw[take_succ hp,List.foldl_append];rfl
   refine w_ite (fun c=>?_) fun c=>?_
   · lia
     refine⟨rfl,some (pD p),?_⟩
     have:(ps.take (i+1)).foldl better start=p:=by rw[key,better,if_pos (show gtS p.1 _=true from c)]
     rw[this];rfl
   · lia
     refine⟨rfl,some (pD p),?_⟩
     have:(ps.take (i+1)).foldl better start=(ps.take i).foldl better start:=by rw[key,better,if_neg (by rw[show gtS p.1 _=false from c];exact qC_)]
     rw[this];rfl
 · rintro σ G' ⟨rfl,y,rfl⟩
   lia
   rw[List.take_length]
   exact h
def qy{l:Nat}{ps:List Pr}{own hand:Int}(hl:G[l]? =some (.lst (ps.map pD)))(hz:ps.length<=1000)(h:∀G',Ext G G'->Q (.tup [.int (lP ps own+1),.int hand]) G'):run (fx [.ref l,.int own,.int hand]) G Q E:=by
 walk_at "f"
 unfold ib
 lia
 refine eS hl ?_
 refine kh (p:=fun _=>true) (g:=fun p:Pr=>D.int p.1.1) (qZ_ hl) (by omega) (fun x _=>fL ⟨rfl,rfl⟩) (fun x _ _=>?_) ?_
 · unfold pD
   lia
   exact⟨rfl,rfl⟩
 have e1:(ps.filter fun _=>true).map (fun p:Pr=>D.int p.1.1)=(turns ps).map D.int:=by
  rw[List.filter_eq_self.mpr (fun _ _=>rfl)]
  unfold turns
  rw[qb_]
  rfl
 rw[e1]
 lia
 have tl:(turns ps).length=ps.length:=by unfold turns;rw[qM_]
 refine zS ((Ext.add _ _).get (bc G _)) (bc _ _) (by rw[qM_,tl];simp [aC];omega) ?_
 lia
 have e2:intsOf ((turns ps).map D.int++[.int own])=some (turns ps++[own]):=by
  induction turns ps with
  |nil=>rfl
  |cons a r ih=>show Option.map _ (intsOf (r.map D.int++[.int own]))=_;rw[ih];rfl
 cases q:turns ps++[own]with
 |nil=>simp at q
 |cons m r=>
  rw[q]at e2
  refine DC (bc _ _) e2 ?_
  lia
  have e3:lP ps own=jr m r:=by unfold lP;rw[q]
  rw[<-e3]
  exact h _ (((Ext.add _ _).trans (Ext.add _ _)).trans (Ext.add _ _))
variable{a d:Nat}{k:Kr}{h:Hd}
def Eo{Q:D->Hh->Prop}(hk:gD G a k)(hq:∀G',Chg [a] G G'->gD G' a {k with up:=false}->Q (.bl k.up) G'):run (fB [.ref a]) G Q E:=by
 unfold gD krF at hk
 walk_at "f"
 unfold hZ
 lia
 refine aM hk ⟨by decide,qP_ rfl⟩ fun G' hc hl hn=>?_
 lia
 exact hq G' hc hn
def DM{Q:D->Hh->Prop}(hk:gD G a k)(hq:∀G',Chg [a] G G'->gD G' a {k with up:=true}->Q (.bl (!k.up)) G'):run (fw [.ref a]) G Q E:=by
 unfold gD krF at hk
 walk_at "f"
 unfold hU
 lia
 refine aM hk ⟨by decide,qP_ rfl⟩ fun G' hc hl hn=>?_
 lia
 exact hq G' hc hn
def lS(k:Kr)(p:Pr):Kr:=if gtS p.1 k.pair.1 then {k with pair:=p} else k
def E7{Q:D->Hh->Prop}{p:Pr}(hk:gD G a k)(hq:∀G',Chg [a] G G'->gD G' a (lS k p)->Q .non G'):run (fD [.ref a,pD p]) G Q E:=by
 unfold gD krF at hk
 walk_at "f"
 unfold hV pD
 lia
 unfold lS at hq
 refine w_ite (fun c=>?_) fun c=>?_
 · rw[if_pos (show gtS p.1 k.pair.1=true from c)]at hq
   lia
   refine aM hk ⟨by decide,qP_ rfl⟩ fun G' hc hl hn=>?_
   lia
   exact hq G' hc hn
 · rw[if_neg (by rw[show gtS p.1 k.pair.1=false from c];exact qC_)]at hq
   lia
   exact hq G (Chg.refl _ _) hk
def aQ(k:Kr)(l:Lt):Kr×Option Lt:=
 if k.up then (match l.pair with
  |none=>(k,some {l with pair:=some k.pair})
  |some p=>(lS k p,some {l with pair:=none}))else (k,none)
def IQ:Option Lt->D
 |none=>.non
 |some l=>ltD l
def uB{Q:D->Hh->Prop}{l:Lt}(hk:gD G a k)(hq:∀G',Chg [a] G G'->gD G' a (aQ k l).1->Q (IQ (aQ k l).2) G'):run (cG [.ref a,ltD l]) G Q E:=by
 have hk0:=hk
 unfold gD krF at hk
 walk_at "f"
 unfold eg ltD
 unfold aQ at hq
 lia
 cases up:k.up with
 |false=>
  rw[up]at hq
  lia
  exact hq G (Chg.refl _ _) hk0
 |true=>
  rw[up]at hq
  lia
  rw[oj]
  cases lp:l.pair with
  |none=>
   rw[lp]at hq
   refine lM ?_
   lia
   refine aP (a:=D.tup [.int (l.hand:Int),.int (l.kpr:Int),.int l.num]) (G':=G) rfl ?_
   lia
   refine aP (a:=D.tup [.int (l.hand:Int),.int (l.kpr:Int),.int l.num,pD k.pair]) (G':=G) rfl ?_
   lia
   exact hq G (Chg.refl _ _) hk0
  |some p=>
   rw[lp]at hq
   refine mT ?_
   lia
   refine E7 hk0 fun G' hc hn=>?_
   lia
   refine aP (a:=D.tup [.int (l.hand:Int),.int (l.kpr:Int),.int l.num]) (G':=G') rfl ?_
   lia
   refine aP (a:=D.tup [.int (l.hand:Int),.int (l.kpr:Int),.int l.num,.non]) (G':=G') rfl ?_
   lia
   exact hq G' hc hn
end
section
variable{G:Hh}{Q:D->Hh->Prop}{E:Nat->Hh->Prop}{a d:Nat}{h:Hd}
def jj(i c:Nat):Hd:=⟨i,c,false,none,none,0,[],0⟩
def ux{i c:Nat}(ha:G[a]? =some (.ins 0 []))(hq:∀G' d,Chg [a] G G'->G.length<=d->fi G' a d (jj i c)->Q .non G'):run (gR [.ref a,.int (i:Int),.int (c:Int)]) G Q E:=by
 walk_at "f"
 unfold jA
 lia
 refine aM ha ⟨by decide,qP_ rfl⟩ fun G1 c1 l1 h1=>?_
 lia
 refine aM h1 ⟨by decide,qP_ rfl⟩ fun G2 c2 l2 h2=>?_
 lia
 refine aM h2 ⟨by decide,qP_ rfl⟩ fun G3 c3 l3 h3=>?_
 lia
 refine aM h3 ⟨by decide,qP_ rfl⟩ fun G4 c4 l4 h4=>?_
 lia
 refine aM h4 ⟨by decide,qP_ rfl⟩ fun G5 c5 l5 h5=>?_
 lia
 refine aM h5 ⟨by decide,qP_ rfl⟩ fun G6 c6 l6 h6=>?_
 refine w_next ?_
 refine aA (fv (pB fun G7 c7 l7 h7=>w_var rfl ?_))
 have h6':=c7.get h6 (by simp)
 refine aM h6' ⟨by decide,qP_ rfl⟩ fun G8 c8 l8 h8=>?_
 have hd8:=c8.get h7 (by have:=az h6;simp;omega)
 lia
 refine aM h8 ⟨by decide,qP_ rfl⟩ fun G9 c9 l9 h9=>?_
 lia
 have hd9:=c9.get hd8 (by have:=az h6;simp;omega)
 have cc:Chg [a] G G9:=(((((c1.trans c2).trans c3).trans c4).trans c5).trans c6).trans (((c7.mono (by simp)).trans c8).trans c9)
 exact hq G9 G6.length cc (by omega) ⟨h9,hd9⟩
def q8(h:Hd):List Nat:=(List.range h.cnt).filter fun k=>!decide (k∈h.ak.map (·.1))
def bp(h:Hd):List Lt:=(q8 h).map fun k=>⟨h.num,k,h.rnd,h.pair⟩
def vm(l:List (Nat×Option Pr))(k:Nat):((look (cX l) (.inl (k:Int))).isSome)=decide (k∈l.map (·.1)):=by
 rw[um]
 refine decide_eq_decide.mpr ⟨fun z=>?_,fun z=>?_⟩
 · unfold cX at z
   rw[qb_]at z
   obtain⟨e,he,ee⟩:=qH_.mp z
   have:(e.1:Int)=(k:Int):=Sum.inl.inj ee
   exact qH_.mpr ⟨e,he,by omega⟩
 · unfold cX
   rw[qb_]
   obtain⟨e,he,ee⟩:=qH_.mp z
   exact qH_.mpr ⟨e,he,by show Sum.inl (e.1:Int)=Sum.inl (k:Int);rw[ee]⟩
def ID(n:Nat):rng 0 n=(List.range n).map fun(k:Nat)=>D.int (k:Int):=by
 unfold rng
 congr 1
 funext k
 rw[Int.zero_add]
def kD(h:Hd):(q8 h).length<=h.cnt:=by
 unfold q8
 have:=List.length_filter_le (fun k=>!decide (k∈h.ak.map (·.1))) (List.range h.cnt)
 rw[List.length_range]at this
 exact this
def rb(ha:fi G a d h)(hz:h.cnt<=1000)(hq:∀l G',Ext G G'->G.length<=l->G'[l]? =some (.lst ((bp h).map ltD))->Q (.ref l) G'):run (cC [.ref a]) G Q E:=by
 obtain⟨ha,hd⟩:=ha
 unfold hdF at ha
 walk_at "f"
 unfold gv
 lia
 with_reducible refine M3.fJ (by omega) ?_
 rw[ID]
 refine kh (p:=fun k:Nat=>!decide (k∈h.ak.map (·.1))) (g:=fun k:Nat=>D.int (k:Int)) rfl (by simp;omega) (fun x _=>?_) (fun x _ _=>w_var rfl ⟨rfl,rfl⟩) ?_
 · refine dI (aD (w_var rfl (w_fld (w_var rfl (bh ha (by decide) rfl ?_)))))
   refine BE (b:=decide (x∈h.ak.map (·.1))) ?_ ?_
   · unfold inG
     dsimp only
     rw[hd]
     show some (look (cX h.ak) (.inl (x:Int))).isSome=_
     rw[vm]
   exact⟨rfl,rfl⟩
 have e0:((List.range h.cnt).filter fun k:Nat=>!decide (k∈h.ak.map (·.1)))=q8 h:=rfl
 rw[e0]
 refine w_next ?_
 walk_at "s"
 have ha1:=(Ext.add G (.lst ((q8 h).map fun k:Nat=>D.int (k:Int)))).get ha
 refine bI (rL (mw (w_var rfl (eS (bc _ _) ?_))))
 have hw:=kD h
 refine kh (p:=fun _:Nat=>true) (g:=fun k:Nat=>ltD ⟨h.num,k,h.rnd,h.pair⟩) (qZ_ (bc _ _)) (by omega) (fun x _=>fL ⟨rfl,rfl⟩) (fun x _ _=>?_) ?_
 · lia
   exact⟨rfl,rfl⟩
 rw[List.filter_eq_self.mpr (fun _ _=>rfl)]
 lia
 refine hq _ _ ((Ext.add _ _).trans (Ext.add _ _)) (by simp) ?_
 rw[bc]
 unfold bp
 rw[qb_]
 rfl
def roundF(h:Hd)(p:Option Pr):Hd:={h with rnd:=h.rnd+1,pair:=p,ak:=[]}
def kZ{p:Option Pr}(ha:fi G a d h)(hz:h.cnt<=1000)(hq:∀l d' G',Chg [a] G G'->G.length<=d'->G.length<=l->fi G' a d' (roundF h p)->G'[l]? =some (.lst ((bp (roundF h p)).map ltD))->Q (.ref l) G'):run (bE [.ref a,opD p]) G Q E:=by
 obtain⟨ha,hd⟩:=ha
 unfold hdF at ha
 walk_at "f"
 unfold dX
 lia
 refine aM ha ⟨by decide,qP_ rfl⟩ fun G1 c1 l1 h1=>?_
 lia
 refine aM h1 ⟨by decide,qP_ rfl⟩ fun G2 c2 l2 h2=>?_
 refine w_next ?_
 refine aA (fv (pB fun G3 c3 l3 h3=>w_var rfl ?_))
 have h2':=c3.get h2 (by simp)
 refine aM h2' ⟨by decide,qP_ rfl⟩ fun G4 c4 l4 h4=>?_
 have hd4:=c4.get h3 (by have:=az h2;simp;omega)
 refine w_next ?_
 refine bI (bu (w_var rfl (bU h4 (aB ?_))))
 refine rb (h:=roundF h p) (d:=G2.length) ⟨h4,hd4⟩ hz fun l G5 x5 l5 h5=>?_
 lia
 have cc:Chg [a] G G4:=(c1.trans c2).trans ((c3.mono (by simp)).trans c4)
 exact hq l G2.length G5 (cc.trans x5.chg) (by omega) (by omega) ⟨x5.get h4,x5.get hd4⟩ h5
def aZ(h:Hd)(v:Option Int):Hd:=roundF {h with atw:=true,val:=v} none
def wW{v:Option Int}(ha:fi G a d h)(hz:h.cnt<=1000)(hb:h.atw=true->E 1004 G)(hq:h.atw=false->∀l d' G',Chg [a] G G'->G.length<=d'->G.length<=l->fi G' a d' (aZ h v)->G'[l]? =some (.lst ((bp (aZ h v)).map ltD))->Q (.ref l) G'):run (di [.ref a,oD v]) G Q E:=by
 have ha0:=ha
 obtain⟨ha,hd⟩:=ha
 unfold hdF at ha
 walk_at "f"
 unfold iV
 lia
 cases q:h.atw with
 |true=>
  lia
  exact hb q
 |false=>
  lia
  rw[q]at ha
  refine aM ha ⟨by decide,qP_ rfl⟩ fun G1 c1 l1 h1=>?_
  lia
  refine aM h1 ⟨by decide,qP_ rfl⟩ fun G2 c2 l2 h2=>?_
  refine w_next ?_
  refine bI (bu (w_var rfl (bU h2 (aj (w_c (aB ?_))))))
  have hne:d≠a:=by rintro rfl;rw[ha]at hd;cases hd
  refine kZ (p:=none) (h:={h with atw:=true,val:=v}) (d:=d) ⟨h2,c2.get (c1.get hd (by simpa using hne)) (by simpa using hne)⟩ hz fun l d' G3 c3 l3 l4 h3 h4=>?_
  lia
  exact hq q l d' G3 ((c1.trans c2).trans c3) (by omega) (by omega) h3 h4
def qD{v:Int}(ha:fi G a d h)(hz:h.cnt<=1000)(hb:h.atw=true->E 1004 G)(hq:h.atw=false->∀l d' G',Chg [a] G G'->G.length<=d'->G.length<=l->fi G' a d' (aZ h (some v))->G'[l]? =some (.lst ((bp (aZ h (some v))).map ltD))->Q (.ref l) G'):run (cJ [.ref a,.int v]) G Q E:=by
 have ha0:=ha.1
 unfold hdF at ha0
 walk_at "f"
 unfold dQ
 lia
 refine wW (v:=some v) ha hz hb fun q l d' G' c l1 l2 h1 h2=>?_
 lia
 exact hq q l d' G' c l1 l2 h1 h2
def sh(ha:fi G a d h)(hz:h.cnt<=1000)(hb:h.atw=true->E 1004 G)(hq:h.atw=false->∀l d' G',Chg [a] G G'->G.length<=d'->G.length<=l->fi G' a d' (aZ h none)->G'[l]? =some (.lst ((bp (aZ h none)).map ltD))->Q (.ref l) G'):run (cQ [.ref a]) G Q E:=by
 have ha0:=ha.1
 unfold hdF at ha0
 walk_at "f"
 unfold eP
 lia
 refine wW (v:=none) ha hz hb fun q l d' G' c l1 l2 h1 h2=>?_
 lia
 exact hq q l d' G' c l1 l2 h1 h2
def kS(ha:fi G a d h)(hb:h.atw=false->E 1005 G)(hq:h.atw=true->Q .non G):run (bF [.ref a]) G Q E:=by
 obtain⟨ha,hd⟩:=ha
 unfold hdF at ha
 walk_at "f"
 unfold dP
 lia
 cases q:h.atw with
 |true=>lia
        exact hq q
 |false=>lia
         exact hb q
def rQ(ha:fi G a d h)(hz:h.cnt<=1000)(hb:h.atw=false->E 1005 G)(hq:h.atw=true->∀l G',Ext G G'->G.length<=l->G'[l]? =some (.lst ((bp h).map ltD))->Q (.ref l) G'):run (cR [.ref a]) G Q E:=by
 have ha0:=ha.1
 unfold hdF at ha0
 walk_at "f"
 unfold eV
 lia
 refine kS ha hb fun q=>?_
 lia
 refine rb ha hz fun l G' x l1 h1=>?_
 lia
 exact hq q l G' x l1 h1
def xB(ha:fi G a d h)(hb:h.atw=false->E 1005 G)(hq:h.atw=true->∀G',Chg [a] G G'->fi G' a d {h with atw:=false}->Q .non G'):run (eO [.ref a]) G Q E:=by
 have ha0:=ha.1
 unfold hdF at ha0
 have hne:d≠a:=by rintro rfl;have:=ha.2;rw[ha0]at this;cases this
 walk_at "f"
 unfold gu
 lia
 refine kS ha hb fun q=>?_
 lia
 refine aM ha0 ⟨by decide,qP_ rfl⟩ fun G1 c1 l1 h1=>?_
 lia
 exact hq q G1 c1 ⟨h1,c1.get ha.2 (by simpa using hne)⟩
def aV(h:Hd)(ps:List Pr):Hd×Pr:=match h.val with
 |none=>(h,oq ps)
 |some v=>({h with own:=lP ps h.own+1},((lP ps h.own+1,(h.num:Int)),v))
def z0{ps:List Pr}(ha:fi G a d h)(hp:h.ak.map (·.2)=ps.map some)(hz:ps.length<=1000)(hq:∀G',Chg [a] G G'->fi G' a d (aV h ps).1->Q (pD (aV h ps).2) G'):run (fy [.ref a]) G Q E:=by
 obtain⟨ha,hd⟩:=ha
 unfold hdF at ha
 have hne:d≠a:=by rintro rfl;rw[ha]at hd;cases hd
 unfold aV at hq
 walk_at "f"
 unfold hG
 lia
 refine CL hd ?_
 have e1:(cX h.ak).map (·.2)=ps.map pD:=by
  have:(h.ak.map (·.2)).map opD=(ps.map some).map opD:=by rw[hp]
  rw[qb_,qb_]at this
  unfold cX
  rw[qb_]
  exact this
 rw[e1]
 have x1:Ext G (G++[O.lst (ps.map pD)]):=Ext.add _ _
 have ha1:=x1.get ha
 have hd1:=x1.get hd
 have hl1:(G++[O.lst (ps.map pD)])[G.length]? =some (.lst (ps.map pD)):=bc _ _
 generalize G++[O.lst (ps.map pD)]=G1 at x1 ha1 hd1 hl1
 generalize G.length=ll at hl1
 lia
 rw[zR]
 cases hv:h.val with
 |none=>
  rw[hv]at hq
  refine lM ?_
  lia
  refine zT hl1 ?_
  lia
  exact hq G1 x1.chg ⟨ha1,hd1⟩
 |some v=>
  rw[hv]at hq
  refine mT ?_
  lia
  refine qy hl1 hz fun G2 x2=>?_
  have ha2:=x2.get ha1
  lia
  refine aM ha2 ⟨by decide,qP_ rfl⟩ fun G3 c3 l3 h3=>?_
  have hd3:=c3.get (x2.get hd1) (by simpa using hne)
  rw[hv]at h3
  lia
  exact hq G3 ((x1.trans x2).chg.trans c3) ⟨h3,hd3⟩
def aS(l:List (Nat×Option Pr))(k:Nat)(p:Option Pr):List (Nat×Option Pr):=
 if (l.any fun e=>decide (e.1=k))then l.map fun e=>if e.1=k then (e.1,p)else e else l++[(k,p)]
def FF(l:List (Nat×Option Pr))(k:Nat)(p:Option Pr):put (cX l) (.inl (k:Int)) (opD p)=cX (aS l k p):=by
 have key:∀e:Nat×Option Pr,decide ((Sum.inl (e.1:Int):Key)= .inl (k:Int))=decide (e.1=k):=fun e=>decide_eq_decide.mpr ⟨fun z=>by have:=Sum.inl.inj z;omega,fun z=>by rw[z]⟩
 unfold put aS
 have e1:((cX l).any fun kv=>decide (kv.1=(.inl (k:Int):Key)))=l.any fun e=>decide (e.1=k):=by
  unfold cX
  rw[List.any_map]
  congr 1
  funext e
  exact key e
 rw[e1]
 by_cases c:(l.any fun e=>decide (e.1=k))=true
 · rw[if_pos c,if_pos c]
   unfold cX
   rw[qb_,qb_]
   apply List.map_congr_left
   intro e _
   by_cases z:e.1=k
   · have z':(Sum.inl (e.1:Int):Key)= .inl (k:Int):=by rw[z]
     show (if (Sum.inl (e.1:Int):Key)= .inl (k:Int)then ((Sum.inl (e.1:Int):Key),opD p)else (Sum.inl (e.1:Int),opD e.2))=(Sum.inl ((if e.1=k then (e.1,p)else e).1:Int),opD (if e.1=k then (e.1,p)else e).2)
     rw[if_pos z',if_pos z]
   · have z':¬(Sum.inl (e.1:Int):Key)= .inl (k:Int):=fun w=>z (by have:=Sum.inl.inj w;omega)
     show (if (Sum.inl (e.1:Int):Key)= .inl (k:Int)then ((Sum.inl (e.1:Int):Key),opD p)else (Sum.inl (e.1:Int),opD e.2))=(Sum.inl ((if e.1=k then (e.1,p)else e).1:Int),opD (if e.1=k then (e.1,p)else e).2)
     rw[if_neg z',if_neg z]
 · rw[if_neg c,if_neg c]
   unfold cX
   rw[qT_]
   rfl
def vals(l:List (Nat×Option Pr)):List Pr:=l.filterMap (·.2)
def B3{l:List (Nat×Option Pr)}(hl:∀e∈l,e.2.isSome=true):l.map (·.2)=(vals l).map some:=by
 induction l with
 |nil=>rfl
 |cons e r ih=>
  have h1:=hl e qI_
  obtain⟨p,hp⟩:=Option.isSome_iff_exists.mp h1
  unfold vals at*
  rw[List.filterMap_cons,hp]
  simp only[List.map_cons,hp]
  rw[ih fun x hx=>hl x (qR_ _ hx)]
def zI(l:List (Nat×Option Pr)):(vals l).length<=l.length:=List.length_filterMap_le _ _
def aL(h:Hd)(l:Lt):Hd×List Lt×Option Pr:=
 if (!h.atw||!decide (l.num=h.rnd))=true then (h,[],none)
 else
  let h1:Hd:={h with ak:=aS h.ak l.kpr l.pair}
  if (!decide (h.cnt < h1.ak.length*2))=true then (h1,[],none)
  else match h.pair with
   |none=>let c:=aV h1 (vals h1.ak);(roundF c.1 (some c.2),bp (roundF c.1 (some c.2)),none)
   |some p=>({h1 with atw:=false},[],some p)
def iW(h:Hd)(ps:List Pr):(aV h ps).1.cnt=h.cnt:=by unfold aV;cases h.val <;> rfl
def Fq{l:Lt}(ha:fi G a d h)(hz:h.cnt<=1000)(hz2:(aS h.ak l.kpr l.pair).length<=1000)(hok:h.atw=true->l.num=h.rnd->h.pair=none->∀e∈aS h.ak l.kpr l.pair,e.2.isSome=true)
 (hq:∀ll d' G',Chg [a,d] G G'->(d'=d\/G.length<=d')->G.length<=ll->fi G' a d' (aL h l).1->G'[ll]? =some (.lst ((aL h l).2.1.map ltD))->Q (.tup [.ref ll,opD (aL h l).2.2]) G'):run (gQ [.ref a,ltD l]) G Q E:=by
 have ha0:=ha
 obtain⟨ha,hd⟩:=ha
 unfold hdF at ha
 have hne:d≠a:=by rintro rfl;rw[ha]at hd;cases hd
 have nothing:run (aG (cm (ae (dJ ao) (ae (eC .non) ao))) [some (.ref a),some (ltD l)]) G (fun p G1=>p.1= .ret (.tup [.ref G.length,.non])/\Chg [] G G1/\G1[G.length]? =some (.lst [])) E:=by
  refine bI (wu (aj (fE fun G1 c1 l1 h1=>aj (w_c (aB ⟨qP_ (by with_unfolding_all rfl),rfl,c1,h1⟩)))))
 unfold aL at hq
 walk_at "f"
 unfold jC
 refine aA (b8 (oY (lH (jM (w_fld (w_var rfl (bh ha (by decide) rfl (lA ?_))))))))
 have stop:(!h.atw||!decide (l.num=h.rnd))=true->∀p G1,(p:Fl×St).1= .ret (.tup [.ref G.length,.non])/\Chg [] G G1/\G1[G.length]? =some (.lst [])->Q (.tup [.ref G.length,.non]) G1:=fun c p G1 ⟨_,c1,h1⟩=>by
  rw[if_pos c]at hq
  exact hq G.length d G1 (c1.mono (by simp)) (.inl rfl) (qO_ _) ⟨c1.get ha (by simp),c1.get hd (by simp)⟩ h1
 cases qa:h.atw with
 |false=>
  refine ox ?_
  refine fL ?_
  refine lM ?_
  refine aq nothing (fun p G1 q=>?_) fun _ _ z=>z
  have qq:=stop (by rw[qa];rfl) p G1 q
  obtain⟨f,σ⟩:=p
  cases (show f= .ret (.tup [.ref G.length,.non])from q.1)
  lia
  exact qq
 |true=>
  refine ol ?_
  unfold ltD
  lia
  refine qE eq_int ?_
  lia
  refine w_ite (fun c=>?_) fun c=>?_
  · refine aq nothing (fun p G1 q=>?_) fun _ _ z=>z
    have qq:=stop (by rw[qa];simpa using c) p G1 q
    obtain⟨f,σ⟩:=p
    cases (show f= .ret (.tup [.ref G.length,.non])from q.1)
    lia
    exact qq
  have hnum:l.num=h.rnd:=by simpa using c
  have hc0:¬(!h.atw||!decide (l.num=h.rnd))=true:=by rw[qa,hnum];simp
  rw[if_neg hc0]at hq
  lia
  have hzl:(cX h.ak).length < aC:=by
   have:h.ak.length<=(aS h.ak l.kpr l.pair).length:=by
    unfold aS
    split <;> simp
   unfold cX
   rw[qM_]
   unfold aC
   omega
  refine xm hd rfl hzl fun G1 c1 l1 h1=>?_
  rw[FF]at h1
  have ha1:=c1.get ha (by simpa using Ne.symm hne)
  have c1':Chg [a,d] G G1:=c1.mono (by simp)
  lia
  refine EZ h1 ?_
  have e2:(cX (aS h.ak l.kpr l.pair)).length=(aS h.ak l.kpr l.pair).length:=by unfold cX;rw[qM_]
  rw[e2]
  lia
  with_reducible refine yk ?_
  have e3:decide ((h.cnt:Int) < ((aS h.ak l.kpr l.pair).length:Int)*2)=decide (h.cnt < (aS h.ak l.kpr l.pair).length*2):=decide_eq_decide.mpr (by omega)
  rw[e3]
  lia
  dsimp only at hq
  cases qm:decide (h.cnt < (aS h.ak l.kpr l.pair).length*2)with
  |false=>
   rw[qm]at hq
   rw[if_pos (show (!false)=true from rfl)]at hq
   lia
   have c2:Chg [] G1 (G1++[O.lst []]):=Chg.add _ _
   exact hq G1.length d (G1++[O.lst []]) (c1'.trans (c2.mono (by simp))) (.inl rfl) (Nat.le_of_eq l1.symm) ⟨c2.get ha1 (by simp),c2.get h1 (by simp)⟩ (bc _ _)
  |true=>
   rw[qm]at hq
   rw[if_neg (show ¬(!true)=true from qC_)]at hq
   lia
   rw[oj]
   cases qp:h.pair with
   |none=>
    rw[qp]at hq
    refine lM ?_
    dsimp only at hq
    have hv:=B3 (hok qa hnum qp)
    have hvl:=zI (aS h.ak l.kpr l.pair)
    lia
    have hat1:fi G1 a d {h with ak:=aS h.ak l.kpr l.pair,pair:=none}:=⟨by rw[qp]at ha1;exact ha1,h1⟩
    refine z0 hat1 hv (by omega) fun G2 c2 h2=>?_
    have hcn:=iW {h with ak:=aS h.ak l.kpr l.pair,pair:=none} (vals (aS h.ak l.kpr l.pair))
    generalize aV {h with ak:=aS h.ak l.kpr l.pair,pair:=none} (vals (aS h.ak l.kpr l.pair))=ch at hq h2 hcn
    lia
    refine kZ (p:=some ch.2) h2 (by rw[hcn];exact hz) fun ll d' G3 c3 l3 l4 h3 h4=>?_
    lia
    have g2:=c2.1
    exact hq ll d' G3 ((c1'.trans (c2.mono (by simp))).trans (c3.mono (by simp))) (.inr (by omega)) (by omega) h3 h4
   |some p=>
    rw[qp]at hq
    refine mT ?_
    lia
    refine aM ha1 ⟨by decide,qP_ rfl⟩ fun G2 c2 l2 h2=>?_
    have hd2:=c2.get h1 (by simpa using hne)
    refine w_next ?_
    refine bI (wu (aj (fE fun G3 c3 l3 h3=>?_)))
    have h23:=c3.get h2 (by simp)
    have hd3:=c3.get hd2 (by simp)
    refine aj (w_fld (w_var rfl (bh h23 (by decide) rfl (aB ⟨qP_ (by with_unfolding_all rfl),?_⟩))))
    lia
    rw[qp]
    refine hq G2.length d G3 ((c1'.trans (c2.mono (by simp))).trans (c3.mono (by simp))) (.inl rfl) (by omega) ⟨?_,hd3⟩ h3
    rw[qp]at h23
    exact h23
end
structure Hl where
 ks:List Kr
 hs:List Hd
 row:List (Bool×Lt)
structure Ad where
 a:Nat
 lk:Nat
 lh:Nat
 lr:Nat
 ka:List Nat
 ha:List Nat
 da:List Nat
def Ad.foot(A:Ad):List Nat:=[A.a,A.lk,A.lh,A.lr]++(A.ka++(A.ha++A.da))
def refs(xs:List Nat):List D:=xs.map D.ref
structure bw (G:Hh) (A:Ad) (st:Hl):Prop where
 o:G[A.a]? =some (.ins 2 [(9,.ref A.lk),(10,.ref A.lh),(11,.ref A.lr)])
 k:G[A.lk]? =some (.lst (refs A.ka))
 h:G[A.lh]? =some (.lst (refs A.ha))
 r:G[A.lr]? =some (.lst (st.row.map enD))
 kl:A.ka.length=st.ks.length
 hl:A.ha.length=st.hs.length
 dl:A.da.length=st.hs.length
 kr:∀(i:Nat) a k,A.ka[i]? =some a->st.ks[i]? =some k->gD G a k
 hd:∀(i:Nat) a d h,A.ha[i]? =some a->A.da[i]? =some d->st.hs[i]? =some h->fi G a d h
 nd:A.foot.Nodup
section
variable{G G':Hh}{Q:D->Hh->Prop}{E:Nat->Hh->Prop}{A:Ad}{st:Hl}
def bw.lt(H:bw G A st):∀n∈A.foot,n < G.length:=by
 intro n hn
 unfold Ad.foot at hn
 rcases qG_.mp hn with z |z
 · simp only[qS_,List.not_mem_nil,or_false]at z
   rcases z with rfl |rfl |rfl |rfl
   · exact az H.o
   · exact az H.k
   · exact az H.h
   · exact az H.r
 · rcases qG_.mp z with z |z
   · obtain⟨i,hi,e⟩:=List.getElem_of_mem z
     have h1:A.ka[i]? =some n:=by rw[qA_ hi,e]
     have h2:i < st.ks.length:=by rw[<-H.kl];exact hi
     exact az (H.kr i n _ h1 (qA_ h2))
   · have lens:=H.dl.trans H.hl.symm
     rcases qG_.mp z with z |z
     · obtain⟨i,hi,e⟩:=List.getElem_of_mem z
       have h1:A.ha[i]? =some n:=by rw[qA_ hi,e]
       have h2:i < st.hs.length:=by rw[<-H.hl];exact hi
       have h3:i < A.da.length:=by rw[H.dl];exact h2
       exact az (H.hd i n _ _ h1 (qA_ h3) (qA_ h2)).1
     · obtain⟨i,hi,e⟩:=List.getElem_of_mem z
       have h1:A.da[i]? =some n:=by rw[qA_ hi,e]
       have h2:i < st.hs.length:=by rw[<-H.dl];exact hi
       have h3:i < A.ha.length:=by rw[H.hl];exact h2
       exact az (H.hd i _ n _ (qA_ h3) h1 (qA_ h2)).2
def fi.chg{S:List Nat}{a d:Nat}{h:Hd}(x:fi G a d h)(c:Chg S G G')(h1:a∉S)(h2:d∉S):fi G' a d h:=⟨c.get x.1 h1,c.get x.2 h2⟩
def wB{i a:Nat}(h:A.ka[i]? =some a):a∈A.foot:=by unfold Ad.foot;simp [qD_ h]
def tu{i a:Nat}(h:A.ha[i]? =some a):a∈A.foot:=by unfold Ad.foot;simp [qD_ h]
def xf{i a:Nat}(h:A.da[i]? =some a):a∈A.foot:=by unfold Ad.foot;simp [qD_ h]
def bw.frame{S:List Nat}(H:bw G A st)(c:Chg S G G')(hs:∀n∈S,n∉A.foot):bw G' A st:=by
 have ns:∀n∈A.foot,n∉S:=fun n h z=>hs n z h
 exact⟨c.get H.o (ns _ (by simp [Ad.foot])),c.get H.k (ns _ (by simp [Ad.foot])),c.get H.h (ns _ (by simp [Ad.foot])),c.get H.r (ns _ (by simp [Ad.foot])),H.kl,H.hl,H.dl,
  fun i a k h1 h2=>c.get (H.kr i a k h1 h2) (ns _ (wB h1)),fun i a d h h1 h2 h3=>(H.hd i a d h h1 h2 h3).chg c (ns _ (tu h1)) (ns _ (xf h2)),H.nd⟩
def oH(nd:A.foot.Nodup):(A.a≠A.lk/\A.a≠A.lh/\A.a≠A.lr/\A.lk≠A.lh/\A.lk≠A.lr/\A.lh≠A.lr)/\(∀x∈A.ka++(A.ha++A.da),x≠A.a/\x≠A.lk/\x≠A.lh/\x≠A.lr)/\A.ka.Nodup/\(∀x∈A.ka,x∉A.ha/\x∉A.da)/\A.ha.Nodup/\A.da.Nodup/\∀x∈A.ha,x∉A.da:=by
 unfold Ad.foot at nd
 rw[List.nodup_append]at nd
 obtain⟨n1,n2,n3⟩:=nd
 rw[List.nodup_append]at n2
 obtain⟨n4,n5,n6⟩:=n2
 rw[List.nodup_append]at n5
 obtain⟨n7,n8,n9⟩:=n5
 refine⟨?_,fun x hx=>⟨fun z=>n3 A.a (by simp) x hx z.symm,fun z=>n3 A.lk (by simp) x hx z.symm,fun z=>n3 A.lh (by simp) x hx z.symm,fun z=>n3 A.lr (by simp) x hx z.symm⟩,n4,fun x hx=>⟨fun z=>n6 x hx x (qF_ _ z) rfl,fun z=>n6 x hx x (qE_ _ z) rfl⟩,n7,n8,fun x hx z=>n9 x hx x z rfl⟩
 simp only[List.nodup_cons,qS_,List.not_mem_nil,or_false,not_or]at n1
 obtain⟨⟨a1,a2,a3⟩,⟨a4,a5⟩,a6,_⟩:=n1
 exact⟨a1,a2,a3,a4,a5,a6⟩
def get_inj{xs:List Nat}(nd:xs.Nodup){i j x:Nat}(h1:xs[i]? =some x)(h2:xs[j]? =some x):i=j:=by
 obtain⟨l1,e1⟩:=qB_.mp h1
 obtain⟨l2,e2⟩:=qB_.mp h2
 exact(List.getElem_inj nd).mp (e1.trans e2.symm)
def Ha{xs:List Nat}(h:∀(i j x:Nat),xs[i]? =some x->xs[j]? =some x->i=j):xs.Nodup:=by
 unfold List.Nodup
 rw[List.pairwise_iff_getElem]
 intro i j hi hj hij e
 have:=h i j xs[i] (qA_ hi) (by rw[qA_ hj,e])
 omega
def bw.EW{i a:Nat}{k:Kr}(H:bw G A st)(hi:A.ka[i]? =some a)(c:Chg [a] G G')(hk:gD G' a k):bw G' A {st with ks:=st.ks.set i k}:=by
 obtain⟨_,q,nk,nkh,_⟩:=oH H.nd
 have ha:=qD_ hi
 obtain⟨e1,e2,e3,e4⟩:=q a (qF_ _ ha)
 have ns:∀n,n≠a->n∉ [a]:=fun n h z=>h (by simpa using z)
 refine⟨c.get H.o (ns _ (Ne.symm e1)),c.get H.k (ns _ (Ne.symm e2)),c.get H.h (ns _ (Ne.symm e3)),c.get H.r (ns _ (Ne.symm e4)),by simp [H.kl],H.hl,H.dl,fun j b k' h1 h2=>?_,fun j b d h h1 h2 h3=>?_,H.nd⟩
 · by_cases z:j=i
   · subst z
     rw[hi]at h1
     cases h1
     have:j < st.ks.length:=by rw[<-H.kl];exact(qB_.mp hi).1
     rw[qU_ this]at h2
     cases h2
     exact hk
   · have h2:st.ks[j]? =some k':=by
      have h2:(st.ks.set i k)[j]? =some k':=h2
      rw[qV_ (Ne.symm z)]at h2
      exact h2
     refine c.get (H.kr j b k' h1 h2) (ns _ fun w=>z ?_)
     subst w
     exact get_inj nk h1 hi
 · refine(H.hd j b d h h1 h2 h3).chg c (ns _ fun w=>?_) (ns _ fun w=>?_)
   · subst w;exact(nkh _ ha).1 (qD_ h1)
   · subst w;exact(nkh _ ha).2 (qD_ h2)
def bw.DX{i a d d':Nat}{h:Hd}(H:bw G A st)(hi:A.ha[i]? =some a)(hj:A.da[i]? =some d)(c:Chg [a,d] G G')(hd':d'=d\/G.length<=d')(hk:fi G' a d' h):bw G' {A with da:=A.da.set i d'} {st with hs:=st.hs.set i h}:=by
 obtain⟨p0,q,nk,nkh,nh,nD,nhd⟩:=oH H.nd
 have ha:=qD_ hi
 have hda:=qD_ hj
 obtain⟨e1,e2,e3,e4⟩:=q a (qE_ _ (qF_ _ ha))
 obtain⟨g1,g2,g3,g4⟩:=q d (qE_ _ (qE_ _ hda))
 have ns:∀n,n≠a->n≠d->n∉ [a,d]:=fun n h1 h2 z=>by
  simp only[qS_,List.not_mem_nil,or_false]at z
  exact z.elim h1 h2
 have fresh:∀n∈A.foot,n=d'->d'=d:=fun n hn z=>by
  rcases hd' with w |w
  · exact w
  · have:=H.lt n hn;omega
 have mem_set:∀x,x∈A.da.set i d'->x=d'\/x∈A.da/\x≠d:=fun x hx=>by
  obtain⟨j,hjl,e⟩:=List.getElem_of_mem hx
  have e':(A.da.set i d')[j]? =some x:=by rw[qA_ hjl,e]
  by_cases z:j=i
  · subst z
    rw[qU_ (qB_.mp hj).1]at e'
    cases e'
    exact .inl rfl
  · rw[qV_ (Ne.symm z)]at e'
    exact .inr ⟨qD_ e',fun w=>z (by subst w;exact get_inj nD e' hj)⟩
 refine⟨c.get H.o (ns _ (Ne.symm e1) (Ne.symm g1)),c.get H.k (ns _ (Ne.symm e2) (Ne.symm g2)),c.get H.h (ns _ (Ne.symm e3) (Ne.symm g3)),c.get H.r (ns _ (Ne.symm e4) (Ne.symm g4)),H.kl,by simp [H.hl],by simp [H.dl],fun j b k' h1 h2=>?_,fun j b dd hh h1 h2 h3=>?_,?_⟩
 · refine c.get (H.kr j b k' h1 h2) (ns _ (fun w=>?_) fun w=>?_)
   · subst w;exact(nkh _ (qD_ h1)).1 ha
   · subst w;exact(nkh _ (qD_ h1)).2 hda
 · have h2:(A.da.set i d')[j]? =some dd:=h2
   have h3:(st.hs.set i h)[j]? =some hh:=h3
   by_cases z:j=i
   · subst z
     rw[hi]at h1
     cases h1
     rw[qU_ (qB_.mp hj).1]at h2
     rw[qU_ (by rw[<-H.hl];exact(qB_.mp hi).1)]at h3
     cases h2
     cases h3
     exact hk
   · rw[qV_ (Ne.symm z)]at h2 h3
     refine(H.hd j b dd hh h1 h2 h3).chg c (ns _ (fun w=>z ?_) fun w=>?_) (ns _ (fun w=>?_) fun w=>z ?_)
     · subst w;exact get_inj nh h1 hi
     · subst w;exact nhd _ (qD_ h1) hda
     · subst w;exact nhd _ ha (qD_ h2)
     · subst w;exact get_inj nD h2 hj
 · by_cases hz:d'=d
   · subst hz
     have:A.da.set i d'=A.da:=by
      obtain⟨l,e⟩:=qB_.mp hj
      rw[<-e];exact List.set_getElem_self l
     unfold Ad.foot
     dsimp only
     rw[this]
     exact H.nd
   · have big:G.length<=d':=hd'.resolve_left hz
     have nd:=H.nd
     unfold Ad.foot at nd ⊢
     dsimp only
     rw[List.nodup_append]at nd ⊢
     obtain⟨n1,n2,n3⟩:=nd
     rw[List.nodup_append]at n2 ⊢
     obtain⟨n4,n5,n6⟩:=n2
     rw[List.nodup_append]at n5 ⊢
     obtain⟨n7,n8,n9⟩:=n5
     have old:∀x∈A.foot,x≠d':=fun x hx w=>by have:=H.lt x hx;omega
     have nset:(A.da.set i d').Nodup:=by
      refine Ha fun u v x e1 e2=>?_
      by_cases zu:u=i
      · by_cases zv:v=i
        · rw[zu,zv]
        · rw[zu,qU_ (qB_.mp hj).1]at e1
          cases e1
          rw[qV_ (Ne.symm zv)]at e2
          exact absurd rfl (old d' (xf e2))
      · rw[qV_ (Ne.symm zu)]at e1
        by_cases zv:v=i
        · rw[zv,qU_ (qB_.mp hj).1]at e2
          cases e2
          exact absurd rfl (old d' (xf e1))
        · rw[qV_ (Ne.symm zv)]at e2
          exact get_inj n8 e1 e2
     refine⟨n1,⟨n4,⟨n7,nset,fun x hx y hy=>?_⟩,fun x hx y hy=>?_⟩,fun x hx y hy=>?_⟩
     · rcases mem_set y hy with w |w
       · rw[w];exact old x (by unfold Ad.foot;simp [hx])
       · exact n9 x hx y w.1
     · rcases qG_.mp hy with w |w
       · exact n6 x hx y (qF_ _ w)
       · rcases mem_set y w with w |w
         · rw[w];exact old x (by unfold Ad.foot;simp [hx])
         · exact n6 x hx y (qE_ _ w.1)
     · rcases qG_.mp hy with w |w
       · exact n3 x hx y (qF_ _ w)
       · rcases qG_.mp w with w |w
         · exact n3 x hx y (qE_ _ (qF_ _ w))
         · rcases mem_set y w with w |w
           · rw[w];exact old x (by unfold Ad.foot;exact qF_ _ hx)
           · exact n3 x hx y (qE_ _ (qE_ _ w.1))
def bw.Fc{row:List (Bool×Lt)}(H:bw G A st)(c:Chg [A.lr] G G')(hr:G'[A.lr]? =some (.lst (row.map enD))):bw G' A {st with row:=row}:=by
 obtain⟨⟨_,_,p3,_,p5,p6⟩,q,_⟩:=oH H.nd
 have ns:∀n,n≠A.lr->n∉ [A.lr]:=fun n h z=>h (by simpa using z)
 have nq:∀x∈A.ka++(A.ha++A.da),x≠A.lr:=fun x hx=>(q x hx).2.2.2
 exact⟨c.get H.o (ns _ p3),c.get H.k (ns _ p5),c.get H.h (ns _ p6),hr,H.kl,H.hl,H.dl,
  fun i a k h1 h2=>c.get (H.kr i a k h1 h2) (ns _ (nq _ (qF_ _ (qD_ h1)))),
  fun i a d h h1 h2 h3=>(H.hd i a d h h1 h2 h3).chg c (ns _ (nq _ (qE_ _ (qF_ _ (qD_ h1))))) (ns _ (nq _ (qE_ _ (qE_ _ (qD_ h2))))),H.nd⟩
end
structure WF (st:Hl):Prop where
 hk:∀(i:Nat) h,st.hs[i]? =some h->h.num=i/\h.cnt=st.ks.length/\(∀e∈h.ak,e.1 < st.ks.length)/\(h.ak.map (·.1)).Nodup/\(h.pair=none->∀e∈h.ak,e.2.isSome=true)
 rw:∀e∈st.row,∃h,st.hs[e.2.hand]? =some h/\e.2.kpr < st.ks.length/\e.2.num<=h.rnd/\(e.2.num=h.rnd->(e.1=false->e.2.pair=h.pair)/\(e.1=true->e.2.pair.isSome=h.pair.isNone))
 ksz:st.ks.length<=9
 hsz:st.hs.length<=9
def pQ(e:Nat×Pr):D:= .tup [.int (e.1:Int),pD e.2]
def cI(st:Hl)(place:Nat)(stays:Bool):List (Bool×Lt):=if stays then st.row else st.row.eraseIdx place
def aJ(st:Hl)(place:Nat)(stays:Bool):Hl×List (Nat×Pr):=
 match st.row[place]? with
 |none=>(st,[])
 |some (true,l)=>(match st.hs[l.hand]? with
  |none=>(st,[])
  |some h=>({st with hs:=st.hs.set l.hand (aL h l).1,row:=cI st place stays++(aL h l).2.1.map fun x=>(false,x)},match (aL h l).2.2 with
   |none=>[]
   |some p=>[(l.hand,p)]))
 |some (false,l)=>(match st.ks[l.kpr]? with
  |none=>(st,[])
  |some k=>({st with ks:=st.ks.set l.kpr (aQ k l).1,row:=cI st place stays++(match (aQ k l).2 with
   |none=>[]
   |some x=>[(true,x)])},[]))
structure Ad.To (A A':Ad) (n:Nat):Prop where
 a:A'.a=A.a
 lk:A'.lk=A.lk
 lh:A'.lh=A.lh
 lr:A'.lr=A.lr
 ka:A'.ka=A.ka
 ha:A'.ha=A.ha
 da:∀x∈A'.da,x∈A.da\/n<=x
def Ad.To.refl(A:Ad)(n:Nat):A.To A n:=⟨rfl,rfl,rfl,rfl,rfl,rfl,fun _ h=>.inl h⟩
theorem Ad.To.trans{A B C:Ad}{n m:Nat}(x:A.To B n)(y:B.To C m)(h:n<=m):A.To C n:=
 ⟨y.a.trans x.a,y.lk.trans x.lk,y.lh.trans x.lh,y.lr.trans x.lr,y.ka.trans x.ka,y.ha.trans x.ha,fun z hz=>(y.da z hz).elim (x.da z) fun w=>.inr (Nat.le_trans h w)⟩
theorem Ad.To.foot{A B:Ad}{n:Nat}(x:A.To B n):∀z∈B.foot,z∈A.foot\/n<=z:=by
 intro z hz
 unfold Ad.foot at*
 rw[x.a,x.lk,x.lh,x.lr,x.ka,x.ha]at hz
 rcases qG_.mp hz with w |w
 · exact .inl (qF_ _ w)
 · rcases qG_.mp w with w |w
   · exact .inl (qE_ _ (qF_ _ w))
   · rcases qG_.mp w with w |w
     · exact .inl (qE_ _ (qE_ _ (qF_ _ w)))
     · exact(x.da z w).elim (fun w=>.inl (qE_ _ (qE_ _ (qE_ _ w)))) .inr
section
variable{G:Hh}{Q:D->Hh->Prop}{E:Nat->Hh->Prop}{A:Ad}{st:Hl}
def iZ{xs:List Nat}{i a:Nat}(h:xs[i]? =some a):atI (refs xs) (i:Int)=some (.ref a):=iH h
def bw.hand(H:bw G A st){i:Nat}{h:Hd}(e:st.hs[i]? =some h):∃a d,A.ha[i]? =some a/\A.da[i]? =some d/\fi G a d h:=by
 have hl:=(qB_.mp e).1
 have h1:i < A.ha.length:=by rw[H.hl];exact hl
 have h2:i < A.da.length:=by rw[H.dl];exact hl
 exact⟨_,_,qA_ h1,qA_ h2,H.hd i _ _ _ (qA_ h1) (qA_ h2) e⟩
def bw.Fn(H:bw G A st){i:Nat}{k:Kr}(e:st.ks[i]? =some k):∃a,A.ka[i]? =some a/\gD G a k:=by
 have hl:=(qB_.mp e).1
 have h1:i < A.ka.length:=by rw[H.kl];exact hl
 exact⟨_,qA_ h1,H.kr i _ _ (qA_ h1) e⟩
def yw{n k:Nat}{xs:List D}{y:D}(hn:G[n]? =some (.lst xs))(hy:xs[k]? =some y)(hz:xs.length<=1000000)(h:∀G',Chg [n] G G'->G'.length=G.length->G'[n]? =some (.lst (xs.eraseIdx k))->Q y G'):run (lc (.ref n) (.int (k:Int))) G Q E:=by
 have hk:=(qB_.mp hy).1
 refine yJ hn (k:=k) ?_ hy (by omega) (h _ (Chg.set _ _ qI_) (by simp) (gC hn))
 unfold M3.ixN
 rw[if_pos (by omega),if_pos (by omega)]
 simp
def sU{ll:Nat}{ls:List Lt}(H:bw G A st)(hl:G[ll]? =some (.lst (ls.map ltD)))(hz:st.row.length+ls.length<=1000000)(hq:∀G',Chg [A.lr] G G'->bw G' A {st with row:=st.row++ls.map fun x=>(false,x)}->Q .non G'):run (bQ [.ref A.a,.ref ll]) G Q E:=by
 have ho:=H.o
 walk_at "f"
 unfold jQ
 lia
 refine mG H.r ?_
 lia
 refine eS hl ?_
 refine kh (p:=fun _:Lt=>true) (g:=fun x=>enD (false,x)) (qZ_ hl) (by omega) (fun x _=>fL ⟨rfl,rfl⟩) (fun x _ _=>?_) ?_
 · lia
   exact⟨rfl,rfl⟩
 rw[List.filter_eq_self.mpr (fun _ _=>rfl)]
 have c1:Chg [] G (G++[O.lst (ls.map fun x=>enD (false,x))]):=Chg.add _ _
 have H1:bw (G++[O.lst (ls.map fun x=>enD (false,x))]) A st:=H.frame c1 (by simp)
 refine gG H1.r (bc _ _) (by simp [aC];omega) fun G2 c2 l2 h2=>?_
 lia
 refine hq G2 ((c1.mono (by simp)).trans c2) (H1.Fc c2 ?_)
 rw[h2,qT_,qb_]
 rfl
def mZ{l:Lt}{k:Kr}(H:bw G A st)(hk:st.ks[l.kpr]? =some k)(hz:st.row.length < 1000000)
 (hq:∀G',Chg A.foot G G'->bw G' A {st with ks:=st.ks.set l.kpr (aQ k l).1,row:=st.row++(match (aQ k l).2 with |none=>[] |some x=>[(true,x)])}->Q .non G'):run (bY [.ref A.a,ltD l]) G Q E:=by
 obtain⟨a,ha,hka⟩:=H.Fn hk
 have ho:=H.o
 have hka0:=hka
 unfold gD krF at hka0
 walk_at "f"
 unfold cN
 refine aA (bB (bu (aD (w_fld (w_var rfl (bh ho (by decide) rfl (aD (w_var rfl (w_c ?_)))))))))
 unfold ltD
 refine bi rfl ?_
 refine eE H.k (iZ ha) (bU hka0 (aj (w_var rfl (aB ?_))))
 refine uB hka fun G1 c1 h1=>?_
 have H1:=H.EW ha c1 h1
 have ho1:=H1.o
 have cf:Chg A.foot G G1:=c1.mono (by intro n hn;simp at hn;subst hn;exact wB ha)
 refine w_next ?_
 refine b8 (dI (lL (w_var rfl ?_)))
 lia
 cases q:(aQ k l).2 with
 |none=>
  rw[q]at hq
  refine ol ?_
  lia
  rw[qY_]at hq
  exact hq G1 cf H1
 |some x=>
  rw[q]at hq
  refine ox ?_
  lia
  refine mG H1.r ?_
  lia
  refine m8 H1.r (by rw[qM_];unfold aC;exact qd_ hz (by decide)) fun G2 c2 l2 h2=>?_
  lia
  refine hq G2 (cf.trans (c2.mono (by intro n hn;simp at hn;subst hn;simp [Ad.foot]))) (H1.Fc c2 ?_)
  rw[h2,qT_]
  rfl
theorem oU:∀(n:Nat) (m:List Nat),m.Nodup->(∀x∈m,x < n)->m.length<=n
 |0,m,_,h=>by
  cases m with
  |nil=>simp
  |cons a r=>exact absurd (h a qI_) (Nat.not_lt_zero _)
 |n+1,m,nd,h=>by
  by_cases hn:n∈m
  · have:=oU n (m.erase n) (nd.erase n) fun x hx=>by
     have h1:=nd.mem_erase_iff.mp hx
     have h2:=h x h1.2
     have h3:=h1.1
     omega
    rw[List.length_erase_of_mem hn]at this
    omega
  · have:=oU n m nd fun x hx=>by
     have h1:=h x hx
     have h2:x≠n:=fun z=>hn (z ▸ hx)
     omega
    omega
def AD{l:List (Nat×Option Pr)}{k:Nat}{p:Option Pr}{n:Nat}(hn:(l.map (·.1)).Nodup)(hl:∀e∈l,e.1 < n)(hk:k < n):(aS l k p).length<=n:=by
 have key:∀m:List Nat,m.Nodup->(∀x∈m,x < n)->m.length<=n:=fun m h1 h2=>oU n m h1 h2
 unfold aS
 split
 · rw[qM_,<-qM_ (f:=(·.1))]
   exact key _ hn fun x hx=>by obtain⟨e,he,rfl⟩:=qH_.mp hx;exact hl e he
 · rename_i hc
   have:((l++[(k,p)]).map (·.1)).length<=n:=by
    refine key _ ?_ fun x hx=>?_
    · rw[qT_,List.nodup_append]
      refine⟨hn,by simp,fun x hx y hy=>?_⟩
      simp at hy
      subst hy
      rintro rfl
      obtain⟨e,he,ee⟩:=qH_.mp hx
      exact hc (List.any_eq_true.mpr ⟨e,he,qZ_ ee⟩)
    · obtain⟨e,he,rfl⟩:=qH_.mp hx
      rcases qG_.mp he with z |z
      · exact hl e z
      · simp at z;rw[z];exact hk
   rw[qM_]at this
   exact this
def eW{l:List (Nat×Option Pr)}{k:Nat}{p:Option Pr}{e:Nat×Option Pr}(h:e∈aS l k p):(e.1=k/\e.2=p)\/e∈l:=by
 unfold aS at h
 split at h
 · obtain⟨x,hx,ex⟩:=qH_.mp h
   split at ex
   · rename_i z;subst ex;exact .inl ⟨z,rfl⟩
   · subst ex;exact .inr hx
 · rcases qG_.mp h with z |z
   · exact .inr z
   · simp at z;rw[z];exact .inl ⟨rfl,rfl⟩
def sC(h:Hd)(l:Lt):(aL h l).2.1.length<=h.cnt:=by
 unfold aL
 split
 · simp
 · dsimp only
   split
   · simp
   · split
     · dsimp only
       unfold bp
       rw[qM_]
       have:=kD (roundF (aV {h with ak:=aS h.ak l.kpr l.pair} (vals (aS h.ak l.kpr l.pair))).1 (some (aV {h with ak:=aS h.ak l.kpr l.pair} (vals (aS h.ak l.kpr l.pair))).2))
       rw[show (roundF (aV {h with ak:=aS h.ak l.kpr l.pair} (vals (aS h.ak l.kpr l.pair))).1 (some (aV {h with ak:=aS h.ak l.kpr l.pair} (vals (aS h.ak l.kpr l.pair))).2)).cnt=h.cnt from iW _ _]at this
       exact this
     · simp
def pH{l:Lt}{h:Hd}(H:bw G A st)(hh:st.hs[l.hand]? =some h)(hc:h.cnt<=9)(hz2:(aS h.ak l.kpr l.pair).length<=1000)(hok:h.atw=true->l.num=h.rnd->h.pair=none->∀e∈aS h.ak l.kpr l.pair,e.2.isSome=true)(hz:st.row.length < 900000)
 (hq:∀le A' G',Chg A.foot G G'->A.To A' G.length->G.length<=le->bw G' A' {st with hs:=st.hs.set l.hand (aL h l).1,row:=st.row++(aL h l).2.1.map fun x=>(false,x)}->G'[le]? =some (.lst ((match (aL h l).2.2 with |none=>[] |some p=>[(l.hand,p)]).map pQ))->Q (.ref le) G'):run (cx [.ref A.a,ltD l]) G Q E:=by
 obtain⟨a,d,ha,hda,hat⟩:=H.hand hh
 have ho:=H.o
 have hat0:=hat.1
 unfold hdF at hat0
 walk_at "f"
 unfold dH
 refine aA (bB (bu (aD (w_fld (w_var rfl (bh ho (by decide) rfl (aD (w_var rfl (w_c ?_)))))))))
 unfold ltD
 refine bi rfl ?_
 refine eE H.h (iZ ha) (bU hat0 (aj (w_var rfl (aB ?_))))
 refine Fq hat (by omega) hz2 hok fun ll d' G1 c1 l1 l2 h1 h2=>?_
 have H1:=H.DX ha hda c1 l1 h1
 have ho1:G1[A.a]? =_:=H1.o
 have cf:Chg A.foot G G1:=c1.mono (by
  intro n hn
  simp only[qS_,List.not_mem_nil,or_false]at hn
  rcases hn with rfl |rfl
  · exact tu ha
  · exact xf hda)
 have to:A.To {A with da:=A.da.set l.hand d'} G.length:=⟨rfl,rfl,rfl,rfl,rfl,rfl,fun x hx=>by
  rcases List.mem_or_eq_of_mem_set hx with z |z
  · exact .inl z
  · rw[z]
    exact l1.elim (fun w=>.inl (by rw[w];exact qD_ hda)) .inr⟩
 have hl3:=sC h l
 generalize aL h l=r at*
 lia
 refine sU (A:={A with da:=A.da.set l.hand d'}) H1 h2 (by show st.row.length+_<=_;omega) fun G2 c2 H2=>?_
 have c2f:Chg A.foot G1 G2:=c2.mono (by intro n hn;simp at hn;subst hn;simp [Ad.foot])
 have g1:=c1.1
 have g2:=c2.1
 lia
 rw[oj]
 cases q:r.2.2 with
 |none=>
  rw[q]at hq
  refine lM ?_
  refine bI (fE fun G3 c3 l3 h3=>?_)
  lia
  exact hq G2.length _ G3 ((cf.trans c2f).trans (c3.mono (by simp))) to (by omega) (H2.frame c3 (by simp)) h3
 |some p=>
  rw[q]at hq
  refine mT ?_
  lia
  have c3:Chg [] G2 (G2++[O.lst [D.tup [D.int (l.hand:Int),opD (some p)]]]):=Chg.add _ _
  exact hq G2.length _ _ ((cf.trans c2f).trans (c3.mono (by simp))) to (by omega) (H2.frame c3 (by simp)) (bc _ _)
end
def HOK(n i:Nat)(h:Hd):Prop:=h.num=i/\h.cnt=n/\(∀e∈h.ak,e.1 < n)/\(h.ak.map (·.1)).Nodup/\(h.pair=none->∀e∈h.ak,e.2.isSome=true)
def EOK(n:Nat)(hs:List Hd)(e:Bool×Lt):Prop:=∃h,hs[e.2.hand]? =some h/\e.2.kpr < n/\e.2.num<=h.rnd/\(e.2.num=h.rnd->(e.1=false->e.2.pair=h.pair)/\(e.1=true->e.2.pair.isSome=h.pair.isNone))
def oO{l:List (Nat×Option Pr)}{k:Nat}{p:Option Pr}(hn:(l.map (·.1)).Nodup):((aS l k p).map (·.1)).Nodup:=by
 unfold aS
 split
 · rw[qb_]
   have:((fun x:Nat×Option Pr=>x.1) ∘ fun e:Nat×Option Pr=>if e.1=k then (e.1,p)else e)=fun e=>e.1:=by
    funext e
    show (if e.1=k then (e.1,p)else e).1=e.1
    split <;> rfl
   rw[this]
   exact hn
 · rename_i hc
   rw[qT_,List.nodup_append]
   refine⟨hn,by simp,fun x hx y hy=>?_⟩
   simp at hy
   subst hy
   rintro rfl
   obtain⟨e,he,ee⟩:=qH_.mp hx
   exact hc (List.any_eq_true.mpr ⟨e,he,qZ_ ee⟩)
def uo{n i:Nat}{h:Hd}(hc:h.cnt=n)(hi:h.num=i)(p:Option Pr):HOK n i (roundF h p):=⟨hi,hc,by simp [roundF],by simp [roundF],by simp [roundF]⟩
def pU(h:Hd)(ps:List Pr):(aV h ps).1.num=h.num/\(aV h ps).1.rnd=h.rnd/\(aV h ps).1.atw=h.atw:=by unfold aV;cases h.val <;> exact⟨rfl,rfl,rfl⟩
def oQ{n i:Nat}{h:Hd}(H:HOK n i h){x:Lt}(hx:x∈bp h):x.hand=i/\x.kpr < n/\x.num=h.rnd/\x.pair=h.pair:=by
 unfold bp at hx
 obtain⟨k,hk,rfl⟩:=qH_.mp hx
 unfold q8 at hk
 have:=List.mem_range.mp (List.mem_filter.mp hk).1
 exact⟨H.1,by rw[<-H.2.1];exact this,rfl,rfl⟩
def Ej{n i:Nat}{h:Hd}(H:HOK n i h){l:Lt}(hk:l.kpr < n)(hp:h.pair=none->l.pair.isSome=true):HOK n i {h with ak:=aS h.ak l.kpr l.pair}:=by
 refine⟨H.1,H.2.1,fun e he=>?_,oO H.2.2.2.1,fun z e he=>?_⟩
 · rcases eW he with w |w
   · rw[w.1];exact hk
   · exact H.2.2.1 e w
 · rcases eW he with w |w
   · rw[w.2];exact hp z
   · exact H.2.2.2.2 z e w
def CG{n i:Nat}{h:Hd}(H:HOK n i h){l:Lt}(hk:l.kpr < n)(hp:l.num=h.rnd->l.pair.isSome=h.pair.isNone):
 HOK n i (aL h l).1/\((aL h l).1.rnd=h.rnd/\(aL h l).1.pair=h.pair\/(aL h l).1.rnd=h.rnd+1)/\∀x∈(aL h l).2.1,x.hand=i/\x.kpr < n/\x.num=(aL h l).1.rnd/\x.pair=(aL h l).1.pair:=by
 unfold aL
 split
 · exact⟨H,.inl ⟨rfl,rfl⟩,by simp⟩
 · rename_i hc
   have hnum:l.num=h.rnd:=by
    simp only[Bool.or_eq_true,Bool.not_eq_true',decide_eq_false_iff_not,not_or,Bool.not_eq_false,Decidable.not_not]at hc
    exact hc.2
   have P:=Ej H hk (l:=l) fun z=>by rw[hp hnum,z];rfl
   dsimp only
   split
   · exact⟨P,.inl ⟨rfl,rfl⟩,by simp⟩
   · split
     · rename_i qp
       dsimp only
       have c1:=iW {h with ak:=aS h.ak l.kpr l.pair} (vals (aS h.ak l.kpr l.pair))
       have c2:=pU {h with ak:=aS h.ak l.kpr l.pair} (vals (aS h.ak l.kpr l.pair))
       generalize aV {h with ak:=aS h.ak l.kpr l.pair} (vals (aS h.ak l.kpr l.pair))=c at*
       have R:=uo (n:=n) (i:=i) (h:=c.1) (c1.trans H.2.1) (c2.1.trans H.1) (some c.2)
       refine⟨R,.inr ?_,fun x hx=>oQ R hx⟩
       show c.1.rnd+1=h.rnd+1
       rw[c2.2.1]
     · exact⟨⟨P.1,P.2.1,P.2.2.1,P.2.2.2.1,P.2.2.2.2⟩,.inl ⟨rfl,rfl⟩,by simp⟩
def WF.hok{st:Hl}(W:WF st){i:Nat}{h:Hd}(e:st.hs[i]? =some h):HOK st.ks.length i h:=W.hk i h e
def WF.eok{st:Hl}(W:WF st){e:Bool×Lt}(h:e∈st.row):EOK st.ks.length st.hs e:=W.rw e h
def kI{st:Hl}{p:Nat}{s:Bool}{e:Bool×Lt}(h:e∈cI st p s):e∈st.row:=by
 unfold cI at h
 cases s with
 |true=>exact h
 |false=>exact List.mem_of_mem_eraseIdx h
def gP{st:Hl}(W:WF st)(p:Nat)(s:Bool):WF (aJ st p s).1:=by
 unfold aJ
 split
 · exact W
 · rename_i l hr
   obtain⟨h,hh,hk,hn,hp⟩:=W.eok (qD_ hr)
   have hh:st.hs[l.hand]? =some h:=hh
   rw[hh]
   dsimp only
   obtain⟨o1,o2,o3⟩:=CG (W.hok hh) hk fun z=>(hp z).2 rfl
   have hlt:=(qB_.mp hh).1
   generalize aL h l=r at*
   refine⟨fun i g e=>?_,fun e he=>?_,W.ksz,by simpa using W.hsz⟩
   · have e:(st.hs.set l.hand r.1)[i]? =some g:=e
     by_cases z:i=l.hand
     · subst z
       rw[qU_ hlt]at e
       cases e
       exact o1
     · rw[qV_ (Ne.symm z)]at e
       exact W.hk i g e
   · show EOK st.ks.length (st.hs.set l.hand r.1) e
     have he:e∈cI st p s++r.2.1.map fun x=>(false,x):=he
     rcases qG_.mp he with z |z
     · obtain⟨g,hg,q1,q2,q3⟩:=W.eok (kI z)
       by_cases w:e.2.hand=l.hand
       · rw[w]at hg
         rw[hh]at hg
         cases hg
         refine⟨r.1,by rw[w];exact qU_ hlt,q1,?_,fun c=>?_⟩
         · rcases o2 with ⟨o2,_⟩ |o2 <;> omega
         · rcases o2 with ⟨o2,o4⟩ |o2
           · rw[o4];exact q3 (by omega)
           · omega
       · exact⟨g,by rw[qV_ (Ne.symm w)];exact hg,q1,q2,q3⟩
     · obtain⟨x,hx,rfl⟩:=qH_.mp z
       obtain⟨y1,y2,y3,y4⟩:=o3 x hx
       exact⟨r.1,by rw[y1];exact qU_ hlt,y2,Int.le_of_eq y3,fun _=>⟨fun _=>y4,fun z=>by cases z⟩⟩
 · rename_i l hr
   obtain⟨h,hh,hk,hn,hp⟩:=W.eok (qD_ hr)
   have hk':st.ks[l.kpr]? =some st.ks[l.kpr]:=qA_ hk
   rw[hk']
   dsimp only
   generalize st.ks[l.kpr]=k
   have hp0:l.num=h.rnd->l.pair=h.pair:=fun z=>(hp z).1 rfl
   refine⟨fun i g e=>by
    show HOK (st.ks.set l.kpr (aQ k l).1).length i g
    rw[qX_]
    exact W.hk i g e,fun e he=>?_,by simpa using W.ksz,W.hsz⟩
   show EOK (st.ks.set l.kpr (aQ k l).1).length st.hs e
   rw[qX_]
   have he:e∈cI st p s++(match (aQ k l).2 with |none=>[] |some x=>[(true,x)]):=he
   rcases qG_.mp he with z |z
   · exact W.eok (kI z)
   · unfold aQ at z
     split at z
     · rename_i e1
       cases up:k.up with
       |false=>simp at z
       |true=>simp at z
     · rename_i x e1
       have z:e=(true,x):=by simpa using z
       subst z
       cases up:k.up with
       |false=>
        rw[up]at e1
        cases e1
       |true=>
        rw[up]at e1
        cases lp:l.pair with
        |none=>
         rw[lp]at e1
         cases e1
         exact⟨h,hh,hk,hn,fun c=>⟨fun z=>(by cases z),fun _=>by rw[<-hp0 c,lp];rfl⟩⟩
        |some q=>
         rw[lp]at e1
         cases e1
         exact⟨h,hh,hk,hn,fun c=>⟨fun z=>(by cases z),fun _=>by rw[<-hp0 c,lp];rfl⟩⟩
def wt(e:Bool×Lt):Nat:=if e.1 then 1 else 2
def pot(h:Hd):Nat:=if h.atw&&h.pair.isNone then 2*h.cnt else 0
def mea(st:Hl):Nat:=(st.row.map wt).sum+(st.hs.map pot).sum
def x9{xs:List (Bool×Lt)}:∀{i:Nat} {e:Bool×Lt},xs[i]? =some e->(xs.map wt).sum=wt e+((xs.eraseIdx i).map wt).sum:=by
 induction xs with
 |nil=>intro i e h;simp at h
 |cons x r ih=>
  intro i e h
  cases i with
  |zero=>simp at h;subst h;simp
  |succ i=>
   have:=ih (i:=i) (e:=e) (by simpa using h)
   simp only[List.eraseIdx_cons_succ,List.map_cons,List.sum_cons]
   omega
def sum_set{hs:List Hd}:∀{i:Nat} {h g:Hd},hs[i]? =some h->((hs.set i g).map pot).sum+pot h=(hs.map pot).sum+pot g:=by
 induction hs with
 |nil=>intro i h g e;simp at e
 |cons x r ih=>
  intro i h g e
  cases i with
  |zero=>simp at e;subst e;simp;omega
  |succ i=>
   have:=ih (i:=i) (h:=h) (g:=g) (by simpa using e)
   simp only[List.set_cons_succ,List.map_cons,List.sum_cons]
   omega
def nN(ls:List Lt):((ls.map fun x=>(false,x)).map wt).sum=2*ls.length:=by
 induction ls with
 |nil=>rfl
 |cons x r ih=>
  simp only[List.map_cons,List.sum_cons,List.length_cons]
  rw[ih]
  show 2+2*r.length=2*(r.length+1)
  omega
def AJ{h:Hd}{l:Lt}:pot (aL h l).1+2*(aL h l).2.1.length<=pot h:=by
 unfold aL
 split
 · simp
 · rename_i hc
   have hat:h.atw=true:=by
    simp only[Bool.or_eq_true,Bool.not_eq_true',decide_eq_false_iff_not,not_or,Bool.not_eq_false,Decidable.not_not]at hc
    exact hc.1
   dsimp only
   split
   · simp [pot]
   · split
     · rename_i qp
       dsimp only
       have c1:=iW {h with ak:=aS h.ak l.kpr l.pair} (vals (aS h.ak l.kpr l.pair))
       generalize aV {h with ak:=aS h.ak l.kpr l.pair} (vals (aS h.ak l.kpr l.pair))=c at*
       have h1:pot (roundF c.1 (some c.2))=0:=by unfold pot roundF;simp
       have h2:pot h=2*h.cnt:=by unfold pot;rw[hat,qp];rfl
       have h3:(bp (roundF c.1 (some c.2))).length<=h.cnt:=by
        unfold bp
        rw[qM_]
        have:=kD (roundF c.1 (some c.2))
        rw[show (roundF c.1 (some c.2)).cnt=h.cnt from c1]at this
        exact this
       rw[h1,h2]
       omega
     · simp [pot]
def uK{st:Hl}(W:WF st){p:Nat}{s:Bool}{e:Bool×Lt}(hr:st.row[p]? =some e):mea (aJ st p s).1+(if s then 0 else 1)<=mea st+(if s then 1 else 0):=by
 have off:((cI st p s).map wt).sum+(if s then 0 else wt e)=(st.row.map wt).sum:=by
  unfold cI
  cases s with
  |true=>simp
  |false=>have:=x9 hr;simp;omega
 obtain⟨h,hh,hk,_⟩:=W.eok (qD_ hr)
 unfold aJ
 rw[hr]
 obtain⟨b,l⟩:=e
 cases b with
 |true=>
  have hh:st.hs[l.hand]? =some h:=hh
  dsimp only
  rw[hh]
  dsimp only
  have h1:=AJ (h:=h) (l:=l)
  have h2:=sum_set (g:=(aL h l).1) hh
  unfold mea
  dsimp only
  rw[qT_,List.sum_append,nN]
  have h3:wt (true,l)=1:=rfl
  cases s <;> simp only[reduceIte,Bool.false_eq_true]at off ⊢ <;> omega
 |false=>
  dsimp only
  have hk':st.ks[l.kpr]? =some st.ks[l.kpr]:=qA_ hk
  rw[hk']
  dsimp only
  unfold mea
  dsimp only
  rw[qT_,List.sum_append]
  have h3:wt (false,l)=2:=rfl
  generalize aQ st.ks[l.kpr] l=r
  obtain⟨r1,r2⟩:=r
  cases r2 with
  |none=>
   dsimp only
   rw[List.map_nil,List.sum_nil]
   cases s <;> simp only[reduceIte,Bool.false_eq_true]at off ⊢ <;> omega
  |some x=>
   dsimp only
   have h5:([(true,x)].map wt).sum=1:=rfl
   rw[h5]
   cases s <;> simp only[reduceIte,Bool.false_eq_true]at off ⊢ <;> omega
def td(st:Hl):st.row.length<=mea st:=by
 unfold mea
 have:∀xs:List (Bool×Lt),xs.length<=(xs.map wt).sum:=by
  intro xs
  induction xs with
  |nil=>simp
  |cons x r ih=>
   simp only[List.length_cons,List.map_cons,List.sum_cons]
   have:1<=wt x:=by unfold wt;split <;> omega
   omega
 have:=this st.row
 omega
section
variable{G:Hh}{Q:D->Hh->Prop}{E:Nat->Hh->Prop}{A:Ad}{st:Hl}
theorem rF{α β:Type}(f:α->β):∀(xs:List α) (i:Nat),(xs.map f).eraseIdx i=(xs.eraseIdx i).map f
 | [],_=>rfl
 |_ :: _,0=>rfl
 |x :: r,i+1=>by
  show f x :: (r.map f).eraseIdx i=f x :: (r.eraseIdx i).map f
  rw[rF f r i]
def uU{p:Nat}{s:Bool}{e:Bool×Lt}(H:bw G A st)(W:WF st)(hr:st.row[p]? =some e)(hz:mea st<=800000)
 (hq:∀le A' G',Chg A.foot G G'->A.To A' G.length->G.length<=le->bw G' A' (aJ st p s).1->G'[le]? =some (.lst ((aJ st p s).2.map pQ))->Q (.ref le) G'):run (cE [.ref A.a,.int (p:Int),.bl s]) G Q E:=by
 obtain⟨h,hh,hk,hn,hp⟩:=W.eok (qD_ hr)
 have hrl:=td st
 have ho:=H.o
 have hix:atI (st.row.map enD) (p:Int)=some (enD e):=iH hr
 have hre:(st.row.map enD)[p]? =some (enD e):=by rw[qQ_,hr];rfl
 walk_at "f"
 unfold jX
 refine aA (bB (aD (w_fld (w_var rfl (bh ho (by decide) rfl (w_var rfl (eE H.r hix ?_)))))))
 refine w_next ?_
 walk_at "s"
 have step:run (sIf (fO (tOf (aa 2))) (cj (sA (aW (aa 0) 11) (aa 1))) bf [some (.ref A.a),some (.int (p:Int)),some (.bl s),some (enD e)]) G (fun r G1=>r=(.next,[some (.ref A.a),some (.int (p:Int)),some (.bl s),some (enD e)])/\Chg [A.lr] G G1/\bw G1 A {st with row:=cI st p s}) E:=by
  refine b8 (lH (jM (w_var rfl (lA ?_))))
  cases s with
  |true=>
   refine ol (cZ ⟨rfl,Chg.refl _ _,H⟩)
  |false=>
   refine ox (dZ (wM (w_fld (w_var rfl (bh ho (by decide) rfl (mG H.r (w_var rfl ?_)))))))
   refine yw H.r hre (by rw[qM_];omega) fun G1 c1 l1 h1=>⟨rfl,c1,H.Fc c1 ?_⟩
   rw[h1]
   show some (O.lst ((st.row.map enD).eraseIdx p))=some (O.lst ((st.row.eraseIdx p).map enD))
   rw[rF]
 refine aA (aq step (fun r G1 ⟨er,c1,H1⟩=>?_) fun _ _ z=>z)
 subst er
 refine w_next ?_
 have c1f:Chg A.foot G G1:=c1.mono (by intro n hn;simp at hn;subst hn;simp [Ad.foot])
 have g1:=c1.1
 have ho1:=H1.o
 have lo:(cI st p s).length<=st.row.length:=by
  unfold cI
  cases s with
  |true=>exact qO_ _
  |false=>exact List.length_eraseIdx_le _ _
 obtain⟨b,l⟩:=e
 unfold aJ at hq
 rw[hr]at hq
 cases b with
 |true=>
  have hh:st.hs[l.hand]? =some h:=hh
  dsimp only at hq
  rw[hh]at hq
  dsimp only at hq
  obtain⟨k1,k2,k3,k4,k5⟩:=W.hk _ _ hh
  have hks:=W.ksz
  refine aA (b8 (jM (aD (w_var rfl (w_c (bi rfl (lA (lM ?_))))))))
  refine bI (bu (w_var rfl (bU ho1 (aj (aD (w_var rfl (w_c (bi rfl (aB ?_)))))))))
  refine pH (st:={st with row:=cI st p s}) H1 hh (by omega) (Nat.le_trans (AD k4 k3 hk) (by omega)) (fun q1 q2 q3 x hx=>?_) (by show (cI st p s).length < 900000;omega) fun le A' G2 c2 to l2 H2 h2=>?_
  · rcases eW hx with w |w
    · rw[w.2,(hp q2).2 rfl,q3];rfl
    · exact k5 q3 x w
  · lia
    exact hq le A' G2 (c1f.trans c2) ⟨to.a,to.lk,to.lh,to.lr,to.ka,to.ha,fun x hx=>(to.da x hx).imp id fun z=>by omega⟩ (by omega) H2 h2
 |false=>
  have hk':st.ks[l.kpr]? =some st.ks[l.kpr]:=qA_ hk
  dsimp only at hq
  rw[hk']at hq
  dsimp only at hq
  generalize st.ks[l.kpr]=k at hq hk'
  refine aA (b8 (jM (aD (w_var rfl (w_c (bi rfl (lA (mT ?_))))))))
  refine cZ (w_next ?_)
  refine aA (dZ (bu (w_var rfl (bU ho1 (aj (aD (w_var rfl (w_c (bi rfl (aB ?_))))))))))
  refine mZ (st:={st with row:=cI st p s}) H1 hk' (by show (cI st p s).length < 1000000;omega) fun G2 c2 H2=>?_
  refine w_next ?_
  refine bI (fE fun G3 c3 l3 h3=>?_)
  lia
  have g2:=c2.1
  exact hq G2.length A G3 ((c1f.trans c2).trans (c3.mono (by simp))) (Ad.To.refl _ _) (by omega) (H2.frame c3 (by simp)) h3
def iD{i:Int}(H:bw G A st)(hb:(i < 0\/(st.hs.length:Int)<=i)->E 1001 G)(hq:∀j a:Nat,i=(j:Int)->A.ha[j]? =some a->Q (.ref a) G):run (aX [.ref A.a,.int i]) G Q E:=by
 have ho:=H.o
 walk_at "f"
 unfold gF
 lia
 refine w_ite (fun c=>?_) fun c=>?_
 · lia
   exact hb (.inl (of_decide_eq_true c))
 · have c:=of_decide_eq_false c
   lia
   refine dD H.h ?_
   rw[show (refs A.ha).length=A.ha.length from qM_ _]
   lia
   refine w_ite (fun c2=>?_) fun c2=>?_
   · lia
     refine hb (.inr ?_)
     have:=of_decide_eq_true c2
     rw[<-H.hl];exact this
   · have c2:=of_decide_eq_false c2
     have hlt:i.toNat < A.ha.length:=by omega
     have e1:A.ha[i.toNat]? =some A.ha[i.toNat]:=qA_ hlt
     have e2:atI (refs A.ha) i=some (.ref A.ha[i.toNat]):=by
      have:=iZ e1
      rwa [Int.toNat_of_nonneg (by omega)]at this
     lia
     refine eE H.h e2 ?_
     lia
     exact hq i.toNat _ (by omega) e1
def jS{i:Int}(H:bw G A st)(hb:(i < 0\/(st.ks.length:Int)<=i)->E 1002 G)(hq:∀j a:Nat,i=(j:Int)->A.ka[j]? =some a->Q (.ref a) G):run (bx [.ref A.a,.int i]) G Q E:=by
 have ho:=H.o
 walk_at "f"
 unfold fm
 lia
 refine w_ite (fun c=>?_) fun c=>?_
 · lia
   exact hb (.inl (of_decide_eq_true c))
 · have c:=of_decide_eq_false c
   lia
   refine dD H.k ?_
   rw[show (refs A.ka).length=A.ka.length from qM_ _]
   lia
   refine w_ite (fun c2=>?_) fun c2=>?_
   · lia
     refine hb (.inr ?_)
     have:=of_decide_eq_true c2
     rw[<-H.kl];exact this
   · have c2:=of_decide_eq_false c2
     have hlt:i.toNat < A.ka.length:=by omega
     have e1:A.ka[i.toNat]? =some A.ka[i.toNat]:=qA_ hlt
     have e2:atI (refs A.ka) i=some (.ref A.ka[i.toNat]):=by
      have:=iZ e1
      rwa [Int.toNat_of_nonneg (by omega)]at this
     lia
     refine eE H.k e2 ?_
     lia
     exact hq i.toNat _ (by omega) e1
def newRow(st:Hl)(h:Hd):List (Bool×Lt):=st.row++(bp h).map fun x=>(false,x)
def gW(h:Hd):(bp h).length<=h.cnt:=by unfold bp;rw[qM_];exact kD h
def bj(st:Hl)(i:Nat)(h:Hd)(v:Option Int):Hl:={st with hs:=st.hs.set i (aZ h v),row:=newRow st (aZ h v)}
def ot(H:bw G A st){j a:Nat}(hj:A.ha[j]? =some a):∃h,st.hs[j]? =some h:=by
 have:j < st.hs.length:=by rw[<-H.hl];exact(qB_.mp hj).1
 exact⟨_,qA_ this⟩
def y6(H:bw G A st){j a:Nat}(hj:A.ka[j]? =some a):∃k,st.ks[j]? =some k:=by
 have:j < st.ks.length:=by rw[<-H.kl];exact(qB_.mp hj).1
 exact⟨_,qA_ this⟩
def begun{i a d d' ll:Nat}{h:Hd}{v:Option Int}{G1:Hh}(H:bw G A st)(ha:A.ha[i]? =some a)(hd:A.da[i]? =some d)(c1:Chg [a] G G1)(l1:G.length<=d')(h1:fi G1 a d' (aZ h v)):
 bw G1 {A with da:=A.da.set i d'} {st with hs:=st.hs.set i (aZ h v)}/\A.To {A with da:=A.da.set i d'} G.length/\Chg A.foot G G1:=by
 refine⟨H.DX ha hd (c1.mono (by simp)) (.inr l1) h1,⟨rfl,rfl,rfl,rfl,rfl,rfl,fun x hx=>?_⟩,c1.mono (by intro n hn;simp at hn;subst hn;exact tu ha)⟩
 rcases List.mem_or_eq_of_mem_set hx with z |z
 · exact .inl z
 · rw[z];exact .inr l1
def Cj{i v:Int}(H:bw G A st)(W:WF st)(hz:mea st<=800000)(hb:(i < 0\/(st.hs.length:Int)<=i)->E 1001 G)(hbusy:∀(j:Nat) h,i=(j:Int)->st.hs[j]? =some h->h.atw=true->E 1004 G)
 (hq:∀(j:Nat) h,i=(j:Int)->st.hs[j]? =some h->h.atw=false->∀A' G',Chg A.foot G G'->A.To A' G.length->bw G' A' (bj st j h (some v))->Q .non G'):run (gf [.ref A.a,.int i,.int v]) G Q E:=by
 have ho:=H.o
 have hrl:=td st
 walk_at "f"
 unfold iI
 lia
 refine iD H hb fun j a hi ha=>?_
 obtain⟨h,hh⟩:=ot H ha
 obtain⟨a',d,ha',hd,hat⟩:=H.hand hh
 rw[ha]at ha'
 cases ha'
 obtain⟨k1,k2,_⟩:=W.hk _ _ hh
 have hks:=W.ksz
 have hat0:=hat.1
 unfold hdF at hat0
 lia
 refine qD hat (by omega) (fun q=>hbusy j h hi hh q) fun q ll d' G1 c1 l1 l2 h1 h2=>?_
 obtain⟨H1,to,cf⟩:=begun (ll:=ll) H ha hd c1 l1 h1
 have hll:=gW (aZ h (some v))
 have hcn:(aZ h (some v)).cnt=h.cnt:=rfl
 lia
 refine sU (A:={A with da:=A.da.set j d'}) H1 h2 (by show st.row.length+_<=_;omega) fun G2 c2 H2=>?_
 lia
 exact hq j h hi hh q _ G2 (cf.trans (c2.mono (by intro n hn;simp at hn;subst hn;simp [Ad.foot]))) to H2
def Ek{i:Int}(H:bw G A st)(W:WF st)(hz:mea st<=800000)(hb:(i < 0\/(st.hs.length:Int)<=i)->E 1001 G)(hbusy:∀(j:Nat) h,i=(j:Int)->st.hs[j]? =some h->h.atw=true->E 1004 G)
 (hq:∀(j:Nat) h,i=(j:Int)->st.hs[j]? =some h->h.atw=false->∀A' G',Chg A.foot G G'->A.To A' G.length->bw G' A' (bj st j h none)->Q .non G'):run (gX [.ref A.a,.int i]) G Q E:=by
 have ho:=H.o
 have hrl:=td st
 walk_at "f"
 unfold jx
 lia
 refine iD H hb fun j a hi ha=>?_
 obtain⟨h,hh⟩:=ot H ha
 obtain⟨a',d,ha',hd,hat⟩:=H.hand hh
 rw[ha]at ha'
 cases ha'
 obtain⟨k1,k2,_⟩:=W.hk _ _ hh
 have hks:=W.ksz
 have hat0:=hat.1
 unfold hdF at hat0
 lia
 refine sh hat (by omega) (fun q=>hbusy j h hi hh q) fun q ll d' G1 c1 l1 l2 h1 h2=>?_
 obtain⟨H1,to,cf⟩:=begun (ll:=ll) H ha hd c1 l1 h1
 have hll:=gW (aZ h none)
 have hcn:(aZ h none).cnt=h.cnt:=rfl
 lia
 refine sU (A:={A with da:=A.da.set j d'}) H1 h2 (by show st.row.length+_<=_;omega) fun G2 c2 H2=>?_
 lia
 exact hq j h hi hh q _ G2 (cf.trans (c2.mono (by intro n hn;simp at hn;subst hn;simp [Ad.foot]))) to H2
def Bm{i:Int}(H:bw G A st)(W:WF st)(hz:mea st<=800000)(hb:(i < 0\/(st.hs.length:Int)<=i)->E 1001 G)(hidle:∀(j:Nat) h,i=(j:Int)->st.hs[j]? =some h->h.atw=false->∀G',Chg [] G G'->E 1005 G')
 (hq:∀(j:Nat) h,i=(j:Int)->st.hs[j]? =some h->h.atw=true->∀G',Chg A.foot G G'->bw G' A {st with row:=newRow st h}->Q (.int ((bp h).length:Int)) G'):run (gb [.ref A.a,.int i]) G Q E:=by
 have ho:=H.o
 have hrl:=td st
 walk_at "f"
 unfold iS
 lia
 refine iD H hb fun j a hi ha=>?_
 obtain⟨h,hh⟩:=ot H ha
 obtain⟨a',d,ha',hd,hat⟩:=H.hand hh
 rw[ha]at ha'
 cases ha'
 obtain⟨k1,k2,_⟩:=W.hk _ _ hh
 have hks:=W.ksz
 have hat0:=hat.1
 unfold hdF at hat0
 lia
 refine rQ hat (by omega) (fun q=>hidle j h hi hh q G (Chg.refl _ _)) fun q ll G1 x1 l1 h1=>?_
 have H1:=H.frame (S:=[]) x1.chg (by simp)
 have ho1:=H1.o
 have hll:=gW h
 lia
 refine sU H1 h1 (by omega) fun G2 c2 H2=>?_
 have hne:ll∉ [A.lr]:=fun z=>by
  have:=az H.r
  simp at z
  omega
 lia
 refine dD (c2.get h1 hne) ?_
 rw[qM_]
 lia
 exact hq j h hi hh q G2 (x1.chg.trans (c2.mono (by intro n hn;simp at hn;subst hn;simp [Ad.foot]))) H2
def Cn{i:Int}(H:bw G A st)(hb:(i < 0\/(st.hs.length:Int)<=i)->E 1001 G)(hidle:∀(j:Nat) h,i=(j:Int)->st.hs[j]? =some h->h.atw=false->E 1005 G)
 (hq:∀(j:Nat) h,i=(j:Int)->st.hs[j]? =some h->h.atw=true->∀G',Chg A.foot G G'->bw G' A {st with hs:=st.hs.set j {h with atw:=false}}->Q .non G'):run (gc [.ref A.a,.int i]) G Q E:=by
 have ho:=H.o
 walk_at "f"
 unfold iU
 lia
 refine iD H hb fun j a hi ha=>?_
 obtain⟨h,hh⟩:=ot H ha
 obtain⟨a',d,ha',hd,hat⟩:=H.hand hh
 rw[ha]at ha'
 cases ha'
 have hat0:=hat.1
 unfold hdF at hat0
 lia
 refine xB hat (fun q=>hidle j h hi hh q) fun q G1 c1 h1=>?_
 have H1:=H.DX ha hd (c1.mono (by simp)) (.inl rfl) h1
 have e1:A.da.set j d=A.da:=by
  obtain⟨l,e⟩:=qB_.mp hd
  rw[<-e];exact List.set_getElem_self l
 rw[e1]at H1
 lia
 exact hq j h hi hh q G1 (c1.mono (by intro n hn;simp at hn;subst hn;exact tu ha)) H1
def qF{i:Int}(H:bw G A st)(hb:(i < 0\/(st.ks.length:Int)<=i)->E 1002 G)
 (hq:∀(j:Nat) k,i=(j:Int)->st.ks[j]? =some k->∀G',Chg A.foot G G'->bw G' A {st with ks:=st.ks.set j {k with up:=false}}->Q (.bl k.up) G'):run (cL [.ref A.a,.int i]) G Q E:=by
 have ho:=H.o
 walk_at "f"
 unfold eB
 lia
 refine jS H hb fun j a hi ha=>?_
 obtain⟨k,hk⟩:=y6 H ha
 have hka:=H.kr j a k ha hk
 have hka0:=hka
 unfold gD krF at hka0
 lia
 refine Eo hka fun G1 c1 h1=>?_
 lia
 exact hq j k hi hk G1 (c1.mono (by intro n hn;simp at hn;subst hn;exact wB ha)) (H.EW ha c1 h1)
def qt{i:Int}(H:bw G A st)(hb:(i < 0\/(st.ks.length:Int)<=i)->E 1002 G)
 (hq:∀(j:Nat) k,i=(j:Int)->st.ks[j]? =some k->∀G',Chg A.foot G G'->bw G' A {st with ks:=st.ks.set j {k with up:=true}}->Q (.bl (!k.up)) G'):run (cK [.ref A.a,.int i]) G Q E:=by
 have ho:=H.o
 walk_at "f"
 unfold ef
 lia
 refine jS H hb fun j a hi ha=>?_
 obtain⟨k,hk⟩:=y6 H ha
 have hka:=H.kr j a k ha hk
 have hka0:=hka
 unfold gD krF at hka0
 lia
 refine DM hka fun G1 c1 h1=>?_
 lia
 exact hq j k hi hk G1 (c1.mono (by intro n hn;simp at hn;subst hn;exact wB ha)) (H.EW ha c1 h1)
end
def runN(sel:Hl->Option Nat):Nat->Hl->Hl×List (Nat×Pr)
 |0,st=>(st,[])
 |k+1,st=>match sel st with
  |none=>(st,[])
  |some p=>((runN sel k (aJ st p false).1).1,(aJ st p false).2++(runN sel k (aJ st p false).1).2)
def Sel(sel:Hl->Option Nat):Prop:=∀st p,sel st=some p->p < st.row.length
def bK{st:Hl}(W:WF st){p:Nat}(hp:p < st.row.length):mea (aJ st p false).1+1<=mea st:=by
 have:=uK W (s:=false) (qA_ hp)
 simpa using this
theorem jt{sel:Hl->Option Nat}(hs:Sel sel):∀(k:Nat) (st:Hl),WF st->mea st<=k->runN sel k st=runN sel (mea st) st
 |0,st,W,h=>by rw[Nat.le_zero.mp h]
 |k+1,st,W,h=>by
  have key:∀m,mea st<=m+1->m<=k->runN sel (m+1) st=match sel st with
   |none=>(st,[])
   |some p=>((runN sel (mea (aJ st p false).1) (aJ st p false).1).1,(aJ st p false).2++(runN sel (mea (aJ st p false).1) (aJ st p false).1).2):=by
   intro m hm hmk
   show (match sel st with
    |none=>(st,[])
    |some p=>((runN sel m (aJ st p false).1).1,(aJ st p false).2++(runN sel m (aJ st p false).1).2))=_
   cases q:sel st with
   |none=>rfl
   |some p=>
    dsimp only
    have h1:=bK W (hs st p q)
    have ih:=jt hs k (aJ st p false).1 (gP W p false) (by omega)
    rcases Nat.lt_or_ge m k with z |z
    · have ih2:runN sel m (aJ st p false).1=runN sel (mea (aJ st p false).1) (aJ st p false).1:=by
       have a1:=jt hs m (aJ st p false).1 (gP W p false) (by omega)
       exact a1
      rw[ih2]
    · have:m=k:=by omega
      rw[this,ih]
  rw[key k h (qO_ _)]
  cases q:mea st with
  |zero=>
   cases qs:sel st with
   |none=>rfl
   |some p=>
    have h1:=bK W (hs st p qs)
    omega
  |succ m=>
   rw[key m (by omega) (by omega)]
 termination_by k=>k
def cP(sel:Hl->Option Nat)(st:Hl):Hl×List (Nat×Pr):=runN sel (mea st) st
def cM{sel:Hl->Option Nat}{st:Hl}(h:sel st=none):cP sel st=(st,[]):=by
 unfold cP
 cases mea st with
 |zero=>rfl
 |succ k=>show (match sel st with |none=>(st,[]) |some p=>_)=_;rw[h]
def iB{sel:Hl->Option Nat}(hs:Sel sel){st:Hl}(W:WF st){p:Nat}(h:sel st=some p):cP sel st=((cP sel (aJ st p false).1).1,(aJ st p false).2++(cP sel (aJ st p false).1).2):=by
 unfold cP
 have h1:=bK W (hs st p h)
 cases q:mea st with
 |zero=>omega
 |succ k=>
  show (match sel st with |none=>(st,[]) |some p=>_)=_
  rw[h]
  dsimp only
  rw[jt hs k _ (gP W p false) (by omega)]
def ky(st:Hl)(p:Nat)(s:Bool):(aJ st p s).2.length<=1:=by
 unfold aJ
 split
 · simp
 · split
   · simp
   · dsimp only;split <;> simp
 · split <;> simp
def lU{sel:Hl->Option Nat}(hs:Sel sel):∀(n:Nat) (st:Hl),WF st->mea st<=n->(cP sel st).2.length<=mea st:=by
 intro n
 induction n with
 |zero=>
  intro st W h
  cases q:sel st with
  |none=>rw[cM q];simp
  |some p=>have:=bK W (hs st p q);omega
 |succ n ih=>
  intro st W h
  cases q:sel st with
  |none=>rw[cM q];simp
  |some p=>
   have h1:=bK W (hs st p q)
   have h2:=ih (aJ st p false).1 (gP W p false) (by omega)
   have h3:=ky st p false
   rw[iB hs W q]
   dsimp only
   rw[qN_]
   omega
def cT(st:Hl):Option Nat:=if st.row=[]then none else some 0
def bG:Sel cT:=fun st p h=>by
 unfold cT at h
 split at h
 · cases h
 · rename_i hn
   cases h
   cases q:st.row with
   |nil=>exact absurd q hn
   |cons _ _=>simp
def rg(i j:Nat)(e:Bool×Lt):Bool:=decide (e.2.hand=i)&&decide (e.2.kpr=j)
def cz(i j:Nat)(st:Hl):Option Nat:=st.row.findIdx? (rg i j)
def bM(i j:Nat):Sel (cz i j):=fun st p h=>by
 unfold cz at h
 exact(List.findIdx?_eq_some_iff_getElem.mp h).1
section
variable{G:Hh}{Q:D->Hh->Prop}{E:Nat->Hh->Prop}{A:Ad}{st:Hl}
def oN:Option Nat->D
 |none=>.non
 |some p=>.int (p:Int)
def jm{i j:Nat}(H:bw G A st)(hq:Q (oN (cz i j st)) G):run (bH [.ref A.a,.int (i:Int),.int (j:Int)]) G Q E:=by
 have ho:=H.o
 walk_at "f"
 unfold cW
 lia
 refine BN H.r ?_
 refine oG (xs:=iz (st.row.map enD)) (fun k σ G'=>G'=G/\(∀x∈st.row.take k,rg i j x=false)/\∃x y,σ=[some (.ref A.a),some (.int (i:Int)),some (.int (j:Int)),x,y]) ?_ ?_ ?_ _ 0 _ _ List.drop_zero (qf_ _) ⟨rfl,by simp,none,none,rfl⟩
 · rintro k σ G' ⟨rfl,_⟩
   exact qZ_ H.r
 · rintro k x σ G' hx ⟨rfl,hP,_,_,rfl⟩
   obtain⟨z,hz,rfl⟩:=xu hx
   obtain⟨e,he,rfl⟩:=rG hz
   have hsplit:st.row.take (k+1)=st.row.take k++[e]:=take_succ he
   unfold enD ltD
   lia
   refine aP (a:=D.tup [D.int (e.2.hand:Int),D.int (e.2.kpr:Int)]) (G':=G') rfl ?_
   lia
   refine w_eq (b:=rg i j e) ?_ ?_
   · show some ((decide ((e.2.hand:Int)=(i:Int))&&(decide ((e.2.kpr:Int)=(j:Int))&&true))&&decide (2=2))=some (rg i j e)
     unfold rg
     congr 1
     have a1:decide ((e.2.hand:Int)=(i:Int))=decide (e.2.hand=i):=decide_eq_decide.mpr (by omega)
     have a2:decide ((e.2.kpr:Int)=(j:Int))=decide (e.2.kpr=j):=decide_eq_decide.mpr (by omega)
     rw[a1,a2]
     simp
   lia
   cases q:rg i j e with
   |true=>
    lia
    have:cz i j st=some k:=by
     unfold cz
     rw[List.findIdx?_eq_some_iff_getElem]
     obtain⟨hl,ee⟩:=qB_.mp he
     refine⟨hl,by rw[ee];exact q,fun m hm=>?_⟩
     have hml:m < st.row.length:=by omega
     have:=hP st.row[m] (qD_ (i:=m) (by rw[List.getElem?_take,if_pos hm,qA_ hml]))
     rw[this];exact qC_
    rw[this]at hq
    exact hq
   |false=>
    lia
    refine⟨rfl,fun x hx=>?_,_,_,rfl⟩
    rw[hsplit]at hx
    rcases qG_.mp hx with z |z
    · exact hP x z
    · simp at z;rw[z];exact q
 · rintro σ G' ⟨rfl,hP,_,_,rfl⟩
   lia
   have:cz i j st=none:=by
    unfold cz
    rw[List.findIdx?_eq_none_iff]
    intro x hx
    refine hP x ?_
    have:=yf (xs:=st.row.map enD)
    rw[qM_]at this
    show x∈st.row.take (iz (st.row.map enD)).length
    rw[this,List.take_length]
    exact hx
   rw[this]at hq
   exact hq
def Bq{n:Int}{s:Bool}(H:bw G A st)(W:WF st)(hz:mea st<=800000)(hb:st.row=[]->E 1003 G)
 (hq:∀p:Nat,p=(n % (st.row.length:Int)).toNat->p < st.row.length->∀le A' G',Chg A.foot G G'->A.To A' G.length->G.length<=le->bw G' A' (aJ st p s).1->G'[le]? =some (.lst ((aJ st p s).2.map pQ))->Q (.ref le) G'):run (fY [.ref A.a,.int n,.bl s]) G Q E:=by
 have ho:=H.o
 walk_at "f"
 unfold iN
 lia
 refine aP (a:=!(st.row.map enD).isEmpty) (G':=G) ?_ ?_
 · unfold truth
   dsimp only
   rw[H.r]
 cases q:st.row with
 |nil=>
  rw[q]at hb
  lia
  exact hb rfl
 |cons e r=>
  refine w_ite (fun c=>by cases c) fun _=>?_
  lia
  refine dD H.r ?_
  rw[qM_]
  have hpos:0 < (st.row.length:Int):=by rw[q,List.length_cons];omega
  lia
  refine m5 hpos ?_
  have h1:=Int.emod_nonneg n (show (st.row.length:Int)≠0 by omega)
  have h2:=Int.emod_lt_of_pos n hpos
  have hp:(n % (st.row.length:Int)).toNat < st.row.length:=by omega
  have e1:n % (st.row.length:Int)=(((n % (st.row.length:Int)).toNat:Nat):Int):=by omega
  lia
  rw[e1]
  refine uU (p:=(n % (st.row.length:Int)).toNat) H W (qA_ hp) hz fun le A' G' c to l h3 h4=>?_
  lia
  exact hq _ rfl hp le A' G' c to l h3 h4
structure Lp (sel:Hl->Option Nat) (G0:Hh) (A:Ad) (st:Hl) (le:Nat) (G:Hh) (A':Ad) (st':Hl) (acc:List (Nat×Pr)):Prop where
 H:bw G A' st'
 W:WF st'
 m:mea st'<=mea st
 l:G[le]? =some (.lst (acc.map pQ))
 r1:(cP sel st').1=(cP sel st).1
 r2:acc++(cP sel st').2=(cP sel st).2
 c:Chg A.foot G0 G
 to:A.To A' G0.length
 nf:le∉A'.foot
 ge:G0.length<=le
def Lp.start{sel:Hl->Option Nat}{G1:Hh}(H:bw G A st)(W:WF st)(c1:Chg [] G G1)(h1:G1[G.length]? =some (.lst [])):Lp sel G A st G.length G1 A st []:=
 ⟨H.frame c1 (by simp),W,qO_ _,h1,rfl,rfl,c1.mono (by simp),Ad.To.refl _ _,fun z=>by have:=H.lt _ z;omega,qO_ _⟩
def Lp.step{sel:Hl->Option Nat}(hs:Sel sel){G0:Hh}{le ln p:Nat}{A' A2:Ad}{st':Hl}{acc:List (Nat×Pr)}{G1 G2:Hh}(L:Lp sel G0 A st le G A' st' acc)(hp:sel st'=some p)
 (c1:Chg A'.foot G G1) (to:A'.To A2 G.length) (H2:bw G1 A2 (aJ st' p false).1) (c2:Chg [le] G1 G2) (h2:G2[le]? =some (.lst ((acc++(aJ st' p false).2).map pQ))):Lp sel G0 A st le G2 A2 (aJ st' p false).1 (acc++(aJ st' p false).2):=by
 have h1:=bK L.W (hs st' p hp)
 have hr:=iB hs L.W hp
 have g:=L.c.1
 have gl:=az L.l
 have nf2:le∉A2.foot:=fun z=>(to.foot le z).elim L.nf fun w=>by omega
 refine⟨H2.frame c2 (by intro n hn;simp at hn;rw[hn];exact nf2),gP L.W p false,by have:=L.m;omega,h2,?_,?_,?_,L.to.trans to g,nf2,L.ge⟩
 · rw[<-L.r1,hr]
 · rw[<-L.r2,hr,List.append_assoc]
 · refine(L.c.trans' c1 fun n hn=>L.to.foot n hn).trans' c2 fun n hn=>?_
   simp at hn
   rw[hn]
   exact .inr L.ge
def Bw(H:bw G A st)(W:WF st)(hz:mea st<=800000)(hq:∀le A' G',Chg A.foot G G'->A.To A' G.length->G.length<=le->le∉A'.foot->bw G' A' (cP cT st).1->G'[le]? =some (.lst ((cP cT st).2.map pQ))->Q (.ref le) G'):run (fW [.ref A.a]) G Q E:=by
 have hlen:=lU bG (mea st) st W (qO_ _)
 walk_at "f"
 unfold iP
 refine aA (bB (fE fun G1 c1 l1 h1=>w_next ?_))
 walk_at "s"
 refine aA (uL (m:=mea st) (fun σ G' m=>∃A' st' acc,m=mea st'/\σ=[some (.ref A.a),some (.ref G.length)]/\Lp cT G A st G.length G' A' st' acc) ?_ (by omega) ⟨A,st,[],rfl,rfl,Lp.start H W c1 h1⟩)
 rintro σ G' m ⟨A',st',acc,rfl,rfl,L⟩
 have ho:G'[A.a]? =some (.ins 2 [(9,.ref A'.lk),(10,.ref A'.lh),(11,.ref A'.lr)]):=by rw[<-L.to.a];exact L.H.o
 have hlr:=L.H.r
 refine jM (w_fld (w_var rfl (bh ho (by decide) rfl ?_)))
 refine aP (a:=!(st'.row.map enD).isEmpty) (G':=G') ?_ ?_
 · unfold truth
   dsimp only
   rw[hlr]
 cases q:st'.row with
 |nil=>
  rw[List.map_nil]
  refine(if_neg (show ¬(!([]:List D).isEmpty)=true by decide)).mpr ?_
  refine w_next ?_
  have hs:cT st'=none:=by unfold cT;rw[if_pos q]
  have hr:=cM hs
  have r1:=L.r1
  have r2:=L.r2
  rw[hr]at r1 r2
  dsimp only at r1 r2
  rw[qY_]at r2
  lia
  have HH:=L.H
  rw[r1]at HH
  have ll:=L.l
  rw[r2]at ll
  exact hq _ A' G' L.c L.to L.ge L.nf HH ll
 |cons e r=>
  refine(if_pos (show (!(List.map enD (e :: r)).isEmpty)=true from rfl)).mpr ?_
  have hs:cT st'=some 0:=by unfold cT;rw[if_neg (by rw[q];simp)]
  have h0:st'.row[0]? =some e:=by rw[q];rfl
  have hm:=L.m
  have acl:acc.length<=800000:=by
   have:=congrArg List.length L.r2
   rw[qN_]at this
   omega
  have hend:=ky st' 0 false
  refine dZ (tK (w_var rfl (mG L.l (bu (w_var rfl (bU ho (aj (w_c (aj (w_c (aB ?_)))))))))))
  rw[<-L.to.a]
  refine uU (p:=0) (s:=false) L.H L.W h0 (by omega) fun ln A2 G2 c2 to l2 H2 h2=>?_
  have hle2:=c2.get L.l L.nf
  refine gG hle2 h2 (by simp [aC];omega) fun G3 c3 l3 h3=>?_
  rw[<-qT_]at h3
  have L2:=L.step (ln:=ln) bG hs c2 to H2 c3 h3
  have:=bK L.W (bG st' 0 hs)
  exact⟨mea (aJ st' 0 false).1,by omega,A2,_,_,rfl,by rw[L.to.a],L2⟩
def nY{i j:Int}(H:bw G A st)(W:WF st)(hz:mea st<=800000)(hb:(i < 0\/(st.hs.length:Int)<=i)->E 1001 G)(hb2:¬(i < 0\/(st.hs.length:Int)<=i)->(j < 0\/(st.ks.length:Int)<=j)->E 1002 G)
 (hq:∀p k:Nat,i=(p:Int)->j=(k:Int)->p < st.hs.length->k < st.ks.length->∀le A' G',Chg A.foot G G'->A.To A' G.length->G.length<=le->le∉A'.foot->bw G' A' (cP (cz p k) st).1->G'[le]? =some (.lst ((cP (cz p k) st).2.map pQ))->Q (.ref le) G'):run (cg [.ref A.a,.int i,.int j]) G Q E:=by
 have ho0:=H.o
 walk_at "f"
 unfold cS
 refine aA (dZ (bu (w_var rfl (bU ho0 (aj (w_var rfl (aB ?_)))))))
 refine iD H hb fun p a hi ha=>?_
 have hpl:p < st.hs.length:=by rw[<-H.hl];exact(qB_.mp ha).1
 refine w_next ?_
 refine aA (dZ (bu (w_var rfl (bU ho0 (aj (w_var rfl (aB ?_)))))))
 refine jS H (hb2 (by omega)) fun k a2 hj ha2=>?_
 have hkl:k < st.ks.length:=by rw[<-H.kl];exact(qB_.mp ha2).1
 subst hi hj
 have hq:=hq p k rfl rfl hpl hkl
 have hlen:=lU (bM p k) (mea st) st W (qO_ _)
 refine w_next ?_
 refine aA (bB (fE fun G1 c1 l1 h1=>w_next ?_))
 walk_at "s"
 have H1:=H.frame c1 (by simp)
 refine aA (bB (bu (w_var rfl (bU H1.o (aj (w_var rfl (aj (w_var rfl (aB ?_)))))))))
 refine jm H1 ?_
 refine w_next ?_
 walk_at "s"
 refine aA (uL (m:=mea st) (fun σ G' m=>∃A' st' acc,m=mea st'/\σ=[some (.ref A.a),some (.int (p:Int)),some (.int (k:Int)),some (.ref G.length),some (oN (cz p k st'))]/\Lp (cz p k) G A st G.length G' A' st' acc) ?_ (by omega) ⟨A,st,[],rfl,rfl,Lp.start H W c1 h1⟩)
 rintro σ G' m ⟨A',st',acc,rfl,rfl,L⟩
 have ho:G'[A.a]? =some (.ins 2 [(9,.ref A'.lk),(10,.ref A'.lh),(11,.ref A'.lr)]):=by rw[<-L.to.a];exact L.H.o
 refine dI (lL (w_var rfl (g8 (cn ?_))))
 cases hs:cz p k st' with
 |none=>
  refine(if_neg (show ¬(!decide (oN none=D.non))=true by decide)).mpr ?_
  refine w_next ?_
  have hr:=cM hs
  have r1:=L.r1
  have r2:=L.r2
  rw[hr]at r1 r2
  dsimp only at r1 r2
  rw[qY_]at r2
  lia
  have HH:=L.H
  rw[r1]at HH
  have ll:=L.l
  rw[r2]at ll
  exact hq _ A' G' L.c L.to L.ge L.nf HH ll
 |some q=>
  refine(if_pos (show (!decide (oN (some q)=D.non))=true from rfl)).mpr ?_
  have hql:=bM p k st' q hs
  have h0:st'.row[q]? =some st'.row[q]:=qA_ hql
  have hm:=L.m
  have acl:acc.length<=800000:=by
   have:=congrArg List.length L.r2
   rw[qN_]at this
   omega
  have hend:=ky st' q false
  refine aA (dZ (tK (w_var rfl (mG L.l (bu (w_var rfl (bU ho (aj (w_var rfl (aj (w_c (aB ?_))))))))))))
  rw[<-L.to.a]
  refine uU (p:=q) (s:=false) L.H L.W h0 (by omega) fun ln A2 G2 c2 to l2 H2 h2=>?_
  have hle2:=c2.get L.l L.nf
  refine gG hle2 h2 (by simp [aC];omega) fun G3 c3 l3 h3=>?_
  rw[<-qT_]at h3
  have L2:=L.step (ln:=ln) (bM p k) hs c2 to H2 c3 h3
  have lm:=bK L.W (bM p k st' q hs)
  refine w_next ?_
  have ho2:G3[A'.a]? =some (.ins 2 [(9,.ref A2.lk),(10,.ref A2.lh),(11,.ref A2.lr)]):=by rw[L.to.a,<-L2.to.a];exact L2.H.o
  refine bB (bu (w_var rfl (bU ho2 (aj (w_var rfl (aj (w_var rfl (aB ?_))))))))
  rw[L.to.a,<-L2.to.a]
  refine jm L2.H ?_
  exact⟨mea (aJ st' q false).1,by omega,A2,_,_,rfl,by walk_at "s",L2⟩
end
def word(b:Bool):Str:=if b then "read" else "write"
def stD:Option (Int×Int)->D
 |none=>.non
 |some s=>.tup [.int s.1,.int s.2]
structure Wk where
 hand:Nat
 rd:Bool
 val:Option Int
 beg:Nat
 en:Option Nat
 aY:Option (Int×Int)
def nD:Option Nat->D
 |none=>.non
 |some n=>.int (n:Int)
def wkF(w:Wk):List (Nat×D):=[(12,.int (w.hand:Int)),(13,.str (word w.rd)),(3,oD w.val),(14,.int (w.beg:Int)),(15,nD w.en),(16,stD w.aY)]
def ng(G:Hh)(a:Nat)(w:Wk):Prop:=G[a]? =some (.ins 3 (wkF w))
def mJ(w:Wk):D:= .tup [.int (w.hand:Int),.str (word w.rd),oD w.val,.int (w.beg:Int),nD w.en]
structure Sy where
 ah:Hl
 af:List Wk
 last:List (Nat×Nat)
 aE:Nat
structure Sd where
 s:Nat
 lw:Nat
 ld:Nat
 wa:List Nat
 A:Ad
def fP(l:List (Nat×Nat)):List (Key×D):=l.map fun e=>(.inl (e.1:Int),.int (e.2:Int))
def Sd.own(S:Sd):List Nat:=[S.s,S.lw,S.ld]++S.wa
structure cu (G:Hh) (S:Sd) (y:Sy):Prop where
 o:G[S.s]? =some (.ins 4 [(17,.ref S.A.a),(18,.ref S.lw),(19,.ref S.ld),(20,.int (y.aE:Int))])
 w:G[S.lw]? =some (.lst (refs S.wa))
 d:G[S.ld]? =some (.dK (fP y.last))
 wl:S.wa.length=y.af.length
 wk:∀(i:Nat) a w,S.wa[i]? =some a->y.af[i]? =some w->ng G a w
 H:bw G S.A y.ah
 nd:S.own.Nodup
 dj:∀x∈S.own,x∉S.A.foot
structure SWF (y:Sy):Prop where
 W:WF y.ah
 la:∀e∈y.last,e.1 < y.ah.hs.length/\e.2 < y.af.length
 nd:(y.last.map (·.1)).Nodup
 atw:∀(i:Nat) h,y.ah.hs[i]? =some h->h.atw=true->i∈y.last.map (·.1)
section
variable{G G':Hh}{Q:D->Hh->Prop}{E:Nat->Hh->Prop}{S:Sd}{y:Sy}
def cu.lt(Y:cu G S y):∀n∈S.own,n < G.length:=by
 intro n hn
 unfold Sd.own at hn
 rcases qG_.mp hn with z |z
 · simp only[qS_,List.not_mem_nil,or_false]at z
   rcases z with rfl |rfl |rfl
   · exact az Y.o
   · exact az Y.w
   · exact az Y.d
 · obtain⟨i,hi,e⟩:=List.getElem_of_mem z
   have h1:S.wa[i]? =some n:=by rw[qA_ hi,e]
   have h2:i < y.af.length:=by rw[<-Y.wl];exact hi
   exact az (Y.wk i n _ h1 (qA_ h2))
def uh{i a:Nat}(h:S.wa[i]? =some a):a∈S.own:=by unfold Sd.own;simp [qD_ h]
def iu(nd:S.own.Nodup):S.s≠S.lw/\S.s≠S.ld/\S.lw≠S.ld/\S.wa.Nodup/\∀x∈S.wa,x≠S.s/\x≠S.lw/\x≠S.ld:=by
 unfold Sd.own at nd
 rw[List.nodup_append]at nd
 obtain⟨n1,n2,n3⟩:=nd
 simp only[List.nodup_cons,qS_,List.not_mem_nil,or_false,not_or]at n1
 obtain⟨⟨a1,a2⟩,a3,_⟩:=n1
 exact⟨a1,a2,a3,n2,fun x hx=>⟨fun z=>n3 S.s (by simp) x hx z.symm,fun z=>n3 S.lw (by simp) x hx z.symm,fun z=>n3 S.ld (by simp) x hx z.symm⟩⟩
theorem cu.ah{A':Ad}{st:Hl}(Y:cu G S y)(c:Chg S.A.foot G G')(to:S.A.To A' G.length)(H:bw G' A' st):cu G' {S with A:=A'} {y with ah:=st}:=by
 have ns:∀x∈S.own,x∉S.A.foot:=Y.dj
 refine⟨?_,c.get Y.w (ns _ (by simp [Sd.own])),c.get Y.d (ns _ (by simp [Sd.own])),Y.wl,fun i a w h1 h2=>c.get (Y.wk i a w h1 h2) (ns _ (uh h1)),H,Y.nd,fun x hx z=>?_⟩
 · show G'[S.s]? =some (.ins 4 [(17,.ref A'.a),(18,.ref S.lw),(19,.ref S.ld),(20,.int (y.aE:Int))])
   rw[to.a]
   exact c.get Y.o (ns _ (by simp [Sd.own]))
 · rcases to.foot x z with w |w
   · exact Y.dj x hx w
   · have:=Y.lt x hx;omega
def cu.HQ{i a:Nat}{w:Wk}(Y:cu G S y)(hi:S.wa[i]? =some a)(c:Chg [a] G G')(hw:ng G' a w):cu G' S {y with af:=y.af.set i w}:=by
 obtain⟨_,_,_,nw,q⟩:=iu Y.nd
 have ha:=qD_ hi
 obtain⟨e1,e2,e3⟩:=q a ha
 have ns:∀n,n≠a->n∉ [a]:=fun n h z=>h (by simpa using z)
 refine⟨c.get Y.o (ns _ (Ne.symm e1)),c.get Y.w (ns _ (Ne.symm e2)),c.get Y.d (ns _ (Ne.symm e3)),by simp [Y.wl],fun j b v h1 h2=>?_,Y.H.frame c (by intro n hn;simp at hn;rw[hn];exact Y.dj a (uh hi)),Y.nd,Y.dj⟩
 by_cases z:j=i
 · subst z
   rw[hi]at h1
   cases h1
   have:j < y.af.length:=by rw[<-Y.wl];exact(qB_.mp hi).1
   have h2:(y.af.set j w)[j]? =some v:=h2
   rw[qU_ this]at h2
   cases h2
   exact hw
 · have h2:(y.af.set i w)[j]? =some v:=h2
   rw[qV_ (Ne.symm z)]at h2
   refine c.get (Y.wk j b v h1 h2) (ns _ fun w=>z ?_)
   subst w
   exact get_inj nw h1 hi
theorem cu.frame{T:List Nat}(Y:cu G S y)(c:Chg T G G')(hs:∀n∈T,n∉S.own/\n∉S.A.foot):cu G' S y:=by
 have ns:∀x∈S.own,x∉T:=fun x hx z=>(hs x z).1 hx
 exact⟨c.get Y.o (ns _ (by simp [Sd.own])),c.get Y.w (ns _ (by simp [Sd.own])),c.get Y.d (ns _ (by simp [Sd.own])),Y.wl,fun i a w h1 h2=>c.get (Y.wk i a w h1 h2) (ns _ (uh h1)),Y.H.frame c fun n hn=>(hs n hn).2,Y.nd,Y.dj⟩
def qY{l:List (Nat×Nat)}{i p:Nat}(nd:(l.map (·.1)).Nodup)(h:(i,p)∈l):look (fP l) (.inl (i:Int))=some (.int (p:Int)):=by
 induction l with
 |nil=>cases h
 |cons e r ih=>
  obtain⟨k,q⟩:=e
  rw[List.map_cons,List.nodup_cons]at nd
  unfold fP look
  rw[List.map_cons,List.find?_cons]
  by_cases z:k=i
  · subst z
    rcases qS_.mp h with w |w
    · cases w
      rw[qZ_ rfl]
      rfl
    · exact absurd (qH_.mpr ⟨_,w,rfl⟩) nd.1
  · have zz:¬((Sum.inl (k:Int):Key)= .inl (i:Int)):=fun w=>z (by have:=Sum.inl.inj w;omega)
    rw[qa_ zz]
    rcases qS_.mp h with w |w
    · cases w;exact absurd rfl z
    · exact ih nd.2 w
def putL(l:List (Nat×Nat))(k p:Nat):List (Nat×Nat):=if (l.any fun e=>decide (e.1=k))then l.map fun e=>if e.1=k then (e.1,p)else e else l++[(k,p)]
def D6(l:List (Nat×Nat))(k p:Nat):put (fP l) (.inl (k:Int)) (.int (p:Int))=fP (putL l k p):=by
 have key:∀e:Nat×Nat,decide ((Sum.inl (e.1:Int):Key)= .inl (k:Int))=decide (e.1=k):=fun e=>decide_eq_decide.mpr ⟨fun z=>by have:=Sum.inl.inj z;omega,fun z=>by rw[z]⟩
 unfold put putL
 have e1:((fP l).any fun kv=>decide (kv.1=(.inl (k:Int):Key)))=l.any fun e=>decide (e.1=k):=by
  unfold fP
  rw[List.any_map]
  congr 1
  funext e
  exact key e
 rw[e1]
 by_cases c:(l.any fun e=>decide (e.1=k))=true
 · rw[if_pos c,if_pos c]
   unfold fP
   rw[qb_,qb_]
   apply List.map_congr_left
   intro e _
   by_cases z:e.1=k
   · have z':(Sum.inl (e.1:Int):Key)= .inl (k:Int):=by rw[z]
     show (if (Sum.inl (e.1:Int):Key)= .inl (k:Int)then ((Sum.inl (e.1:Int):Key),D.int (p:Int))else (Sum.inl (e.1:Int),D.int (e.2:Int)))=(Sum.inl ((if e.1=k then (e.1,p)else e).1:Int),D.int ((if e.1=k then (e.1,p)else e).2:Int))
     rw[if_pos z',if_pos z]
   · have z':¬(Sum.inl (e.1:Int):Key)= .inl (k:Int):=fun w=>z (by have:=Sum.inl.inj w;omega)
     show (if (Sum.inl (e.1:Int):Key)= .inl (k:Int)then ((Sum.inl (e.1:Int):Key),D.int (p:Int))else (Sum.inl (e.1:Int),D.int (e.2:Int)))=(Sum.inl ((if e.1=k then (e.1,p)else e).1:Int),D.int ((if e.1=k then (e.1,p)else e).2:Int))
     rw[if_neg z',if_neg z]
 · rw[if_neg c,if_neg c]
   unfold fP
   rw[qT_]
   rfl
def uf{i b:Nat}{rd:Bool}{v:Option Int}{a:Nat}(ha:G[a]? =some (.ins 3 []))(hq:∀G',Chg [a] G G'->ng G' a ⟨i,rd,v,b,none,none⟩->Q .non G'):run (gT [.ref a,.int (i:Int),.str (word rd),oD v,.int (b:Int)]) G Q E:=by
 walk_at "f"
 unfold j7
 lia
 refine aM ha ⟨by decide,qP_ rfl⟩ fun G1 c1 l1 h1=>?_
 lia
 refine aM h1 ⟨by decide,qP_ rfl⟩ fun G2 c2 l2 h2=>?_
 lia
 refine aM h2 ⟨by decide,qP_ rfl⟩ fun G3 c3 l3 h3=>?_
 lia
 refine aM h3 ⟨by decide,qP_ rfl⟩ fun G4 c4 l4 h4=>?_
 lia
 refine aM h4 ⟨by decide,qP_ rfl⟩ fun G5 c5 l5 h5=>?_
 lia
 refine aM h5 ⟨by decide,qP_ rfl⟩ fun G6 c6 l6 h6=>?_
 lia
 exact hq G6 (((((c1.trans c2).trans c3).trans c4).trans c5).trans c6) h6
def cq(y:Sy)(i:Nat)(rd:Bool)(v:Option Int):Sy:={y with af:=y.af++[⟨i,rd,v,y.aE,none,none⟩],last:=putL y.last i y.af.length}
def mB{l:List (Nat×Nat)}{k p:Nat}{e:Nat×Nat}(h:e∈putL l k p):e=(k,p)\/e∈l:=by
 unfold putL at h
 split at h
 · obtain⟨x,hx,ex⟩:=qH_.mp h
   split at ex
   · rename_i z;subst ex;rw[z];exact .inl rfl
   · subst ex;exact .inr hx
 · rcases qG_.mp h with z |z
   · exact .inr z
   · simp at z;rw[z];exact .inl rfl
def nI{i:Nat}{rd:Bool}{v:Option Int}(Y:cu G S y)(hz:y.af.length<=1000)(hz2:y.last.length<=1000)(hq:∀a G',Chg (S.own++S.A.foot) G G'->G.length<=a->cu G' {S with wa:=S.wa++[a]} (cq y i rd v)->Q (.int (y.af.length:Int)) G'):run (b9 [.ref S.s,.int (i:Int),.str (word rd),oD v]) G Q E:=by
 obtain⟨n1,n2,n3,n4,n5⟩:=iu Y.nd
 have ho:=Y.o
 walk_at "f"
 unfold eI
 lia
 refine dD Y.w ?_
 rw[show (refs S.wa).length=S.wa.length from qM_ _,Y.wl]
 lia
 refine mG Y.w ?_
 refine mF (aj (w_var rfl (aj (w_var rfl (aj (w_var rfl (aj (w_fld (w_var rfl (bh ho (by decide) rfl (aB ?_)))))))))))
 intro G1 c1 l1 h1
 refine uf h1 fun G2 c2 h2=>⟨rfl,?_⟩
 have nw:∀x∈S.own,x∉ [G.length]:=fun x hx z=>by have:=Y.lt x hx;simp at z;omega
 have w2:=c2.get (c1.get Y.w (by simp)) (nw _ (by simp [Sd.own]))
 refine m8 w2 (by rw[show (refs S.wa).length=S.wa.length from qM_ _,Y.wl];unfold aC;omega) fun G3 c3 l3 h3=>?_
 have c12:Chg [] G G2:=(c1.trans' c2 (by intro n hn;simp at hn;rw[hn];exact .inr (qO_ _)))
 have Y2:=Y.frame c12 (by simp)
 have nlw:∀x,x≠S.lw->x∉ [S.lw]:=fun x h z=>h (by simpa using z)
 have o3:=c3.get Y2.o (nlw _ n1)
 have d3:=c3.get Y2.d (nlw _ (Ne.symm n3))
 lia
 refine xm d3 rfl (by unfold fP;rw[qM_];unfold aC;omega) fun G4 c4 l4 h4=>?_
 rw[D6]at h4
 lia
 have g12:=c12.1
 have nld:∀x,x≠S.ld->x∉ [S.ld]:=fun x h z=>h (by simpa using z)
 have lwlt:=az Y.w
 have ldlt:=az Y.d
 refine hq G.length G4 ?_ (qO_ _) ⟨c4.get o3 (nld _ n2),?_,h4,by simp [cq,Y.wl],fun j b w e1 e2=>?_,?_,?_,fun x hx z=>?_⟩
 · refine((c12.mono (by simp)).trans (c3.mono ?_)).trans (c4.mono ?_)
   · intro n hn;simp at hn;rw[hn];simp [Sd.own]
   · intro n hn;simp at hn;rw[hn];simp [Sd.own]
 · have:=c4.get h3 (nld _ n3)
   show G4[S.lw]? =some (.lst (refs (S.wa++[G.length])))
   rw[this]
   unfold refs
   rw[qT_]
   rfl
 · have e1:(S.wa++[G.length])[j]? =some b:=e1
   have e2:(y.af++[⟨i,rd,v,y.aE,none,none⟩])[j]? =some w:=e2
   by_cases hj:j < S.wa.length
   · rw[qK_ hj]at e1
     rw[qK_ (by rw[<-Y.wl];exact hj)]at e2
     have q:=n5 b (qD_ e1)
     exact c4.get (c3.get (Y2.wk j b w e1 e2) (nlw _ q.2.1)) (nld _ q.2.2)
   · have hj2:j=S.wa.length:=by
      have:=(qB_.mp e1).1
      simp at this
      omega
     subst hj2
     simp at e1
     rw[Y.wl]at e2
     simp at e2
     subst e1 e2
     exact c4.get (c3.get h2 (nlw _ (by omega))) (nld _ (by omega))
 · exact((Y2.H.frame c3 (by intro n hn;simp at hn;rw[hn];exact Y.dj _ (by simp [Sd.own]))).frame c4 (by intro n hn;simp at hn;rw[hn];exact Y.dj _ (by simp [Sd.own])))
 · have nd:=Y.nd
   unfold Sd.own at nd ⊢
   dsimp only
   rw[<-List.append_assoc,List.nodup_append]
   refine⟨nd,by simp,fun x hx z hz w=>?_⟩
   simp at hz
   have:=Y.lt x hx
   omega
 · unfold Sd.own at hx
   dsimp only at hx
   rw[<-List.append_assoc]at hx
   rcases qG_.mp hx with w |w
   · exact Y.dj x w z
   · simp at w
     have:=Y.H.lt x z
     omega
end
def lastOf(l:List (Nat×Nat))(i:Nat):Nat:=((l.find? fun e=>decide (e.1=i)).map (·.2)).getD 0
def ek{l:List (Nat×Nat)}{i:Nat}(h:i∈l.map (·.1)):(i,lastOf l i)∈l:=by
 unfold lastOf
 cases q:l.find? fun e=>decide (e.1=i)with
 |none=>
  obtain⟨e,he,ee⟩:=qH_.mp h
  exact absurd (qZ_ ee) (List.find?_eq_none.mp q e he)
 |some e=>
  have h1:=List.find?_some q
  have h2:=List.mem_of_find?_eq_some q
  have h3:e.1=i:=of_decide_eq_true h1
  show (i,e.2)∈l
  rw[<-h3]
  exact h2
def gU(y:Sy)(q:Nat)(f:Wk->Wk):Sy:=match y.af[q]? with
 |none=>y
 |some w=>{y with af:=y.af.set q (f w)}
def zJ(y:Sy)(p:Pr)(w:Wk):Wk:={w with val:=some p.2,en:=some y.aE}
def kW(y:Sy)(e:Nat×Pr):Sy:=gU y (lastOf y.last e.1) (zJ y e.2)
def bt(y:Sy)(es:List (Nat×Pr)):Sy:=es.foldl kW y
def lC(y:Sy)(q:Nat)(f:Wk->Wk):(gU y q f).last=y.last/\(gU y q f).ah=y.ah/\(gU y q f).aE=y.aE/\(gU y q f).af.length=y.af.length:=by
 unfold gU
 split <;> simp
theorem eD:∀(es:List (Nat×Pr)) (y:Sy),(bt y es).last=y.last/\(bt y es).ah=y.ah/\(bt y es).aE=y.aE/\(bt y es).af.length=y.af.length
 | [],y=>⟨rfl,rfl,rfl,rfl⟩
 |e :: r,y=>by
  have h1:=eD r (kW y e)
  have h2:=lC y (lastOf y.last e.1) (zJ y e.2)
  unfold bt at*
  rw[List.foldl_cons]
  exact⟨h1.1.trans h2.1,h1.2.1.trans h2.2.1,h1.2.2.1.trans h2.2.2.1,h1.2.2.2.trans h2.2.2.2⟩
def seD(y:Sy)(e:Nat×Pr):D:= .tup [.int (lastOf y.last e.1:Int),.int e.2.2]
section
variable{G G':Hh}{Q:D->Hh->Prop}{E:Nat->Hh->Prop}{S:Sd}{y:Sy}
def cu.Hx(Y:cu G S y){i:Nat}{w:Wk}(h:y.af[i]? =some w):∃a,S.wa[i]? =some a/\ng G a w:=by
 have:i < S.wa.length:=by rw[Y.wl];exact(qB_.mp h).1
 exact⟨_,qA_ this,Y.wk i _ w (qA_ this) h⟩
def wo{e:Nat×Pr}(Y:cu G S y)(W:SWF y)(he:e.1∈y.last.map (·.1))(hq:∀G',Chg S.own G G'->cu G' S (kW y e)->Q (seD y e) G'):run (dm [.ref S.s,.int (e.1:Int),pD e.2]) G Q E:=by
 have hm:=ek he
 have hlt:=(W.la _ hm).2
 have hw:y.af[lastOf y.last e.1]? =some y.af[lastOf y.last e.1]:=qA_ hlt
 generalize y.af[lastOf y.last e.1]=w at hw
 obtain⟨a,ha,hwa⟩:=Y.Hx hw
 have ho:=Y.o
 have hne:S.s∉ [a]:=fun z=>by simp at z;exact(iu Y.nd).2.2.2.2 a (qD_ ha) |>.1 z.symm
 unfold ng wkF at hwa
 walk_at "f"
 unfold fg
 refine aA (bB (aD (w_fld (w_var rfl (bh ho (by decide) rfl (w_var rfl (C7 Y.d rfl (qY W.nd hm) (w_next ?_))))))))
 walk_at "s"
 refine aA (bB (aD (w_fld (w_var rfl (bh ho (by decide) rfl (w_var rfl (eE Y.w (iZ ha) (w_next ?_))))))))
 walk_at "s"
 unfold pD
 refine aA (fv (aD (w_var rfl (w_c (bi rfl (w_var rfl ?_))))))
 refine aM hwa ⟨by decide,qP_ rfl⟩ fun G1 c1 l1 h1=>?_
 have ho1:=c1.get ho hne
 refine w_next ?_
 refine aA (fv (w_fld (w_var rfl (bh ho1 (by decide) rfl (w_var rfl ?_)))))
 refine aM h1 ⟨by decide,qP_ rfl⟩ fun G2 c2 l2 h2=>?_
 refine w_next ?_
 refine bI (wu (aj (w_var rfl (aj (w_fld (w_var rfl (bh h2 (by decide) rfl (aB ⟨qP_ (by with_unfolding_all rfl),?_⟩))))))))
 lia
 have c:=c1.trans c2
 have Y2:=Y.HQ (w:=zJ y e.2 w) ha c h2
 have e1:kW y e={y with af:=y.af.set (lastOf y.last e.1) (zJ y e.2 w)}:=by
  unfold kW gU
  rw[hw]
 refine hq G2 (c.mono (by intro n hn;simp at hn;rw[hn];exact uh ha)) ?_
 rw[e1]
 exact Y2
def uI{le:Nat}{es:List (Nat×Pr)}(Y:cu G S y)(W:SWF y)(hl:G[le]? =some (.lst (es.map pQ)))(hn:le∉S.own)(hz:es.length<=1000000)(he:∀e∈es,e.1∈y.last.map (·.1))
 (hq:∀l2 G',Chg S.own G G'->G.length<=l2->cu G' S (bt y es)->G'[l2]? =some (.lst (es.map (seD y)))->Q (.ref l2) G'):run (bA [.ref S.s,.ref le]) G Q E:=by
 walk_at "f"
 unfold eX
 refine bI (rL (mw (w_var rfl (eS hl ?_))))
 refine kA (xs:=es.map pQ) (fun i acc G'=>Chg S.own G G'/\cu G' S (bt y (es.take i))/\acc=(es.take i).map (seD y)) ?_ ?_ ?_ _ 0 [] G List.drop_zero (qf_ _) ⟨Chg.refl _ _,Y,rfl⟩
 · rintro i acc G' ⟨c,_⟩
   exact qZ_ (c.get hl hn)
 · rintro i x acc G' hx ⟨c,Y',rfl⟩
   obtain⟨e,he1,rfl⟩:=rG hx
   refine fL ?_
   rw[if_pos rfl]
   obtain⟨q1,q2,q3,q4⟩:=eD (es.take i) y
   have W':SWF (bt y (es.take i)):=⟨by rw[q2];exact W.W,by rw[q1,q2,q4];exact W.la,by rw[q1];exact W.nd,by rw[q1,q2];exact W.atw⟩
   have ho:=Y'.o
   unfold pQ
   refine bu (w_var rfl (bU ho (aj (aD (w_var rfl (w_c (bi rfl (aj (aD (w_var rfl (w_c (bi rfl (aB ?_)))))))))))))
   refine wo (e:=e) Y' W' (by rw[q1];exact he e (qD_ he1)) fun G2 c2 Y2=>?_
   refine⟨by have:=List.length_take_le i es;simp [aC];omega,c.trans c2,?_,?_⟩
   · rw[take_succ he1]
     unfold bt at*
     rw[List.foldl_append]
     exact Y2
   · rw[take_succ he1,qT_]
     unfold seD
     rw[q1]
     rfl
 · rintro acc G' ⟨c,Y',rfl⟩
   rw[qM_,List.take_length]at*
   lia
   have c3:Chg [] G' (G'++[O.lst (es.map (seD y))]):=Chg.add _ _
   exact hq G'.length _ (c.trans (c3.mono (by simp))) c.1 (Y'.frame c3 (by simp)) (bc _ _)
end
section
variable{G G':Hh}{Q:D->Hh->Prop}{E:Nat->Hh->Prop}{S:Sd}{y:Sy}{σ:St}{QS:Fl×St->Hh->Prop}
def BF{e:E3}{g:D->St->M St}{body:S3}(h:run (e σ) G (fun x G1=>∃n kvs,x= .ref n/\G1[n]? =some (.dK kvs)/\run (forL (fun _=>true) (fun x σ=>bnd (g x σ) body) (eK kvs) σ) (G1.set n (.dF kvs)) (fun p G2=>G2[n]? =some (.dF kvs)/\QS p (G2.set n (.dK kvs))) (fun _ _=>False)) E):run (uZ e g body σ) G QS E:=by
 refine ay (aq h (fun x G1 q=>?_) fun _ _ z=>z)
 obtain⟨n,kvs,rfl,hn,hr⟩:=q
 unfold M3.run vc
 dsimp only
 rw[hn]
 dsimp only
 unfold uG
 unfold M3.run at hr
 cases q:forL (fun _=>true) (fun x σ=>bnd (g x σ) body) (eK kvs) σ (G1.set n (.dF kvs))with
 |none=>rw[q]at hr;exact hr
 |some r=>
  obtain⟨o,G2⟩:=r
  rw[q]at hr
  cases o with
  |exc c=>exact absurd hr (by intro z;exact z)
  |ok p=>
   dsimp only at hr ⊢
   rw[if_pos hr.1]
   exact hr.2
def nr(p:Pr)(w:Wk):Wk:={w with aY:=some p.1}
def aU(y:Sy)(e:Nat×Nat):Sy:=match (y.ah.hs[e.1]?).bind (·.pair)with
 |none=>y
 |some p=>gU y e.2 (nr p)
def aH(y:Sy):Sy:=y.last.foldl aU y
def nK(y:Sy)(e:Nat×Nat):(aU y e).last=y.last/\(aU y e).ah=y.ah/\(aU y e).aE=y.aE/\(aU y e).af.length=y.af.length:=by
 unfold aU
 split
 · exact⟨rfl,rfl,rfl,rfl⟩
 · exact lC _ _ _
theorem bP:∀(l:List (Nat×Nat)) (y:Sy),(l.foldl aU y).last=y.last/\(l.foldl aU y).ah=y.ah/\(l.foldl aU y).aE=y.aE/\(l.foldl aU y).af.length=y.af.length
 | [],y=>⟨rfl,rfl,rfl,rfl⟩
 |e :: l,y=>by
  obtain⟨a,b,c,d⟩:=bP l (aU y e)
  obtain⟨a',b',c',d'⟩:=nK y e
  exact⟨a.trans a',b.trans b',c.trans c',d.trans d'⟩
def iq{n m:Nat}{o p:O}(h:(G.set n o)[m]? =some p)(hm:m≠n):G[m]? =some p:=by
 rw[qV_ (Ne.symm hm)]at h;exact h
def uJ{T:List Nat}{n:Nat}{o:O}(c:Chg T G G'):Chg T (G.set n o) (G'.set n o):=by
 refine⟨by simpa using c.1,fun m hm ht=>?_⟩
 have hm':m < G.length:=by simpa using hm
 by_cases z:m=n
 · subst z
   rw[qU_ hm',qU_ (qd_ hm' c.1)]
 · rw[qV_ (Ne.symm z),qV_ (Ne.symm z)]
   exact c.2 m hm' ht
def tp{n:Nat}{o p:O}(h:G[n]? =some o):(G.set n p).set n o=G:=by
 rw[List.set_set]
 apply List.ext_getElem?
 intro m
 by_cases z:m=n
 · subst z
   rw[qU_ (az h),h]
 · rw[qV_ (Ne.symm z)]
def qH(Y:cu G S y)(W:SWF y)(hq:∀G',Chg S.own G G'->cu G' S (aH y)->Q .non G'):run (cy [.ref S.s]) G Q E:=by
 obtain⟨n1,n2,n3,n4,n5⟩:=iu Y.nd
 have ho:=Y.o
 walk_at "f"
 unfold dB
 refine BF (w_fld (w_var rfl (bh ho (by decide) rfl ⟨S.ld,fP y.last,rfl,Y.d,?_⟩)))
 have hit:eK (fP y.last)=y.last.map fun e=>D.tup [.int (e.1:Int),.int (e.2:Int)]:=by
  unfold eK fP
  rw[qb_]
  rfl
 rw[hit]
 refine jK (fun i σ G'=>(∃a b c d,σ=[some (.ref S.s),a,b,c,d])/\G'[S.ld]? =some (.dF (fP y.last))/\Chg S.own G (G'.set S.ld (.dK (fP y.last)))/\cu (G'.set S.ld (.dK (fP y.last))) S ((y.last.take i).foldl aU y)) (fun _ _ _ _=>rfl) ?_ ?_ ⟨⟨_,_,_,_,rfl⟩,gC Y.d,by rw[tp Y.d];exact Chg.refl _ _,by rw[tp Y.d];exact Y⟩
 · rintro i e σ G' he ⟨⟨v1,v2,v3,v4,rfl⟩,hf,c,Y'⟩
   obtain⟨q1,q2,q3,q4⟩:=bP (y.last.take i) y
   have hem:=qD_ he
   obtain⟨l1,l2⟩:=W.la e hem
   rw[show (y.last.take (i+1)).foldl aU y=aU ((y.last.take i).foldl aU y) e by rw[take_succ he,List.foldl_append];rfl]
   generalize (y.last.take i).foldl aU y=y' at*
   have hh:y'.ah.hs[e.1]? =some y.ah.hs[e.1]:=by rw[q2];exact qA_ l1
   generalize y.ah.hs[e.1]=h at hh
   obtain⟨a,d,ha,hd,hat⟩:=Y'.H.hand hh
   have hso:∀x,x∈S.A.foot->x≠S.ld:=fun x hx z=>Y.dj S.ld (by simp [Sd.own]) (z ▸ hx)
   have o1:=iq Y'.o n2
   have w1:=iq Y'.w n3
   have ho1:=iq Y'.H.o (hso _ (by simp [Ad.foot]))
   have hh1:=iq Y'.H.h (hso _ (by simp [Ad.foot]))
   have ha1:=iq hat.1 (hso _ (tu ha))
   refine ay (wO rfl ?_)
   walk_at "s"
   refine aA (bB (w_fld (aD (w_fld (w_fld (w_var rfl (bh o1 (by decide) rfl (bh ho1 (by decide) rfl (w_var rfl (eE hh1 (iZ ha) (bh ha1 (by decide) rfl (w_next ?_))))))))))))
   walk_at "s"
   refine b8 (dI (lL (w_var rfl ?_)))
   lia
   rw[oj]
   cases hp:h.pair with
   |none=>
    have e1:aU y' e=y':=by unfold aU;rw[hh];dsimp only[Option.bind];rw[hp]
    rw[e1]
    dsimp only[Option.isNone]
    lia
    exact⟨⟨_,_,_,_,rfl⟩,hf,c,Y'⟩
   |some p=>
    have e1:aU y' e=gU y' e.2 (nr p):=by unfold aU;rw[hh];dsimp only[Option.bind];rw[hp]
    rw[e1]
    dsimp only[Option.isNone]
    have hw:y'.af[e.2]? =some (y'.af[e.2]'(by rw[q4];exact l2)):=qA_ _
    generalize y'.af[e.2]'(by rw[q4];exact l2)=w at hw
    obtain⟨b,hb,hwb⟩:=Y'.Hx hw
    have hbn:=n5 b (qD_ hb)
    have hwb1:=iq hwb hbn.2.2
    unfold wkF at hwb1
    lia
    refine eE w1 (iZ hb) ?_
    lia
    unfold opD pD
    lia
    refine aM hwb1 ⟨by decide,qP_ rfl⟩ fun G2 c2 g2 h2=>?_
    refine⟨⟨_,_,_,_,rfl⟩,c2.get hf (by intro z;simp at z;exact hbn.2.2 z.symm),?_,?_⟩
    · exact c.trans ((uJ c2).mono (by intro n hn;simp at hn;rw[hn];exact uh hb))
    · unfold gU
      rw[hw]
      refine Y'.HQ (w:=nr p w) hb (uJ c2) ?_
      show (G2.set S.ld _)[b]? =some (.ins 3 (wkF (nr p w)))
      rw[qV_ (Ne.symm hbn.2.2)]
      exact h2
 · rintro σ G' ⟨⟨v1,v2,v3,v4,rfl⟩,hf,c,Y'⟩
   refine⟨hf,?_⟩
   rw[List.take_length]at Y'
   lia
   exact hq _ c Y'
end
inductive bZ where
 |wr (i v:Int)
 |rd (i:Int)
 |ca (n:Int) (s:Bool)
 |pa (i j:Int)
 |sw
 |ag (i:Int)
 |qu (i:Int)
 |st (j:Int)
 |wa (j:Int)
def cF:bZ->D
 | .wr i v=>.tup [.str "write",.int i,.int v]
 | .rd i=>.tup [.str "read",.int i]
 | .ca n s=>.tup [.str "carry",.int n,.bl s]
 | .pa i j=>.tup [.str "pass",.int i,.int j]
 | .sw=>.tup [.str "sweep"]
 | .ag i=>.tup [.str "again",.int i]
 | .qu i=>.tup [.str "quit",.int i]
 | .st j=>.tup [.str "stop",.int j]
 | .wa j=>.tup [.str "wake",.int j]
inductive An where
 |one (d:D)
 |lst (ds:List D)
inductive Rs where
 |no (c:Nat)
 |ok (y:Sy) (a:An)
def inB(i:Int)(n:Nat):Option Nat:=if i < 0\/(n:Int)<=i then none else some i.toNat
def fH{i:Int}{n:Nat}(h:i < 0\/(n:Int)<=i):inB i n=none:=if_pos h
def mq{i:Int}{n j:Nat}(h:i=(j:Int))(hj:j < n):inB i n=some j:=by
 unfold inB
 rw[if_neg (by omega),h]
 rfl
def ar(y:Sy)(h:Hl):Sy:={y with ah:=h}
def endsF(y:Sy)(r:Hl×List (Nat×Pr)):Sy:=bt (ar y r.1) r.2
def pW(y:Sy)(r:Hl×List (Nat×Pr)):List D:=r.2.map (seD y)
def bN(y:Sy)(i:Int)(rd:Bool)(v:Option Int):Rs:=match inB i y.ah.hs.length with
 |none=>.no 1001
 |some j=>match y.ah.hs[j]? with
  |none=>.no 1001
  |some h=>if h.atw then .no 1004 else .ok (cq (ar y (bj y.ah j h v)) j rd v) (.one (.int (y.af.length:Int)))
def fF(y:Sy)(i:Int)(f:Nat->Hd->Rs):Rs:=match inB i y.ah.hs.length with
 |none=>.no 1001
 |some j=>match y.ah.hs[j]? with
  |none=>.no 1001
  |some h=>if h.atw then f j h else .no 1005
def lu(y:Sy)(i:Int)(f:Nat->Kr->Rs):Rs:=match inB i y.ah.ks.length with
 |none=>.no 1002
 |some j=>match y.ah.ks[j]? with
  |none=>.no 1002
  |some k=>f j k
def Bb:List D->D
 | []=>.non
 |d :: _=>d
def vJ(y:Sy)(n:Int):Nat:=(n % (y.ah.row.length:Int)).toNat
def doneF(y:Sy):bZ->Rs
 | .wr i v=>bN y i false (some v)
 | .rd i=>bN y i true none
 | .ca n s=>if y.ah.row=[]then .no 1003 else .ok (endsF y (aJ y.ah (vJ y n) s)) (.one (Bb (pW y (aJ y.ah (vJ y n) s))))
 | .pa i j=>match inB i y.ah.hs.length with
   |none=>.no 1001
   |some p=>match inB j y.ah.ks.length with
    |none=>.no 1002
    |some k=>.ok (endsF y (cP (cz p k) y.ah)) (.lst (pW y (cP (cz p k) y.ah)))
 | .sw=>.ok (endsF y (cP cT y.ah)) (.lst (pW y (cP cT y.ah)))
 | .ag i=>fF y i fun j h=>.ok (ar y {y.ah with row:=newRow y.ah h}) (.one (.int ((bp h).length:Int)))
 | .qu i=>fF y i fun j h=>.ok (ar y {y.ah with hs:=y.ah.hs.set j {h with atw:=false}}) (.one (.int (lastOf y.last j:Int)))
 | .st i=>lu y i fun j k=>.ok (ar y {y.ah with ks:=y.ah.ks.set j {k with up:=false}}) (.one (.bl k.up))
 | .wa i=>lu y i fun j k=>.ok (ar y {y.ah with ks:=y.ah.ks.set j {k with up:=true}}) (.one (.bl (!k.up)))
structure Iv (y:Sy):Prop where
 W:SWF y
 m:mea y.ah<=40*y.aE
 w:y.af.length<=y.aE
 l:y.last.length<=9
def Cw{y:Sy}(nd:(y.last.map (·.1)).Nodup)(la:∀e∈y.last,e.1 < y.ah.hs.length)(hs:y.ah.hs.length<=9):y.last.length<=9:=by
 have:=oU y.ah.hs.length (y.last.map (·.1)) nd (fun x hx=>by
  obtain⟨e,he,rfl⟩:=qH_.mp hx
  exact la e he)
 rw[qM_]at this
 omega
structure Hon (a b:Hl):Prop where
 W:WF b
 hl:b.hs.length=a.hs.length
 at':∀(i:Nat) g,b.hs[i]? =some g->g.atw=true->∃h,a.hs[i]? =some h/\h.atw=true
def Hon.swf{y:Sy}{b:Hl}(W:SWF y)(h:Hon y.ah b):SWF (ar y b):=by
 refine⟨h.W,fun e he=>⟨by show e.1 < b.hs.length;rw[h.hl];exact(W.la e he).1,(W.la e he).2⟩,W.nd,fun i g hi hg=>?_⟩
 obtain⟨x,h1,h2⟩:=h.at' i g hi hg
 exact W.atw i x h1 h2
def oS{a:Hl}(W:WF a)(p:Nat)(s:Bool):Hon a (aJ a p s).1:=by
 refine⟨gP W p s,?_,?_⟩
 · unfold aJ
   split
   · rfl
   · split
     · rfl
     · simp
   · split
     · rfl
     · rfl
 · intro i g
   unfold aJ
   split
   · exact fun h1 h2=>⟨g,h1,h2⟩
   · rename_i l hr
     split
     · exact fun h1 h2=>⟨g,h1,h2⟩
     · rename_i h hh
       intro h1 h2
       have h1:(a.hs.set l.hand (aL h l).1)[i]? =some g:=h1
       by_cases z:i=l.hand
       · subst z
         rw[qU_ (qB_.mp hh).1]at h1
         cases h1
         refine⟨h,hh,?_⟩
         revert h2
         unfold aL
         cases q:h.atw with
         |true=>exact fun _=>rfl
         |false=>intro h2;simp [q]at h2
       · rw[qV_ (Ne.symm z)]at h1
         exact⟨g,h1,h2⟩
   · split
     · exact fun h1 h2=>⟨g,h1,h2⟩
     · exact fun h1 h2=>⟨g,h1,h2⟩
theorem Hon.trans{a b c:Hl}(x:Hon a b)(y:Hon b c):Hon a c:=⟨y.W,y.hl.trans x.hl,fun i g h1 h2=>by
 obtain⟨g',h3,h4⟩:=y.at' i g h1 h2
 exact x.at' i g' h3 h4⟩
def Hon.refl{a:Hl}(W:WF a):Hon a a:=⟨W,rfl,fun _ g h1 h2=>⟨g,h1,h2⟩⟩
def oA{a:Hl}(p:Nat)(s:Bool):∀e∈(aJ a p s).2,∃h,a.hs[e.1]? =some h/\h.atw=true:=by
 intro e he
 unfold aJ at he
 split at he
 · cases he
 · split at he
   · cases he
   · rename_i l hr h hh
     dsimp only at he
     split at he
     · cases he
     · rename_i p hp
       simp at he
       subst he
       refine⟨h,hh,?_⟩
       unfold aL at hp
       cases q:h.atw with
       |true=>rfl
       |false=>simp [q]at hp
 · split at he <;> cases he
def gw{sel:Hl->Option Nat}(hs:Sel sel):∀(n:Nat) (a:Hl),WF a->mea a<=n->Hon a (cP sel a).1/\mea (cP sel a).1<=mea a/\∀e∈(cP sel a).2,∃h,a.hs[e.1]? =some h/\h.atw=true:=by
 intro n
 induction n with
 |zero=>
  intro a W hm
  cases q:sel a with
  |none=>rw[cM q];exact⟨Hon.refl W,qO_ _,by simp⟩
  |some p=>
   have:=bK W (hs a p q)
   omega
 |succ n ih=>
  intro a W hm
  cases q:sel a with
  |none=>rw[cM q];exact⟨Hon.refl W,qO_ _,by simp⟩
  |some p=>
   rw[iB hs W q]
   have h1:=bK W (hs a p q)
   have c:=oS W p false
   obtain⟨i1,i2,i3⟩:=ih (aJ a p false).1 c.W (by omega)
   refine⟨c.trans i1,by dsimp only;omega,fun e he=>?_⟩
   rcases qG_.mp he with z |z
   · exact oA p false e z
   · obtain⟨h,h2,h3⟩:=i3 e z
     exact c.at' _ h h2 h3
def xq{st:Hl}(W:WF st){j:Nat}{h h':Hd}(hj:st.hs[j]? =some h)(ok:HOK st.ks.length j h')(hr:h.rnd<=h'.rnd)(hp:h'.rnd=h.rnd->h'.pair=h.pair):WF {st with hs:=st.hs.set j h'}:=by
 have hlt:=(qB_.mp hj).1
 refine⟨fun i g hg=>?_,fun e he=>?_,W.ksz,by show (st.hs.set j h').length<=9;simpa using W.hsz⟩
 · have hg:(st.hs.set j h')[i]? =some g:=hg
   by_cases z:i=j
   · subst z
     rw[qU_ hlt]at hg
     cases hg
     exact ok
   · rw[qV_ (Ne.symm z)]at hg
     exact W.hk i g hg
 · obtain⟨g,h1,h2,h3,h4⟩:=W.rw e he
   by_cases z:e.2.hand=j
   · rw[z]at h1
     rw[hj]at h1
     cases h1
     refine⟨h',by show (st.hs.set j h')[e.2.hand]? =some h';rw[z];exact qU_ hlt,h2,by omega,fun w=>?_⟩
     have e1:h'.rnd=h.rnd:=by omega
     rw[hp e1]
     exact h4 (by omega)
   · exact⟨g,by show (st.hs.set j h')[e.2.hand]? =some g;rw[qV_ (Ne.symm z)];exact h1,h2,h3,h4⟩
def wV{st:Hl}(W:WF st)(j:Nat)(k:Kr):WF {st with ks:=st.ks.set j k}:=by
 have hl:(st.ks.set j k).length=st.ks.length:=by simp
 refine⟨fun i g hg=>?_,fun e he=>?_,by show (st.ks.set j k).length<=9;rw[hl];exact W.ksz,W.hsz⟩
 · have:=W.hk i g hg
   show g.num=i/\g.cnt=(st.ks.set j k).length/\_
   rw[hl]
   exact this
 · have:=W.rw e he
   show ∃h,st.hs[e.2.hand]? =some h/\e.2.kpr < (st.ks.set j k).length/\_
   rw[hl]
   exact this
def zK{st:Hl}(W:WF st){j:Nat}{h:Hd}(hj:st.hs[j]? =some h):WF {st with row:=newRow st h}:=by
 refine⟨W.hk,fun e he=>?_,W.ksz,W.hsz⟩
 have he:e∈st.row++(bp h).map fun x=>(false,x):=he
 rcases qG_.mp he with z |z
 · exact W.rw e z
 · obtain⟨x,hx,rfl⟩:=qH_.mp z
   obtain⟨a,b,c,d⟩:=oQ (W.hok hj) hx
   dsimp only
   refine⟨h,by rw[a];exact hj,b,by omega,fun _=>⟨fun _=>d,fun q=>by cases q⟩⟩
def Bh{st:Hl}(W:WF st){j:Nat}{h:Hd}(hj:st.hs[j]? =some h)(v:Option Int):WF (bj st j h v):=by
 have hlt:=(qB_.mp hj).1
 have ok:=W.hok hj
 have W1:WF {st with hs:=st.hs.set j (aZ h v)}:=xq W hj (uo (by exact ok.2.1) (by exact ok.1) none) (by show h.rnd<=h.rnd+1;omega) (fun z=>by have z:h.rnd+1=h.rnd:=z;omega)
 exact zK W1 (by show (st.hs.set j (aZ h v))[j]? =_;exact qU_ hlt)
def wX(st:Hl)(h:Hd)(hc:h.cnt<=9):((newRow st h).map wt).sum<=(st.row.map wt).sum+18:=by
 unfold newRow
 rw[qT_,List.sum_append,nN]
 have:=gW h
 omega
def ES(h:Hd):pot h<=2*h.cnt:=by unfold pot;split <;> omega
def xF{st:Hl}(W:WF st){j:Nat}{h:Hd}(hj:st.hs[j]? =some h)(v:Option Int):mea (bj st j h v)<=mea st+36:=by
 have ok:=(W.hok hj).2.1
 have hk:=W.ksz
 have hc:(aZ h v).cnt<=9:=by show h.cnt<=9;omega
 have a:=wX st (aZ h v) hc
 have b:=sum_set (g:=aZ h v) hj
 have c:=ES (aZ h v)
 show ((newRow st (aZ h v)).map wt).sum+((st.hs.set j (aZ h v)).map pot).sum<=mea st+36
 unfold mea
 omega
def yj{st:Hl}(W:WF st){j:Nat}{h:Hd}(hj:st.hs[j]? =some h):mea {st with row:=newRow st h}<=mea st+18:=by
 have ok:=(W.hok hj).2.1
 have hk:=W.ksz
 have a:=wX st h (by omega)
 show ((newRow st h).map wt).sum+(st.hs.map pot).sum<=mea st+18
 unfold mea
 omega
def zr{st:Hl}{j:Nat}{h:Hd}(hj:st.hs[j]? =some h):mea {st with hs:=st.hs.set j {h with atw:=false}}<=mea st:=by
 have b:=sum_set (g:={h with atw:=false}) hj
 have c:pot {h with atw:=false}=0:=by unfold pot;rfl
 show (st.row.map wt).sum+((st.hs.set j {h with atw:=false}).map pot).sum<=mea st
 unfold mea
 omega
structure Iv1 (y z:Sy):Prop where
 W:SWF z
 d:z.aE=y.aE
 m:mea z.ah<=40*y.aE+40
 w:z.af.length<=y.aE+1
 l:z.last.length<=9
 hl:z.ah.hs.length=y.ah.hs.length
 kl:z.ah.ks.length=y.ah.ks.length
def Iv.same{y:Sy}(I:Iv y):Iv1 y y:=⟨I.W,rfl,by have:=I.m;omega,by have:=I.w;omega,I.l,rfl,rfl⟩
def qZ{y z:Sy}(I:Iv1 y z)(es:List (Nat×Pr)):Iv1 y (bt z es):=by
 obtain⟨q1,q2,q3,q4⟩:=eD es z
 exact⟨⟨by rw[q2];exact I.W.W,by rw[q1,q2,q4];exact I.W.la,by rw[q1];exact I.W.nd,by rw[q1,q2];exact I.W.atw⟩,q3.trans I.d,by rw[q2];exact I.m,by rw[q4];exact I.w,by rw[q1];exact I.l,by rw[q2];exact I.hl,by rw[q2];exact I.kl⟩
def kx{y:Sy}(I:Iv y){b:Hl}(h:Hon y.ah b)(hm:mea b<=mea y.ah+40)(hk:b.ks.length=y.ah.ks.length):Iv1 y (ar y b):=
 ⟨h.swf I.W,rfl,by have:=I.m;show mea b<=_;omega,by have:=I.w;show y.af.length<=_;omega,I.l,h.hl,hk⟩
def kb(l:List (Nat×Nat))(k p:Nat):(putL l k p).map (·.1)=if (l.any fun e=>decide (e.1=k))then l.map (·.1)else l.map (·.1)++[k]:=by
 unfold putL
 split
 · rw[qb_]
   apply List.map_congr_left
   intro e _
   show (if e.1=k then (e.1,p)else e).1=e.1
   split <;> rfl
 · simp
def Bt{l:List (Nat×Nat)}{k p:Nat}(h:(l.map (·.1)).Nodup):((putL l k p).map (·.1)).Nodup:=by
 rw[kb]
 split
 · exact h
 · rename_i q
   rw[List.nodup_append]
   refine⟨h,by simp,fun a ha b hb w=>q ?_⟩
   simp at hb
   obtain⟨e,he,e1⟩:=qH_.mp ha
   rw[List.any_eq_true]
   exact⟨e,he,qZ_ (by rw[e1,w,hb])⟩
def By{l:List (Nat×Nat)}{k p i:Nat}(h:i=k\/i∈l.map (·.1)):i∈(putL l k p).map (·.1):=by
 rw[kb]
 split
 · rename_i q
   rcases h with rfl |h
   · rw[List.any_eq_true]at q
     obtain⟨e,he,e1⟩:=q
     exact qH_.mpr ⟨e,he,of_decide_eq_true e1⟩
   · exact h
 · rcases h with rfl |h
   · simp
   · exact qF_ _ h
def AA{y:Sy}(I:Iv y){j:Nat}{h:Hd}(hj:y.ah.hs[j]? =some h)(rd:Bool)(v:Option Int):Iv1 y (cq (ar y (bj y.ah j h v)) j rd v):=by
 have hlt:=(qB_.mp hj).1
 have W:=I.W
 have wf:=Bh W.W hj v
 have hl:(bj y.ah j h v).hs.length=y.ah.hs.length:=by show (y.ah.hs.set j _).length=_;simp
 have la:∀e∈putL y.last j y.af.length,e.1 < y.ah.hs.length/\e.2 < y.af.length+1:=by
  intro e he
  rcases mB he with z |z
  · rw[z];exact⟨hlt,by dsimp only;omega⟩
  · have:=W.la e z;exact⟨this.1,by omega⟩
 have nd:=Bt (k:=j) (p:=y.af.length) W.nd
 refine⟨⟨wf,fun e he=>?_,nd,fun i g hg ha=>?_⟩,rfl,?_,?_,?_,hl,rfl⟩
 · have:=la e he
   refine⟨by show e.1 < (bj y.ah j h v).hs.length;rw[hl];exact this.1,?_⟩
   show e.2 < (y.af++[_]).length
   simpa using this.2
 · refine By ?_
   by_cases z:i=j
   · exact .inl z
   · have hg:(y.ah.hs.set j (aZ h v))[i]? =some g:=hg
     rw[qV_ (Ne.symm z)]at hg
     exact .inr (W.atw i g hg ha)
 · have:=xF W.W hj v
   have:=I.m
   show mea (bj y.ah j h v)<=_
   omega
 · have:=I.w
   show (y.af++[_]).length<=_
   simp
   omega
 · have:=Cw (y:={y with last:=putL y.last j y.af.length}) nd (fun e he=>(la e he).1) W.W.hsz
   exact this
def wG(a:Hl)(p:Nat)(s:Bool):(aJ a p s).1.ks.length=a.ks.length:=by
 unfold aJ
 split
 · rfl
 · split <;> rfl
 · split
   · rfl
   · simp
def Ce{sel:Hl->Option Nat}(hs:Sel sel):∀(n:Nat) (a:Hl),WF a->mea a<=n->(cP sel a).1.ks.length=a.ks.length:=by
 intro n
 induction n with
 |zero=>
  intro a W hm
  cases q:sel a with
  |none=>rw[cM q]
  |some p=>
   have:=bK W (hs a p q)
   omega
 |succ n ih=>
  intro a W hm
  cases q:sel a with
  |none=>rw[cM q]
  |some p=>
   rw[iB hs W q]
   have h1:=bK W (hs a p q)
   exact(ih (aJ a p false).1 (gP W p false) (by omega)).trans (wG a p false)
def xk{y:Sy}(I:Iv y)(d:bZ){z:Sy}{a:An}(h:doneF y d= .ok z a):Iv1 y z:=by
 have W:=I.W
 have bg:∀{i rd v},bN y i rd v= .ok z a->Iv1 y z:=by
  intro i rd v h
  unfold bN at h
  split at h
  · cases h
  · split at h
    · cases h
    · rename_i j _ _ g hg
      split at h
      · cases h
      · cases h
        exact AA I hg rd v
 have rn:∀{sel:Hl->Option Nat},Sel sel->Iv1 y (endsF y (cP sel y.ah)):=by
  intro sel hs
  obtain⟨i1,i2,i3⟩:=gw hs (mea y.ah) y.ah W.W (qO_ _)
  exact qZ (kx I i1 (by omega) (Ce hs _ _ W.W (qO_ _))) _
 cases d with
 |wr i v=>exact bg h
 |rd i=>exact bg h
 |ca n s=>
  unfold doneF at h
  dsimp only at h
  split at h
  · cases h
  · rename_i hne
    cases h
    refine qZ (kx I (oS W.W _ _) ?_ (wG _ _ _)) _
    have hp:vJ y n < y.ah.row.length:=by
     unfold vJ
     have:0 < y.ah.row.length:=List.length_pos_iff.mpr hne
     have h1:=Int.emod_nonneg n (b:=(y.ah.row.length:Int)) (by omega)
     have h2:=Int.emod_lt_of_pos n (b:=(y.ah.row.length:Int)) (by omega)
     omega
    have:=uK W.W (s:=s) (qA_ hp)
    split at this <;> omega
 |pa i j=>
  unfold doneF at h
  dsimp only at h
  split at h
  · cases h
  · split at h
    · cases h
    · cases h
      exact rn (bM _ _)
 |sw=>
  unfold doneF at h
  dsimp only at h
  cases h
  exact rn bG
 |ag i=>
  unfold doneF fF at h
  dsimp only at h
  split at h
  · cases h
  · split at h
    · cases h
    · rename_i j _ _ g hg
      split at h
      · cases h
        exact kx I ⟨zK W.W hg,rfl,fun i g h1 h2=>⟨g,h1,h2⟩⟩ (by have:=yj W.W hg;omega) rfl
      · cases h
 |qu i=>
  unfold doneF fF at h
  dsimp only at h
  split at h
  · cases h
  · split at h
    · cases h
    · rename_i j _ _ g hg
      split at h
      · cases h
        have hlt:=(qB_.mp hg).1
        have ok:=W.W.hok hg
        refine kx I ⟨xq W.W hg (h':={g with atw:=false}) ok (Int.le_refl _) (fun _=>rfl),by show (y.ah.hs.set j _).length=_;simp,fun i g' h1 h2=>?_⟩ (by have:=zr hg;omega) rfl
        have h1:(y.ah.hs.set j {g with atw:=false})[i]? =some g':=h1
        by_cases q:i=j
        · subst q
          rw[qU_ hlt]at h1
          cases h1
          cases h2
        · rw[qV_ (Ne.symm q)]at h1
          exact⟨g',h1,h2⟩
      · cases h
 |st i=>
  unfold doneF lu at h
  dsimp only at h
  split at h
  · cases h
  · split at h
    · cases h
    · cases h
      exact kx I ⟨wV W.W _ _,rfl,fun i g h1 h2=>⟨g,h1,h2⟩⟩ (by show mea y.ah<=_;omega) (by show (y.ah.ks.set _ _).length=_;simp)
 |wa i=>
  unfold doneF lu at h
  dsimp only at h
  split at h
  · cases h
  · split at h
    · cases h
    · cases h
      exact kx I ⟨wV W.W _ _,rfl,fun i g h1 h2=>⟨g,h1,h2⟩⟩ (by show mea y.ah<=_;omega) (by show (y.ah.ks.set _ _).length=_;simp)
def Sd.all(S:Sd):List Nat:=S.own++S.A.foot
structure Sd.To (S S':Sd) (n:Nat):Prop where
 s:S'.s=S.s
 z:∀x∈S'.all,x∈S.all\/n<=x
def Sd.To.refl(S:Sd)(n:Nat):S.To S n:=⟨rfl,fun _ h=>.inl h⟩
def Sd.To.ah(S:Sd){A':Ad}{n:Nat}(t:S.A.To A' n):S.To {S with A:=A'} n:=by
 refine⟨rfl,fun x hx=>?_⟩
 rcases qG_.mp hx with w |w
 · exact .inl (qF_ _ w)
 · exact(t.foot x w).elim (fun q=>.inl (qE_ _ q)) .inr
def uV(S:Sd)(n:Nat)(G:Hh)(a:An)(v:D):Prop:=match a with
 | .one d=>v=d
 | .lst ds=>∃l,v= .ref l/\n<=l/\l∉S.all/\G[l]? =some (.lst ds)
section
variable{G G':Hh}{Q:D->Hh->Prop}{E:Nat->Hh->Prop}{S:Sd}{y:Sy}{σ:St}{QS:Fl×St->Hh->Prop}
def cu.ltA(Y:cu G S y):∀n∈S.all,n < G.length:=fun n hn=>(qG_.mp hn).elim (Y.lt n) (Y.H.lt n)
def ba{u w:Str}{A B:S3}(hv:σ[2]? =some (some (.str u)))(hn:decide (u=w)=false)(h:M3.run (B σ) G QS E):M3.run (aw (sIf (tB (eOp oEq (aa 2) (eC (.str w)))) A bf) B σ) G QS E:=by
 refine aA (b8 (dI (aD (w_var hv (w_c (w_eq (b:=false) ?_ (cn ?_)))))))
 · show some (decide (u=w))=some false
   rw[hn]
 · rw[if_neg qC_]
   exact cZ (w_next h)
def ke{u w:Str}{A B:S3}(hv:σ[2]? =some (some (.str u)))(hn:decide (u=w)=true)(h:M3.run (A σ) G (fun r G1=>M3.run (sK B r) G1 QS E) E):M3.run (aw (sIf (tB (eOp oEq (aa 2) (eC (.str w)))) A bf) B σ) G QS E:=by
 refine aA (b8 (dI (aD (w_var hv (w_c (w_eq (b:=true) ?_ (cn ?_)))))))
 · show some (decide (u=w))=some true
   rw[hn]
 · rw[if_pos rfl]
   exact h
def Ey{n:Nat}{xs:List D}{QB:Bool->Hh->Prop}(hn:G[n]? =some (.lst xs))(h:QB (!xs.isEmpty) G):M3.run (truth (.ref n)) G QB E:=by
 refine aP (a:=!xs.isEmpty) (G':=G) ?_ h
 unfold truth
 dsimp only
 rw[hn]
def nJ{i:Int}{j:Nat}{h:Hd}(e:i=(j:Int))(hj:y.ah.hs[j]? =some h):inB i y.ah.hs.length=some j:=mq e (qB_.mp hj).1
def Dn{i:Int}{j:Nat}{k:Kr}(e:i=(j:Int))(hj:y.ah.ks[j]? =some k):inB i y.ah.ks.length=some j:=mq e (qB_.mp hj).1
def AY(Y:cu G S y):G[S.A.a]? =some (.ins 2 [(9,.ref S.A.lk),(10,.ref S.A.lh),(11,.ref S.A.lr)]):=Y.H.o
def wj{r:Hl×List (Nat×Pr)}{A':Ad}{G1:Hh}{le:Nat}(I:Iv y)(Y:cu G S y)(c:Chg S.A.foot G G1)(to:S.A.To A' G.length)(hl:G.length<=le)(H:bw G1 A' r.1)(h:G1[le]? =some (.lst (r.2.map pQ)))
 (hon:Hon y.ah r.1) (hat:∀e∈r.2,∃h,y.ah.hs[e.1]? =some h/\h.atw=true) (hz:r.2.length<=1000000)
 (hq:∀l2 S' G',S'.s=S.s->Chg S.all G G'->S.To S' G.length->cu G' S' (endsF y r)->G.length<=l2->l2∉S'.all->G'[l2]? =some (.lst (pW y r))->Q (.ref l2) G'):M3.run (bA [.ref S.s,.ref le]) G1 Q E:=by
 have Y1:=Y.ah c to H
 have W1:SWF (ar y r.1):=hon.swf I.W
 refine uI (S:={S with A:=A'}) (y:=ar y r.1) Y1 W1 h (fun z=>?_) hz (fun e he=>?_) fun l2 G2 c2 hl2 Y2 h2=>?_
 · have:=Y.lt le z;omega
 · obtain⟨g,h1,h2⟩:=hat e he
   exact I.W.atw _ g h1 h2
 · have c1:=c.1
   refine hq l2 {S with A:=A'} G2 rfl ((c.mono fun n hn=>qE_ _ hn).trans (c2.mono fun n hn=>qF_ _ hn)) (Sd.To.ah S to) Y2 (by omega) (fun z=>?_) h2
   have:=Y1.ltA l2 z
   omega
def Ep{d:bZ}(I:Iv y)(hd:y.aE<=1000)(Y:cu G S y)
 (hE:∀c G',doneF y d= .no c->Chg [] G G'->E c G')
 (hq:∀v S' G' z a,doneF y d= .ok z a->Chg S.all G G'->S.To S' G.length->cu G' S' z->uV S' G.length G' a v->Q v G'):M3.run (fX [.ref S.s,cF d]) G Q E:=by
 have W:=I.W
 have hm:mea y.ah<=800000:=by have:=I.m;omega
 have ho:=Y.o
 have hH:=AY Y
 have r0:=Chg.refl [] G
 walk_at "f"
 unfold iR
 cases d with
 |wr i v=>
  unfold cF
  refine aA (bB (aD (w_var rfl (w_c (bi rfl (w_next ?_))))))
  walk_at "s"
  refine ke rfl (by decide) ?_
  refine aA (dZ (bu (w_fld (w_var rfl (bh ho (by decide) rfl (bU hH (aj (aD (w_var rfl (w_c (bi rfl (aj (aD (w_var rfl (w_c (bi rfl (aB ?_)))))))))))))))))
  refine Cj Y.H W.W hm (fun z=>hE _ _ ?_ r0) (fun j h e hj ha=>hE _ _ ?_ r0) fun j h e hj ha A' G1 c1 to H1=>?_
  · show bN y i false (some v)=_
    unfold bN
    rw[fH z]
  · show bN y i false (some v)=_
    unfold bN
    rw[nJ e hj]
    dsimp only
    rw[hj]
    dsimp only
    rw[if_pos ha]
  · have eR:doneF y (.wr i v)= .ok (cq (ar y (bj y.ah j h (some v))) j false (some v)) (.one (.int (y.af.length:Int))):=by
     show bN y i false (some v)=_
     unfold bN
     rw[nJ e hj]
     dsimp only
     rw[hj]
     dsimp only
     rw[if_neg (by rw[ha];exact qC_)]
    have Y1:=Y.ah c1 to H1
    have ho1:=Y1.o
    subst e
    lia
    refine nI (S:={S with A:=A'}) (rd:=false) (v:=some v) Y1 (by have:=I.w;show y.af.length<=1000;omega) (by have:=I.l;show y.last.length<=1000;omega) fun a G2 c2 hl Y2=>?_
    have g1:=c1.1
    have Y1l:=Y1.ltA
    lia
    refine hq _ {S with A:=A',wa:=S.wa++[a]} G2 _ _ eR ((c1.mono fun n hn=>qE_ _ hn).trans' c2 fun n hn=>(Sd.To.ah S to).z n hn) ⟨rfl,fun x hx=>?_⟩ Y2 rfl
    have hx:x∈([S.s,S.lw,S.ld]++(S.wa++[a]))++A'.foot:=hx
    rcases qG_.mp hx with w |w
    · rw[<-List.append_assoc]at w
      rcases qG_.mp w with w |w
      · exact .inl (qF_ _ w)
      · simp at w;exact .inr (by omega)
    · exact(to.foot x w).elim (fun q=>.inl (qE_ _ q)) .inr
 |rd i=>
  unfold cF
  refine aA (bB (aD (w_var rfl (w_c (bi rfl (w_next ?_))))))
  walk_at "s"
  refine ba rfl (by decide) ?_
  refine ke rfl (by decide) ?_
  refine aA (dZ (bu (w_fld (w_var rfl (bh ho (by decide) rfl (bU hH (aj (aD (w_var rfl (w_c (bi rfl (aB ?_))))))))))))
  refine Ek Y.H W.W hm (fun z=>hE _ _ ?_ r0) (fun j h e hj ha=>hE _ _ ?_ r0) fun j h e hj ha A' G1 c1 to H1=>?_
  · show bN y i true none=_
    unfold bN
    rw[fH z]
  · show bN y i true none=_
    unfold bN
    rw[nJ e hj]
    dsimp only
    rw[hj]
    dsimp only
    rw[if_pos ha]
  · have eR:doneF y (.rd i)= .ok (cq (ar y (bj y.ah j h none)) j true none) (.one (.int (y.af.length:Int))):=by
     show bN y i true none=_
     unfold bN
     rw[nJ e hj]
     dsimp only
     rw[hj]
     dsimp only
     rw[if_neg (by rw[ha];exact qC_)]
    have Y1:=Y.ah c1 to H1
    have ho1:=Y1.o
    subst e
    lia
    refine nI (S:={S with A:=A'}) (rd:=true) (v:=none) Y1 (by have:=I.w;show y.af.length<=1000;omega) (by have:=I.l;show y.last.length<=1000;omega) fun a G2 c2 hl Y2=>?_
    have g1:=c1.1
    have Y1l:=Y1.ltA
    lia
    refine hq _ {S with A:=A',wa:=S.wa++[a]} G2 _ _ eR ((c1.mono fun n hn=>qE_ _ hn).trans' c2 fun n hn=>(Sd.To.ah S to).z n hn) ⟨rfl,fun x hx=>?_⟩ Y2 rfl
    have hx:x∈([S.s,S.lw,S.ld]++(S.wa++[a]))++A'.foot:=hx
    rcases qG_.mp hx with w |w
    · rw[<-List.append_assoc]at w
      rcases qG_.mp w with w |w
      · exact .inl (qF_ _ w)
      · simp at w;exact .inr (by omega)
    · exact(to.foot x w).elim (fun q=>.inl (qE_ _ q)) .inr
 |ca n s=>
  unfold cF
  refine aA (bB (aD (w_var rfl (w_c (bi rfl (w_next ?_))))))
  walk_at "s"
  refine ba rfl (by decide) ?_
  refine ba rfl (by decide) ?_
  refine ke rfl (by decide) ?_
  refine aA (bB (bu (w_var rfl (bU ho (aj (bu (w_fld (w_var rfl (bh ho (by decide) rfl (bU hH (aj (aD (w_var rfl (w_c (bi rfl (aj (aD (w_var rfl (w_c (bi rfl (aB ?_)))))))))))))))))))))
  refine Bq Y.H W.W hm (fun z=>hE _ _ (if_pos z) r0) fun p hp hlt le A' G1 c1 to hl H1 h1=>aB ?_
  have eR:doneF y (.ca n s)= .ok (endsF y (aJ y.ah p s)) (.one (Bb (pW y (aJ y.ah p s)))):=by
   subst hp
   exact if_neg (by intro z;rw[z]at hlt;simp at hlt)
  have hln:=ky y.ah p s
  refine wj I Y c1 to hl H1 h1 (oS W.W p s) (oA p s) (by omega) fun l2 S' G2 hs c2 to2 Y2 hl2 hn2 h2=>?_
  lia
  refine Ey h2 ?_
  cases q:pW y (aJ y.ah p s)with
  |nil=>
   dsimp only[List.isEmpty]
   lia
   exact hq _ S' G2 _ _ eR c2 to2 Y2 (by rw[q];rfl)
  |cons x r=>
   rw[q]at h2
   dsimp only[List.isEmpty]
   lia
   refine eE h2 (show atI (x :: r) 0=some x from ?_) ?_
   · unfold atI M3.ixN
     simp
   lia
   exact hq _ S' G2 _ _ eR c2 to2 Y2 (by rw[q];rfl)
 |pa i j=>
  unfold cF
  refine aA (bB (aD (w_var rfl (w_c (bi rfl (w_next ?_))))))
  walk_at "s"
  refine ba rfl (by decide) ?_
  refine ba rfl (by decide) ?_
  refine ba rfl (by decide) ?_
  refine ke rfl (by decide) ?_
  refine bI (bu (w_var rfl (bU ho (aj (bu (w_fld (w_var rfl (bh ho (by decide) rfl (bU hH (aj (aD (w_var rfl (w_c (bi rfl (aj (aD (w_var rfl (w_c (bi rfl (aB ?_))))))))))))))))))))
  refine nY Y.H W.W hm (fun z=>hE _ _ ?_ r0) (fun z1 z2=>hE _ _ ?_ r0) fun p k e1 e2 h1 h2 le A' G1 c1 to hl hn H1 g1=>aB ?_
  · unfold doneF
    dsimp only
    rw[fH z]
  · unfold doneF
    dsimp only
    have:inB i y.ah.hs.length=some i.toNat:=by unfold inB;rw[if_neg z1]
    rw[this]
    dsimp only
    rw[fH z2]
  have eR:doneF y (.pa i j)= .ok (endsF y (cP (cz p k) y.ah)) (.lst (pW y (cP (cz p k) y.ah))):=by
   unfold doneF
   dsimp only
   rw[mq e1 h1]
   dsimp only
   rw[mq e2 h2]
  have hln:=lU (bM p k) (mea y.ah) y.ah W.W (qO_ _)
  obtain⟨i1,i2,i3⟩:=gw (bM p k) (mea y.ah) y.ah W.W (qO_ _)
  refine wj I Y c1 to hl H1 g1 i1 i3 (by omega) fun l2 S' G2 hs c2 to2 Y2 hl2 hn2 h2=>?_
  lia
  exact hq _ S' G2 _ _ eR c2 to2 Y2 ⟨l2,rfl,hl2,hn2,h2⟩
 |sw=>
  unfold cF
  refine aA (bB (aD (w_var rfl (w_c (bi rfl (w_next ?_))))))
  walk_at "s"
  refine ba rfl (by decide) ?_
  refine ba rfl (by decide) ?_
  refine ba rfl (by decide) ?_
  refine ba rfl (by decide) ?_
  refine ke rfl (by decide) ?_
  refine bI (bu (w_var rfl (bU ho (aj (bu (w_fld (w_var rfl (bh ho (by decide) rfl (bU hH (aB ?_))))))))))
  refine Bw Y.H W.W hm fun le A' G1 c1 to hl hn H1 g1=>aB ?_
  have hln:=lU bG (mea y.ah) y.ah W.W (qO_ _)
  obtain⟨i1,i2,i3⟩:=gw bG (mea y.ah) y.ah W.W (qO_ _)
  refine wj I Y c1 to hl H1 g1 i1 i3 (by omega) fun l2 S' G2 hs c2 to2 Y2 hl2 hn2 h2=>?_
  lia
  exact hq _ S' G2 _ _ rfl c2 to2 Y2 ⟨l2,rfl,hl2,hn2,h2⟩
 |ag i=>
  unfold cF
  refine aA (bB (aD (w_var rfl (w_c (bi rfl (w_next ?_))))))
  walk_at "s"
  refine ba rfl (by decide) ?_
  refine ba rfl (by decide) ?_
  refine ba rfl (by decide) ?_
  refine ba rfl (by decide) ?_
  refine ba rfl (by decide) ?_
  refine ke rfl (by decide) ?_
  refine bI (bu (w_fld (w_var rfl (bh ho (by decide) rfl (bU hH (aj (aD (w_var rfl (w_c (bi rfl (aB ?_)))))))))))
  refine Bm Y.H W.W hm (fun z=>hE _ _ ?_ r0) (fun j h e hj ha G1 c1=>hE _ _ ?_ c1) fun j h e hj ha G1 c1 H1=>?_
  · unfold doneF fF
    dsimp only
    rw[fH z]
  · unfold doneF fF
    dsimp only
    rw[nJ e hj]
    dsimp only
    rw[hj]
    dsimp only
    rw[if_neg (by rw[ha];exact qC_)]
  · have eR:doneF y (.ag i)= .ok (ar y {y.ah with row:=newRow y.ah h}) (.one (.int ((bp h).length:Int))):=by
     unfold doneF fF
     dsimp only
     rw[nJ e hj]
     dsimp only
     rw[hj]
     dsimp only
     rw[if_pos ha]
    have to:=Ad.To.refl S.A G.length
    lia
    exact hq _ S G1 _ _ eR (c1.mono fun n hn=>qE_ _ hn) (Sd.To.refl _ _) (Y.ah c1 to H1) rfl
 |qu i=>
  unfold cF
  refine aA (bB (aD (w_var rfl (w_c (bi rfl (w_next ?_))))))
  walk_at "s"
  refine ba rfl (by decide) ?_
  refine ba rfl (by decide) ?_
  refine ba rfl (by decide) ?_
  refine ba rfl (by decide) ?_
  refine ba rfl (by decide) ?_
  refine ba rfl (by decide) ?_
  refine ke rfl (by decide) ?_
  refine aA (dZ (bu (w_fld (w_var rfl (bh ho (by decide) rfl (bU hH (aj (aD (w_var rfl (w_c (bi rfl (aB ?_))))))))))))
  refine Cn Y.H (fun z=>hE _ _ ?_ r0) (fun j h e hj ha=>hE _ _ ?_ r0) fun j h e hj ha G1 c1 H1=>?_
  · unfold doneF fF
    dsimp only
    rw[fH z]
  · unfold doneF fF
    dsimp only
    rw[nJ e hj]
    dsimp only
    rw[hj]
    dsimp only
    rw[if_neg (by rw[ha];exact qC_)]
  · have eR:doneF y (.qu i)= .ok (ar y {y.ah with hs:=y.ah.hs.set j {h with atw:=false}}) (.one (.int (lastOf y.last j:Int))):=by
     unfold doneF fF
     dsimp only
     rw[nJ e hj]
     dsimp only
     rw[hj]
     dsimp only
     rw[if_pos ha]
    have Y1:=Y.ah c1 (Ad.To.refl S.A G.length) H1
    have ho1:=Y1.o
    have hl:=qY W.nd (ek (W.atw j h hj ha))
    subst e
    refine w_next (bI (aD (w_fld (w_var rfl (bh ho1 (by decide) rfl (aD (w_var rfl (w_c (bi rfl (C7 Y1.d rfl hl ?_))))))))))
    lia
    exact hq _ S G1 _ _ eR (c1.mono fun n hn=>qE_ _ hn) (Sd.To.refl _ _) Y1 rfl
 |st i=>
  unfold cF
  refine aA (bB (aD (w_var rfl (w_c (bi rfl (w_next ?_))))))
  walk_at "s"
  refine ba rfl (by decide) ?_
  refine ba rfl (by decide) ?_
  refine ba rfl (by decide) ?_
  refine ba rfl (by decide) ?_
  refine ba rfl (by decide) ?_
  refine ba rfl (by decide) ?_
  refine ba rfl (by decide) ?_
  refine ke rfl (by decide) ?_
  refine bI (bu (w_fld (w_var rfl (bh ho (by decide) rfl (bU hH (aj (aD (w_var rfl (w_c (bi rfl (aB ?_)))))))))))
  refine qF Y.H (fun z=>hE _ _ ?_ r0) fun j k e hj G1 c1 H1=>?_
  · unfold doneF lu
    dsimp only
    rw[fH z]
  · have eR:doneF y (.st i)= .ok (ar y {y.ah with ks:=y.ah.ks.set j {k with up:=false}}) (.one (.bl k.up)):=by
     unfold doneF lu
     dsimp only
     rw[Dn e hj]
     dsimp only
     rw[hj]
    lia
    exact hq _ S G1 _ _ eR (c1.mono fun n hn=>qE_ _ hn) (Sd.To.refl _ _) (Y.ah c1 (Ad.To.refl S.A G.length) H1) rfl
 |wa i=>
  unfold cF
  refine aA (bB (aD (w_var rfl (w_c (bi rfl (w_next ?_))))))
  walk_at "s"
  refine ba rfl (by decide) ?_
  refine ba rfl (by decide) ?_
  refine ba rfl (by decide) ?_
  refine ba rfl (by decide) ?_
  refine ba rfl (by decide) ?_
  refine ba rfl (by decide) ?_
  refine ba rfl (by decide) ?_
  refine ba rfl (by decide) ?_
  refine bI (bu (w_fld (w_var rfl (bh ho (by decide) rfl (bU hH (aj (aD (w_var rfl (w_c (bi rfl (aB ?_)))))))))))
  refine qt Y.H (fun z=>hE _ _ ?_ r0) fun j k e hj G1 c1 H1=>?_
  · unfold doneF lu
    dsimp only
    rw[fH z]
  · have eR:doneF y (.wa i)= .ok (ar y {y.ah with ks:=y.ah.ks.set j {k with up:=true}}) (.one (.bl (!k.up))):=by
     unfold doneF lu
     dsimp only
     rw[Dn e hj]
     dsimp only
     rw[hj]
    lia
    exact hq _ S G1 _ _ eR (c1.mono fun n hn=>qE_ _ hn) (Sd.To.refl _ _) (Y.ah c1 (Ad.To.refl S.A G.length) H1) rfl
end
def wordOf(c:Nat):Str:=if c=1001 then "no hand" else if c=1002 then "no keeper" else if c=1003 then "no letter" else if c=1004 then "busy" else "idle"
def gq(y:Sy)(d:bZ):Sy×An:=match doneF y d with
 | .no c=>(y,.one (.str (wordOf c)))
 | .ok z a=>(z,a)
def bW(y:Sy):Sy:={y with aE:=y.aE+1}
def aO(y:Sy)(d:bZ):Sy×An:=(bW (aH (gq y d).1),(gq y d).2)
def fN(y:Sy)(ds:List bZ):Sy:=ds.foldl (fun y d=>(aO y d).1) y
def pL:Sy->List bZ->List An
 |_,[]=>[]
 |y,d :: r=>(aO y d).2 :: pL (aO y d).1 r
def xK(y:Sy)(a b:List bZ):pL y (a++b)=pL y a++pL (fN y a) b:=by
 induction a generalizing y with
 |nil=>rfl
 |cons d r ih=>
  show _ :: pL _ (r++b)=_
  rw[ih]
  rfl
def zt(y:Sy)(a b:List bZ):fN y (a++b)=fN (fN y a) b:=List.foldl_append
def B7{y:Sy}{d:bZ}{c:Nat}(h:doneF y d= .no c):c=1001\/c=1002\/c=1003\/c=1004\/c=1005:=by
 cases d <;> (unfold doneF at h;(try unfold bN at h);(try unfold fF at h);(try unfold lu at h);dsimp only at h;repeat' split at h) <;> cases h <;> simp
def kE{y z:Sy}(I:Iv1 y z):Iv1 y (aH z):=by
 obtain⟨q1,q2,q3,q4⟩:=bP z.last z
 unfold aH
 exact⟨⟨by rw[q2];exact I.W.W,by rw[q1,q2,q4];exact I.W.la,by rw[q1];exact I.W.nd,by rw[q1,q2];exact I.W.atw⟩,q3.trans I.d,by rw[q2];exact I.m,by rw[q4];exact I.w,by rw[q1];exact I.l,by rw[q2];exact I.hl,by rw[q2];exact I.kl⟩
def lY{y:Sy}(I:Iv y)(d:bZ):Iv1 y (gq y d).1:=by
 unfold gq
 split
 · exact I.same
 · rename_i z a h
   exact xk I d h
def AS{y z:Sy}(I:Iv1 y z):Iv (bW z):=by
 have h1:=I.d
 have h2:=I.m
 have h3:=I.w
 refine⟨⟨I.W.W,I.W.la,I.W.nd,I.W.atw⟩,?_,?_,I.l⟩
 · show mea z.ah<=40*(z.aE+1);omega
 · show z.af.length<=z.aE+1;omega
def sR{y:Sy}(I:Iv y)(d:bZ):Iv (aO y d).1:=AS (kE (lY I d))
def vT{y:Sy}(I:Iv y)(d:bZ):(aO y d).1.aE=y.aE+1:=by
 show (aH (gq y d).1).aE+1=_
 rw[(kE (lY I d)).d]
def yQ{y:Sy}(I:Iv y)(d:bZ):(aO y d).1.ah.hs.length=y.ah.hs.length/\(aO y d).1.ah.ks.length=y.ah.ks.length:=⟨(kE (lY I d)).hl,(kE (lY I d)).kl⟩
def oi{y:Sy}(I:Iv y)(ds:List bZ):Iv (fN y ds)/\(fN y ds).aE=y.aE+ds.length/\(fN y ds).ah.hs.length=y.ah.hs.length/\(fN y ds).ah.ks.length=y.ah.ks.length:=by
 induction ds generalizing y with
 |nil=>exact⟨I,rfl,rfl,rfl⟩
 |cons d r ih=>
  obtain⟨a,b,c,e⟩:=ih (sR I d)
  obtain⟨p,q⟩:=yQ I d
  refine⟨a,b.trans ?_,c.trans p,e.trans q⟩
  rw[vT I d,List.length_cons]
  omega
section
variable{G G':Hh}{Q:D->Hh->Prop}{E:Nat->Hh->Prop}{S:Sd}{y:Sy}{σ:St}{QS:Fl×St->Hh->Prop}
def uV.chg{n:Nat}{a:An}{v:D}{T:List Nat}(h:uV S n G a v)(c:Chg T G G')(ht:∀x∈T,x∈S.all):uV S n G' a v:=by
 cases a with
 |one d=>exact h
 |lst ds=>
  obtain⟨l,e,h1,h2,h3⟩:=h
  exact⟨l,e,h1,h2,c.get h3 fun z=>h2 (ht l z)⟩
def cu.count(Y:cu G S y)(c:Chg [S.s] G G')(h:G'[S.s]? =some (.ins 4 [(17,.ref S.A.a),(18,.ref S.lw),(19,.ref S.ld),(20,.int ((y.aE+1:Nat):Int))])):cu G' S (bW y):=by
 obtain⟨n1,n2,n3,n4,n5⟩:=iu Y.nd
 have ns:∀n,n≠S.s->n∉ [S.s]:=fun n h z=>h (by simpa using z)
 exact⟨h,c.get Y.w (ns _ (Ne.symm n1)),c.get Y.d (ns _ (Ne.symm n2)),Y.wl,fun i a w h1 h2=>c.get (Y.wk i a w h1 h2) (ns _ (n5 a (qD_ h1)).1),Y.H.frame c (by intro n hn;simp at hn;rw[hn];exact Y.dj _ (by simp [Sd.own])),Y.nd,Y.dj⟩
def mC{d:bZ}(I:Iv y)(hd:y.aE<=1000)(Y:cu G S y)
 (hq:∀v S' G',Chg S.all G G'->S.To S' G.length->cu G' S' (gq y d).1->uV S' G.length G' (gq y d).2 v->Q v G'):M3.run (bL [.ref S.s,cF d]) G Q E:=by
 have ho:=Y.o
 walk_at "f"
 unfold cA
 refine Gp (bu (w_var rfl (bU ho (aj (w_var rfl (aB ?_))))))
 refine Ep I hd Y (fun c G1 e c1=>?_) fun v S' G1 z a e c1 t Y1 h1=>?_
 · have e1:gq y d=(y,.one (.str (wordOf c))):=by unfold gq;rw[e]
   have Y1:cu G1 S (gq y d).1:=by rw[e1];exact Y.frame c1 (by simp)
   have q:=hq (.str (wordOf c)) S G1 (c1.mono (by simp)) (Sd.To.refl _ _) Y1 (by rw[e1];rfl)
   rcases B7 e with rfl |rfl |rfl |rfl |rfl
   · exact⟨_,rfl,bI (w_c (j5 q))⟩
   · exact⟨_,rfl,bI (w_c (j5 q))⟩
   · exact⟨_,rfl,bI (w_c (j5 q))⟩
   · exact⟨_,rfl,bI (w_c (j5 q))⟩
   · exact⟨_,rfl,bI (w_c (j5 q))⟩
 · have e1:gq y d=(z,a):=by unfold gq;rw[e]
   refine j5 (hq v S' G1 c1 t (by rw[e1];exact Y1) (by rw[e1];exact h1))
def AW{d:bZ}(I:Iv y)(hd:y.aE<=1000)(Y:cu G S y)
 (hq:∀v S' G',Chg S.all G G'->S.To S' G.length->cu G' S' (aO y d).1->uV S' G.length G' (aO y d).2 v->Q v G'):M3.run (cY [.ref S.s,cF d]) G Q E:=by
 have ho:=Y.o
 walk_at "f"
 unfold gj
 refine aA (bB (bu (w_var rfl (bU ho (aj (w_var rfl (aB ?_)))))))
 refine mC I hd Y fun v S1 G1 c1 t1 Y1 h1=>w_next ?_
 walk_at "s"
 have I1:=lY I d
 have ho1:=Y1.o
 rw[t1.s]at ho1
 refine aA (dZ (bu (w_var rfl (bU ho1 (aB ?_)))))
 rw[<-t1.s]
 refine qH Y1 I1.W fun G2 c2 Y2=>w_next ?_
 have ho2:=Y2.o
 have h2:=h1.chg c2 fun x hx=>qF_ _ hx
 refine aA (fv (aD (w_fld (w_var rfl (bh ho2 (by decide) rfl (w_c (Ah (w_var rfl ?_))))))))
 refine aM ho2 ⟨by decide,qP_ rfl⟩ fun G3 c3 l3 h3=>?_
 lia
 have sm:S1.s∈S1.all:=qF_ _ (by simp [Sd.own])
 refine hq v S1 G3 ?_ t1 (Y2.count c3 ?_) (h2.chg c3 (by intro x hx;simp at hx;rw[hx];exact sm))
 · refine(c1.trans' c2 fun n hn=>t1.z n (qF_ _ hn)).trans' c3 fun n hn=>?_
   simp at hn
   rw[hn]
   exact t1.z _ sm
 · exact h3
end
def k0:Kr:=⟨start,true⟩
def eF(count many:Nat):Hl:=⟨List.replicate count k0,(List.range many).map fun i=>jj i count,[]⟩
def bJ(count many:Nat):Sy:=⟨eF count many,[],[],0⟩
def kB{c m:Nat}(hc:c<=9)(hm:m<=9):Iv (bJ c m):=by
 have hg:∀(i:Nat) h,(eF c m).hs[i]? =some h->h=jj i c:=by
  intro i h hh
  unfold eF at hh
  dsimp only at hh
  rw[qQ_]at hh
  cases q:(List.range m)[i]? with
  |none=>rw[q]at hh;cases hh
  |some j=>
   rw[q]at hh
   obtain⟨h1,h2⟩:=qB_.mp q
   rw[List.getElem_range]at h2
   cases hh
   rw[h2]
 have hk:(eF c m).ks.length=c:=by unfold eF;simp
 have hl:(eF c m).hs.length=m:=by unfold eF;simp
 refine⟨⟨⟨fun i h hh=>?_,fun e he=>(by cases he),by rw[show (bJ c m).ah=eF c m from rfl,hk];exact hc,by rw[show (bJ c m).ah=eF c m from rfl,hl];exact hm⟩,fun e he=>(by cases he),List.nodup_nil,fun i h hh ha=>?_⟩,?_,qO_ _,qf_ _⟩
 · rw[hg i h hh]
   exact⟨rfl,hk.symm,by simp [jj],by simp [jj],by simp [jj]⟩
 · rw[hg i h hh]at ha
   cases ha
 · show mea (eF c m)<=0
   unfold mea eF
   dsimp only
   rw[qb_]
   have:∀l:List Nat,(l.map (pot ∘ fun i=>jj i c)).sum=0:=by
    intro l
    induction l with
    |nil=>rfl
    |cons x r ih=>rw[List.map_cons,List.sum_cons,ih];rfl
   rw[this]
   exact qO_ _
section
variable{G G':Hh}{Q:D->Hh->Prop}{E:Nat->Hh->Prop}{S:Sd}{y:Sy}{σ:St}{QS:Fl×St->Hh->Prop}
def kJ{it:I3}{cap:List Nat}{cond:T3}{elt:E3}
 (h:M3.run (it σ) G (fun s G1=>M3.run (b6 s.ck (fun x=>cond (some x :: dR σ cap)) (fun x=>elt (some x :: dR σ cap)) s.xs []) G1 (fun ys G2=>∀G3,Chg [] G2 G3->G3.length=G2.length+1->G3[G2.length]? =some (.lst ys)->Q (.ref G2.length) G3) E) E):M3.run (gz it cap cond elt σ) G Q E:=
 rL (aq h (fun s G1 q=>aq q (fun ys G2 q=>q _ (Chg.add _ _) (by simp) (bc _ _)) fun _ _ z=>z) fun _ _ z=>z)
def qw{a:Nat}(ha:G[a]? =some (.ins 1 []))(hq:∀G',Chg [a] G G'->gD G' a k0->Q .non G'):M3.run (fz [.ref a]) G Q E:=by
 walk_at "f"
 unfold hJ
 lia
 refine aM ha ⟨by decide,qP_ rfl⟩ fun G1 c1 l1 h1=>?_
 lia
 refine aM h1 ⟨by decide,qP_ rfl⟩ fun G2 c2 l2 h2=>?_
 lia
 exact hq G2 (c1.trans c2) h2
def AI{i:Int}{j:Nat}{QI:Src->Hh->Prop}(e:i=(j:Int))(hj:j<=1000000)(h:QI ⟨rng 0 j,fun _=>true⟩ G):M3.run (BX (.int i)) G QI E:=by
 rw[e]
 with_reducible exact fJ hj h
def tm{a c m:Nat}{ci mi:Int}(hci:ci=(c:Int))(hmi:mi=(m:Int))(ha:G[a]? =some (.ins 2 []))(hc:c<=9)(hm:m<=9)(hq:∀A G',A.a=a->Chg [a] G G'->(∀x∈A.foot,x=a\/G.length<=x)->bw G' A (eF c m)->Q .non G'):M3.run (fM [.ref a,.int ci,.int mi]) G Q E:=by
 have hal:=az ha
 unfold fM
 with_reducible refine M3.Eb rfl ?_
 simp only[List.map_cons,List.map_nil,List.cons_append,qc_]
 unfold j9
 with_reducible refine aA ?_
 with_reducible refine fv ?_
 with_reducible refine kJ ?_
 with_reducible refine gN ?_
 walk_at "w"
 with_reducible refine AI hci (by omega) ?_
 with_reducible refine kA (xs:=rng 0 c) (fun i acc G'=>∃ka:List Nat,acc=refs ka/\ka.length=i/\ka.Nodup/\(∀x∈ka,G.length<=x/\gD G' x k0)/\Chg [] G G') (fun _ _ _ _=>rfl) ?_ ?_ _ 0 [] G List.drop_zero (qf_ _) ⟨[],rfl,rfl,List.nodup_nil,by simp,Chg.refl _ _⟩
 · rintro i x acc G' hx ⟨ka,rfl,hl,hnd,hk,cc⟩
   obtain⟨_,hi⟩:=mD hx
   refine fL ?_
   rw[if_pos rfl]
   refine mF (aB fun G1 c1 l1 h1=>?_)
   refine qw h1 fun G2 c2 h2=>⟨rfl,?_,ka++[G'.length],?_,?_,?_,?_,?_⟩
   · unfold refs;rw[qM_,hl];unfold aC;omega
   · unfold refs;rw[qT_];rfl
   · simp [hl]
   · rw[List.nodup_append]
     refine⟨hnd,by simp,fun x hx y hy w=>?_⟩
     simp at hy
     have:=az (hk x hx).2
     omega
   · intro x hx
     have g:=cc.1
     rcases qG_.mp hx with w |w
     · obtain⟨q1,q2⟩:=hk x w
       have:=az q2
       exact⟨q1,c2.get (c1.get q2 (by simp)) (by simp;omega)⟩
     · simp at w
       subst w
       exact⟨g,h2⟩
   · have g:=cc.1
     exact cc.trans (c1.trans' c2 (by intro n hn;simp at hn;rw[hn];exact .inr (qO_ _)))
 rintro acc G1 ⟨ka,rfl,hkl,hknd,hk,cc1⟩
 rw[oh]at hkl
 refine fun G2 c2 l2 h2=>w_var rfl ?_
 have cc2:=cc1.trans c2
 have ha2:=cc2.get ha (by simp)
 refine aM ha2 ⟨by decide,qP_ rfl⟩ fun G3 c3 l3 h3=>w_next ?_
 have g1:=cc1.1
 with_reducible refine aA ?_
 with_reducible refine fv ?_
 with_reducible refine kJ ?_
 with_reducible refine gN ?_
 walk_at "w"
 with_reducible refine AI hmi (by omega) ?_
 with_reducible refine kA (xs:=rng 0 m) (fun i acc G'=>∃ha da:List Nat,acc=refs ha/\ha.length=i/\da.length=i/\(ha++da).Nodup/\(∀x∈ha++da,G3.length<=x/\x < G'.length)/\(∀(j:Nat) a d,ha[j]? =some a->da[j]? =some d->fi G' a d (jj j c))/\Chg [] G3 G') (fun _ _ _ _=>rfl) ?_ ?_ _ 0 [] G3 List.drop_zero (qf_ _) ⟨[],[],rfl,rfl,rfl,(by simp),(by simp),(by simp),Chg.refl _ _⟩
 · rintro i x acc G' hx ⟨ha,da,rfl,hl,hdl,hnd,hk,hh,cc⟩
   obtain⟨rfl,hi⟩:=mD hx
   rw[Int.zero_add]
   refine fL ?_
   rw[if_pos rfl]
   refine mF (aj (w_var rfl (aj (w_var rfl (aB fun G4 c4 l4 h4=>?_)))))
   rw[hci]
   with_reducible refine ux h4 fun G5 d c5 hd h5=>⟨rfl,?_,ha++[G'.length],da++[d],?_,?_,?_,?_,?_,?_,?_⟩
   · unfold refs;rw[qM_,hl];unfold aC;omega
   · unfold refs;rw[qT_];rfl
   · simp [hl]
   · simp [hdl]
   · have hlt:∀x∈ha++da,x < G'.length:=fun x hx=>(hk x hx).2
     refine(List.Perm.nodup_iff (l₂:=(ha++da)++[G'.length,d]) ?_).mpr ?_
     · rw[List.append_assoc,List.append_assoc]
       exact List.Perm.append_left ha (show (G'.length :: (da++[d])).Perm (da++G'.length :: [d])from List.perm_middle.symm)
     · rw[List.nodup_append]
       refine⟨hnd,by simp;omega,fun x hx y hy w=>?_⟩
       have:=hlt x hx
       simp at hy
       rcases hy with q |q <;> omega
   · intro x hx
     have g:=cc.1
     have l5:=az h5.1
     have l6:=az h5.2
     have g5:=c5.1
     simp only[qG_,qS_,List.not_mem_nil,or_false]at hx
     rcases hx with (w |w) |(w |w)
     · have:=hk x (qF_ _ w);omega
     · omega
     · have:=hk x (qE_ _ w);omega
     · omega
   · intro j a' d' e1 e2
     by_cases z:j < i
     · rw[qK_ (by omega)]at e1
       rw[qK_ (by omega)]at e2
       have q:=hh j a' d' e1 e2
       have r1:=az q.1
       have r2:=az q.2
       exact(q.chg c4 (by simp) (by simp)).chg c5 (by simp;omega) (by simp;omega)
     · have z1:j=i:=by
        have:=(qB_.mp e1).1
        simp at this
        omega
       subst z1
       rw[qL_ (by omega)]at e1 e2
       simp [hl]at e1
       simp [hdl]at e2
       subst e1 e2
       exact h5
   · exact cc.trans (c4.trans' c5 (by intro n hn;simp at hn;rw[hn];exact .inr (qO_ _)))
 rintro acc G4 ⟨hA,dA,rfl,hhl,hdl,hnd,hk4,hh,cc4⟩
 rw[oh]at hhl hdl
 refine fun G5 c5 l5 h5=>w_var rfl ?_
 have ha5:=c5.get (cc4.get h3 (by simp)) (by simp)
 refine aM ha5 ⟨by decide,qP_ rfl⟩ fun G6 c6 l6 h6=>w_next ?_
 refine fv (fE fun G7 c7 l7 h7=>w_var rfl ?_)
 have ha7:=c7.get h6 (by simp)
 refine aM ha7 ⟨by decide,qP_ rfl⟩ fun G8 c8 l8 h8=>?_
 have g4:=cc4.1
 have na:∀x,x≠a->x∉ [a]:=fun x h z=>h (by simpa using z)
 have k8:G8[G1.length]? =some (.lst (refs ka)):=c8.get (c7.get (c6.get (c5.get (cc4.get (c3.get h2 (na _ (by omega))) (by simp)) (by simp)) (na _ (by omega))) (by simp)) (na _ (by omega))
 have r8:G8[G4.length]? =some (.lst (refs hA)):=c8.get (c7.get (c6.get h5 (na _ (by omega))) (by simp)) (na _ (by omega))
 have e8:G8[G6.length]? =some (.lst []):=c8.get h7 (na _ (by omega))
 refine rJ ?_
 refine hq ⟨a,G1.length,G4.length,G6.length,ka,hA,dA⟩ G8 rfl ?_ ?_ ⟨h8,k8,r8,e8,?_,?_,?_,?_,?_,?_⟩
 · exact((cc2.mono (by simp)).trans c3).trans ((((cc4.mono (by simp)).trans (c5.mono (by simp))).trans c6).trans ((c7.mono (by simp)).trans c8))
 · intro x hx
   unfold Ad.foot at hx
   simp only[qG_,qS_,List.not_mem_nil,or_false]at hx
   rcases hx with (w |w |w |w) |(w |w |w)
   · exact .inl w
   · exact .inr (by omega)
   · exact .inr (by omega)
   · exact .inr (by omega)
   · exact .inr (hk x w).1
   · have:=hk4 x (qF_ _ w);exact .inr (by omega)
   · have:=hk4 x (qE_ _ w);exact .inr (by omega)
 · unfold eF;simp [hkl]
 · unfold eF;simp [hhl]
 · unfold eF;simp [hdl]
 · intro i x k h1 h2
   have hk':=hk x (qD_ h1)
   have hlt:=az hk'.2
   have:k=k0:=by
    have:=qD_ h2
    unfold eF at this
    exact(List.mem_replicate.mp this).2
   subst this
   exact c8.get (c7.get (c6.get (c5.get (cc4.get (c3.get (c2.get hk'.2 (by simp)) (na _ (by omega))) (by simp)) (by simp)) (na _ (by omega))) (by simp)) (na _ (by omega))
 · intro i x d h h1 h2 h3'
   have q:=hh i x d h1 h2
   have e:h=jj i c:=by
    unfold eF at h3'
    dsimp only at h3'
    rw[qQ_]at h3'
    cases w:(List.range m)[i]? with
    |none=>rw[w]at h3';cases h3'
    |some j=>
     rw[w]at h3'
     obtain⟨_,w2⟩:=qB_.mp w
     rw[List.getElem_range]at w2
     cases h3'
     rw[w2]
   subst e
   have u1:=hk4 x (qF_ _ (qD_ h1))
   have u2:=hk4 d (qE_ _ (qD_ h2))
   exact(((q.chg c5 (by simp) (by simp)).chg c6 (na _ (by omega)) (na _ (by omega))).chg c7 (by simp) (by simp)).chg c8 (na _ (by omega)) (na _ (by omega))
 · unfold Ad.foot
   dsimp only
   rw[List.nodup_append]
   refine⟨by simp;omega,?_,fun x hx z hz w=>?_⟩
   · rw[List.nodup_append]
     refine⟨hknd,hnd,fun x hx z hz w=>?_⟩
     have u1:=az (hk x hx).2
     have u2:=hk4 z hz
     omega
   · subst w
     simp only[qS_,List.not_mem_nil,or_false]at hx
     rcases qG_.mp hz with q |q
     · have u1:=(hk x q).1
       have u2:=az (hk x q).2
       omega
     · have:=hk4 x q
       omega
def rW{a c m:Nat}{ci mi:Int}(hci:ci=(c:Int))(hmi:mi=(m:Int))(ha:G[a]? =some (.ins 4 []))(hc:c<=9)(hm:m<=9)
 (hq:∀S G',S.s=a->Chg [a] G G'->(∀x∈S.all,x=a\/G.length<=x)->cu G' S (bJ c m)->Q .non G'):M3.run (fU [.ref a,.int ci,.int mi]) G Q E:=by
 have hal:=az ha
 have na:∀x,x≠a->x∉ [a]:=fun x h z=>h (by simpa using z)
 walk_at "f"
 unfold iJ
 refine aA (fv (mF (aj (w_var rfl (aj (w_var rfl (aB fun G1 c1 l1 h1=>?_)))))))
 refine tm hci hmi h1 hc hm fun A G2 hA c2 hf H2=>⟨rfl,w_var rfl ?_⟩
 have ns2:∀x,x < G.length->x∉ [G.length]:=fun x h z=>by simp at z;omega
 have ha2:=c2.get (c1.get ha (by simp)) (ns2 _ hal)
 refine aM ha2 ⟨by decide,qP_ rfl⟩ fun G3 c3 l3 h3=>w_next ?_
 refine aA (fv (fE fun G4 c4 l4 h4=>w_var rfl ?_))
 have ha4:=c4.get h3 (by simp)
 refine aM ha4 ⟨by decide,qP_ rfl⟩ fun G5 c5 l5 h5=>w_next ?_
 refine aA (fv (pB fun G6 c6 l6 h6=>w_var rfl ?_))
 have ha6:=c6.get h5 (by simp)
 refine aM ha6 ⟨by decide,qP_ rfl⟩ fun G7 c7 l7 h7=>w_next ?_
 refine fv (w_c (w_var rfl ?_))
 refine aM h7 ⟨by decide,qP_ rfl⟩ fun G8 c8 l8 h8=>rJ ?_
 have g2:=c2.1
 have hfa:∀x∈A.foot,x≠a/\G.length<=x/\x < G2.length:=fun x hx=>by
  have:=H2.lt x hx
  rcases hf x hx with w |w <;> omega
 have fr:∀{T:List Nat} {X Y:Hh},Chg T X Y->(∀n∈T,n=a)->bw X A (eF c m)->bw Y A (eF c m):=fun cc ht H=>H.frame cc fun n hn z=>(hfa n z).1 (ht n hn)
 have e1:∀n∈ [a],n=a:=by simp
 have e0:∀n∈([]:List Nat),n=a:=by simp
 have H8:=fr c8 e1 (fr c7 e1 (fr c6 e0 (fr c5 e1 (fr c4 e0 (fr c3 e1 H2)))))
 rw[<-hA]at h8
 have n1:G3.length∉ [a]:=na _ (by omega)
 have n2:G5.length∉ [a]:=na _ (by omega)
 have w8:G8[G3.length]? =some (.lst []):=c8.get (c7.get (c6.get (c5.get h4 n1) (by simp)) n1) n1
 have d8:G8[G5.length]? =some (.dK []):=c8.get (c7.get h6 n2) n2
 refine hq ⟨a,G3.length,G5.length,[],A⟩ G8 rfl ?_ ?_ ⟨h8,w8,d8,rfl,by simp,H8,?_,?_⟩
 · exact(((c1.mono (T:=[a]) (by simp)).trans' c2 (by intro n hn;simp at hn;exact .inr (by omega))).trans c3 |>.trans (c4.mono (by simp)) |>.trans c5 |>.trans (c6.mono (by simp)) |>.trans c7 |>.trans c8)
 · intro x hx
   rcases qG_.mp hx with w |w
   · unfold Sd.own at w
     simp only[qY_,qS_,List.not_mem_nil,or_false]at w
     rcases w with w |w |w
     · exact .inl w
     · exact .inr (by omega)
     · exact .inr (by omega)
   · exact .inr (hfa x w).2.1
 · unfold Sd.own
   simp
   omega
 · intro x hx z
   unfold Sd.own at hx
   simp only[qY_,qS_,List.not_mem_nil,or_false]at hx
   have:=hfa x z
   omega
def xE{d:bZ}{s:Nat}(hs:S.s=s)(I:Iv y)(hd:y.aE<=1000)(Y:cu G S y)
 (hq:∀v S' G',Chg S.all G G'->S.To S' G.length->cu G' S' (aO y d).1->uV S' G.length G' (aO y d).2 v->Q v G'):M3.run (cY [.ref s,cF d]) G Q E:=by
 subst hs
 exact AW I hd Y hq
def Ai{ds:List bZ}{i:Nat}{d:bZ}(h:ds[i]? =some d)(y:Sy):fN y (ds.take (i+1))=(aO (fN y (ds.take i)) d).1/\pL y (ds.take (i+1))=pL y (ds.take i)++[(aO (fN y (ds.take i)) d).2]:=by
 rw[take_succ h,zt,xK]
 exact⟨rfl,rfl⟩
def FE{a:Nat}{w:Wk}(ha:ng G a w)(hq:Q (mJ w) G):M3.run (gV [.ref a]) G Q E:=by
 unfold ng wkF at ha
 walk_at "f"
 unfold jG
 lia
 exact hq
def sv{f:Nat->D}{xs:List Nat}{ck:Hh->Bool}{cond:D->M Bool}{elt:D->M D}{QA:List D->Hh->Prop}(hck:ck G=true)(hz:xs.length<=1000000)
 (hc:∀x∈xs,M3.run (cond (.ref x)) G (fun c G1=>G1=G/\c=true) E) (he:∀x∈xs,M3.run (elt (.ref x)) G (fun y G1=>G1=G/\y=f x) E)
 (h:QA (xs.map f) G):M3.run (b6 ck cond elt (refs xs) []) G QA E:=by
 refine kh (f:=D.ref) (p:=fun _=>true) (g:=f) hck hz hc (fun x hx _=>he x hx) ?_
 rw[List.filter_eq_self.mpr (fun _ _=>rfl)]
 exact h
def vy{α:Type}{as:List Nat}{ws:List α}{f:Nat->D}{g:α->D}(hl:as.length=ws.length)(h:∀(i:Nat) a w,as[i]? =some a->ws[i]? =some w->f a=g w):as.map f=ws.map g:=by
 apply List.ext_getElem?
 intro i
 rw[qQ_,qQ_]
 cases p:as[i]? with
 |none=>
  have:ws[i]? =none:=by rw[List.getElem?_eq_none_iff]at*;omega
  rw[this]
  rfl
 |some a=>
  have hi:=(qB_.mp p).1
  have:ws[i]? =some ws[i]:=qA_ (by omega)
  rw[this]
  show some (f a)=some (g _)
  rw[h i a _ p this]
def rX(G:Hh)(a:Nat):D:=match G[a]? with
 |some (.ins _ [(_,a),(_,b),(_,c),(_,d),(_,e),_])=>.tup [a,b,c,d,e]
 |_=>.non
def nE(G:Hh)(i:Nat)(a:Nat):D:=match G[a]? with
 |some (.ins _ fs)=>(fs.lookup i).getD .non
 |_=>.non
def sj(y:Sy)(l1 l2 l3:Nat)(G:Hh):Prop:=G[l1]? =some (.lst (y.af.map mJ))/\G[l2]? =some (.lst (y.af.map fun w=>stD w.aY))/\G[l3]? =some (.lst (y.ah.ks.map fun k=>pD k.pair))
def uM{c m l:Nat}{ci mi:Int}{ds:List bZ}(hci:ci=(c:Int))(hmi:mi=(m:Int))(hc:c<=9)(hm:m<=9)(hl:G[l]? =some (.lst (ds.map cF)))(hz:ds.length<=1000)
 (hq:∀l1 l2 l3 G',Chg [] G G'->G.length<=l1->G.length<=l2->G.length<=l3->sj (fN (bJ c m) ds) l1 l2 l3 G'->Q (.tup [.ref l1,.ref l2,.ref l3]) G'):M3.run (gL [.int ci,.int mi,.ref l]) G Q E:=by
 have hll:=az hl
 walk_at "f"
 unfold jz
 refine aA (bB (mF (aj (w_var rfl (aj (w_var rfl (aB fun G1 c1 l1 h1=>?_)))))))
 refine rW hci hmi h1 hc hm fun S0 G2 hS c2 hf Y2=>⟨rfl,w_next ?_⟩
 walk_at "s"
 have I0:=kB hc hm
 have c12:Chg [] G G2:=c1.trans' c2 (by intro n hn;simp at hn;rw[hn];exact .inr (qO_ _))
 have hf0:∀x∈S0.all,G.length<=x:=fun x hx=>by rcases hf x hx with w |w <;> omega
 have hl2:=c12.get hl (by simp)
 refine aA (nG (mw (w_var rfl (eS hl2 ?_))))
 refine jK (fun i σ G'=>∃S' v,σ=[some (.int ci),some (.int mi),some (.ref l),some (.ref G.length),v,none,none,none]/\Chg [] G G'/\S'.s=G.length/\(∀x∈S'.all,G.length<=x)/\cu G' S' (fN (bJ c m) (ds.take i))) ?_ ?_ ?_ ⟨S0,none,rfl,c12,hS,hf0,Y2⟩
 · rintro i σ G' ⟨S',v,_,cc,_⟩
   exact qZ_ (cc.get hl (by simp))
 · rintro i d σ G' hd ⟨S',v,rfl,cc,hs,hf',Y'⟩
   obtain⟨I',hdd,_,_⟩:=oi I0 (ds.take i)
   obtain⟨e1,e2⟩:=Ai hd (bJ c m)
   have hdd':(fN (bJ c m) (ds.take i)).aE<=1000:=by
    rw[hdd,List.length_take]
    show 0+_<=_
    omega
   have ho:=Y'.o
   rw[hs]at ho
   refine ay (jk ?_)
   walk_at "s"
   refine dZ (bu (w_var rfl (bU ho (aj (w_var rfl (aB ?_))))))
   refine xE hs (d:=d) I' hdd' Y' fun v S2 G2 c2 t2 Y2 A2=>?_
   have g:=cc.1
   refine⟨S2,_,rfl,cc.trans' c2 fun n hn=>.inr (hf' n hn),t2.s.trans hs,fun x hx=>?_,by rw[e1];exact Y2⟩
   rcases t2.z x hx with w |w
   · exact hf' x w
   · omega
 · rintro σ G3 ⟨S',v,rfl,cc,hs,hf',Y⟩
   rw[List.take_length]at Y
   obtain⟨I',hdd,_,_⟩:=oi I0 ds
   have hw:(fN (bJ c m) ds).af.length<=1000:=by
    have:=I'.w
    rw[hdd]at this
    have:(fN (bJ c m) ds).af.length<=0+ds.length:=this
    omega
   have hk9:=I'.W.W.ksz
   generalize fN (bJ c m) ds=y at*
   have ho:=Y.o
   rw[hs]at ho
   refine w_next ?_
   have hwa:∀a∈S'.wa,∃w,ng G3 a w:=fun a ha=>by
    obtain⟨i,hi,e⟩:=List.getElem_of_mem ha
    have h1:S'.wa[i]? =some a:=by rw[qA_ hi,e]
    exact⟨_,Y.wk i a _ h1 (qA_ (by rw[<-Y.wl];exact hi))⟩
   refine aA (bB (kJ (mw (w_fld (w_var rfl (bh ho (by decide) rfl (eS Y.w ?_)))))))
   refine sv (f:=rX G3) (qZ_ Y.w) (by rw[Y.wl];omega) (fun x _=>fL ⟨rfl,rfl⟩) (fun x hx=>?_) ?_
   · obtain⟨w,hw⟩:=hwa x hx
     have hw0:=hw
     unfold ng wkF at hw0
     refine bu (w_var rfl (bU hw0 (aB ?_)))
     refine FE hw ⟨rfl,?_⟩
     unfold rX
     rw[hw0]
     rfl
   have em1:S'.wa.map (rX G3)=y.af.map mJ:=vy Y.wl fun i a w h1 h2=>by
    have:=Y.wk i a w h1 h2
    unfold ng wkF at this
    unfold rX
    rw[this]
    rfl
   rw[em1]
   intro G4 c4 l4 h4
   refine w_next ?_
   walk_at "s"
   have Y4:=Y.frame c4 (by simp)
   have ho4:=c4.get ho (by simp)
   have hwa4:∀a∈S'.wa,∃w,ng G4 a w:=fun a ha=>by
    obtain⟨w,hw⟩:=hwa a ha
    exact⟨w,c4.get hw (by simp)⟩
   refine aA (bB (kJ (mw (w_fld (w_var rfl (bh ho4 (by decide) rfl (eS Y4.w ?_)))))))
   refine sv (f:=nE G4 16) (qZ_ Y4.w) (by rw[Y4.wl];omega) (fun x _=>fL ⟨rfl,rfl⟩) (fun x hx=>?_) ?_
   · obtain⟨w,hw⟩:=hwa4 x hx
     unfold ng wkF at hw
     refine w_fld (w_var rfl (bh hw (by decide) rfl ⟨rfl,?_⟩))
     unfold nE
     rw[hw]
     rfl
   have em2:S'.wa.map (nE G4 16)=y.af.map fun w=>stD w.aY:=vy Y4.wl fun i a w h1 h2=>by
    have:=Y4.wk i a w h1 h2
    unfold ng wkF at this
    unfold nE
    rw[this]
    rfl
   rw[em2]
   intro G5 c5 l5 h5
   refine w_next ?_
   walk_at "s"
   have Y5:=Y4.frame c5 (by simp)
   have ho5:=c5.get ho4 (by simp)
   have hh5:=Y5.H.o
   have hka:∀a∈S'.A.ka,∃k,gD G5 a k:=fun a ha=>by
    obtain⟨i,hi,e⟩:=List.getElem_of_mem ha
    have h1:S'.A.ka[i]? =some a:=by rw[qA_ hi,e]
    exact⟨_,Y5.H.kr i a _ h1 (qA_ (by rw[<-Y5.H.kl];exact hi))⟩
   refine aA (bB (kJ (mw (w_fld (w_fld (w_var rfl (bh ho5 (by decide) rfl (bh hh5 (by decide) rfl (eS Y5.H.k ?_)))))))))
   refine sv (f:=nE G5 4) (qZ_ Y5.H.k) (by rw[Y5.H.kl];omega) (fun x _=>fL ⟨rfl,rfl⟩) (fun x hx=>?_) ?_
   · obtain⟨w,hw⟩:=hka x hx
     unfold gD krF at hw
     refine w_fld (w_var rfl (bh hw (by decide) rfl ⟨rfl,?_⟩))
     unfold nE
     rw[hw]
     rfl
   have em3:S'.A.ka.map (nE G5 4)=y.ah.ks.map fun k=>pD k.pair:=vy Y5.H.kl fun i a w h1 h2=>by
    have:=Y5.H.kr i a w h1 h2
    unfold gD krF at this
    unfold nE
    rw[this]
    rfl
   rw[em3]
   intro G6 c6 l6 h6
   have g3:=cc.1
   refine w_next ?_
   walk_at "s"
   lia
   exact hq G3.length G4.length G5.length G6 (((cc.trans c4).trans c5).trans c6) (by omega) (by omega) (by omega) ⟨c6.get (c5.get h4 (by simp)) (by simp),c6.get h5 (by simp),h6⟩
end
def DIn(c m:Nat):bZ->Prop
 | .wr i _=>0<=i/\i < (m:Int)
 | .rd i=>0<=i/\i < (m:Int)
 | .ca _ _=>True
 | .pa i j=>(0<=i/\i < (m:Int))/\(0<=j/\j < (c:Int))
 | .sw=>True
 | .ag i=>0<=i/\i < (m:Int)
 | .qu i=>0<=i/\i < (m:Int)
 | .st j=>0<=j/\j < (c:Int)
 | .wa j=>0<=j/\j < (c:Int)
section
variable{G G':Hh}{Q:D->Hh->Prop}{E:Nat->Hh->Prop}{σ:St}
def oa{xs:List Int}{i:Int}(h0:0<=i)(h1:i < (xs.length:Int)):∃v∈xs,atI (xs.map D.int) i=some (.int v):=by
 have hl:i.toNat < xs.length:=by omega
 exact⟨xs[i.toNat],List.getElem_mem hl,Ab h0 (qA_ hl)⟩
def gJ{i:Int}(h:Q (.bl true) G):M3.run (dO [.int i]) G Q E:=by
 walk_at "f"
 unfold sP
 lia
 exact h
def Hu{l:Nat}{ns:List Int}{k:Nat}(hl:G[l]? =some (.frz (ns.map D.int)))(h:∀v:Int,Q (.int v) G):M3.run (tV [.ref l,.int (k:Int)]) G Q E:=by
 unfold tV
 with_reducible refine M3.Eb rfl ?_
 simp only[List.map_cons,List.map_nil,List.cons_append,qc_]
 unfold Eg
 lia
 with_reducible refine F2 hl ?_
 lia
 refine w_ite (fun z=>?_) fun z=>?_
 · have z':=of_decide_eq_true z
   rw[qM_]at z'
   obtain⟨v,_,e⟩:=oa (xs:=ns) (i:=(k:Int)) (by omega) z'
   lia
   with_reducible refine Gg hl e ?_
   lia
   exact h v
 · lia
   exact h 0
def Zn(n:Int):Str:=Txt.mul "0" n
def tza{i:Int}(h0:0<=i)(h1:i<=1000)(h:Q (.str (Zn i)) G):M3.run (fj (.str "0") (.int i)) G Q E:=by
 have c:(0:Int)<=i/\i<=1000/\("0":Str).length<=1000:=⟨h0,h1,by decide +kernel⟩
 show M3.run (if (0:Int)<=i/\i<=1000/\("0":Str).length<=1000 then ret (D.str (Txt.mul "0" i))else fail) G _ E
 rw[if_pos c]
 exact h
def Iy:intText? (("1":Str)++Zn 88)=some (10 ^ 88):=by decide +kernel
def IR:intText? (("1":Str)++Zn 90)=some (10 ^ 90):=by decide +kernel
def IX:(("1":Str)++Zn 88).length<=640:=by decide +kernel
def II:(("1":Str)++Zn 90).length<=640:=by decide +kernel
def tzc{s:Str}{i:Int}(hn:intText? s=some i)(hl:s.length<=640)(h:Q (.int i) G):M3.run (vE [.str s]) G Q E:=by
 refine aP (a:= .int i) (G':=G) ?_ h
 unfold vE
 dsimp only
 rw[hn]
 dsimp only
 rw[if_pos hl]
def uS{c k:Int}(h:∀v G',Ext G G'->Q (.int v) G'):M3.run (je [.int c,.int k]) G Q E:=by
 walk_at "f"
 unfold lJ
 lia
 refine tza (by decide) (by decide) ?_
 lia
 refine Aq (by decide +kernel) ?_
 lia
 refine tzc Iy IX ?_
 refine m5 (by decide) ?_
 lia
 have i1:0<=c*48271 % 1009 % 6:=Int.emod_nonneg _ (by decide)
 have i2:c*48271 % 1009 % 6 < 6:=Int.emod_lt_of_pos _ (by decide)
 obtain⟨v,_,e⟩:=oa (xs:=[k+1,0 - k - 1,1000*k+7,c % 10 ^ 88*100+k,0 - (c % 10 ^ 88*100+k),0]) i1 i2
 refine eE (bc _ _) e ?_
 lia
 exact h v _ (Ext.add _ _)
def A1{a b:D}{i:Int}(h0:0<=i)(h1:i < 2):atI [a,b] i=some a\/atI [a,b] i=some b:=by
 have:i=0\/i=1:=by omega
 rcases this with rfl |rfl
 · exact .inl rfl
 · exact .inr rfl
def yD{c m:Nat}{x k ci mi:Int}(hci:ci=(c:Int))(hmi:mi=(m:Int))(hc:0 < c)(hm:0 < m)(h:∀d G',Ext G G'->DIn c m d->Q (cF d) G'):M3.run (ix [.int x,.int k,.int ci,.int mi]) G Q E:=by
 have e0:=Ext.refl G
 walk_at "f"
 unfold m7
 lia
 refine m5 (by omega) ?_
 lia
 refine m5 (by omega) ?_
 have a1:0<=x*48271 % 1019 % mi:=Int.emod_nonneg _ (by omega)
 have a2:x*48271 % 1019 % mi < (m:Int):=by rw[<-hmi];exact Int.emod_lt_of_pos _ (by omega)
 have b1:0<=x*48271 % 1021 % ci:=Int.emod_nonneg _ (by omega)
 have b2:x*48271 % 1021 % ci < (c:Int):=by rw[<-hci];exact Int.emod_lt_of_pos _ (by omega)
 generalize x*48271 % 1019 % mi=hh at*
 generalize x*48271 % 1021 % ci=kk at*
 have w1:0<=x*48271 % 1013 % 20:=Int.emod_nonneg _ (by decide)
 have w2:x*48271 % 1013 % 20 < 20:=Int.emod_lt_of_pos _ (by decide)
 generalize x*48271 % 1013 % 20=way at*
 lia
 refine w_ite (fun z=>?_) fun z1=>?_
 · lia
   refine uS fun v G1 e1=>?_
   lia
   exact h (.wr hh v) G1 e1 ⟨a1,a2⟩
 lia
 refine w_ite (fun z=>?_) fun z2=>?_
 · lia
   exact h (.rd hh) G e0 ⟨a1,a2⟩
 lia
 refine w_ite (fun z=>?_) fun z3=>?_
 · lia
   exact h (.pa hh kk) G e0 ⟨⟨a1,a2⟩,b1,b2⟩
 lia
 refine w_ite (fun z=>?_) fun z4=>?_
 · lia
   refine w_eq (by rfl) ?_
   lia
   refine w_ite (fun z=>?_) fun z=>?_
   · lia
     refine tza (by decide) (by decide) ?_
     lia
     refine Aq (by decide +kernel) ?_
     lia
     refine tzc IR II ?_
     refine m5 (by decide) ?_
     lia
     exact h (.ca _ _) G e0 trivial
   · lia
     exact h (.ca _ _) G e0 trivial
 have z4:=of_decide_eq_false z4
 lia
 refine w_eq (by rfl) ?_
 lia
 refine w_ite (fun z=>?_) fun z5=>?_
 · lia
   exact h (.ag hh) G e0 ⟨a1,a2⟩
 have z5:=of_decide_eq_false z5
 lia
 refine w_eq (by rfl) ?_
 lia
 refine w_ite (fun z=>?_) fun z6=>?_
 · lia
   have i1:0<=x*48271 % 1039 % 2:=Int.emod_nonneg _ (by decide)
   have i2:x*48271 % 1039 % 2 < 2:=Int.emod_lt_of_pos _ (by decide)
   rcases A1 (a:= .tup [.str "quit",.int hh]) (b:= .tup [.str "sweep"]) i1 i2 with e |e
   · refine eE (bc _ _) e ?_
     lia
     exact h (.qu hh) _ (Ext.add _ _) ⟨a1,a2⟩
   · refine eE (bc _ _) e ?_
     lia
     exact h .sw _ (Ext.add _ _) trivial
 have z6:=of_decide_eq_false z6
 lia
 rcases A1 (a:= .tup [.str "stop",.int kk]) (b:= .tup [.str "wake",.int kk]) (i:=way - 16) (by omega) (by omega)with e |e
 · refine eE (bc _ _) e ?_
   lia
   exact h (.st kk) _ (Ext.add _ _) ⟨b1,b2⟩
 · refine eE (bc _ _) e ?_
   lia
   exact h (.wa kk) _ (Ext.add _ _) ⟨b1,b2⟩
def CP{i j:Nat}{xs:List D}(h1:G[i]? =some (.lst xs))(h2:G[j]? =some (.lst []))(h:Q (.bl (!xs.isEmpty)) G):M3.run (oNe (.ref i) (.ref j)) G Q E:=by
 refine qE (b:=xs.isEmpty) ?_ h
 have e1:M3.listOf G i=some xs:=by unfold M3.listOf;rw[h1]
 have e2:M3.listOf G j=some []:=by unfold M3.listOf;rw[h2]
 unfold eqG
 dsimp only
 rw[e1,e2]
 dsimp only
 cases xs with
 |nil=>rfl
 |cons a r=>rw[if_neg (by simp)];rfl
def wD{i j:Nat}{a b:List D}(h1:G[i]? =some (.lst a))(h2:G[j]? =some (.lst b))(hl:a.length+b.length<=aC)(h:∀G',Chg [] G G'->G'.length=G.length+1->G'[G.length]? =some (.lst (a++b))->Q (.ref G.length) G'):M3.run (gI (.ref i) (.ref j)) G Q E:=
 zS h1 h2 hl (h _ (Chg.add _ _) (by simp) (bc _ _))
def jB{a:A3}(h:M3.run (a σ) G (fun xs G1=>xs.length<=aC/\∀G2,Chg [] G1 G2->G2.length=G1.length+1->G2[G1.length]? =some (.lst xs)->Q (.ref G1.length) G2) E):M3.run (dJ a σ) G Q E:=
 yR (aq h (fun xs G1 ⟨q1,q2⟩=>⟨q1,q2 _ (Chg.add _ _) (by simp) (bc _ _)⟩) fun _ _ z=>z)
def yl{c m:Nat}{x ci mi:Int}(hci:ci=(c:Int))(hmi:mi=(m:Int))(hc:0 < c)(hm:0 < m)
 (h:∀(ds:List bZ) l G',Chg [] G G'->G.length<=l->ds.length<=10->(∀d∈ds,DIn c m d)->G'[l]? =some (.lst (ds.map cF))->Q (.ref l) G'):M3.run (kq [.int x,.int ci,.int mi]) G Q E:=by
 walk_at "f"
 unfold ni
 lia
 refine w_eq (by rfl) ?_
 lia
 refine w_ite (fun z=>?_) fun z=>?_
 · refine aA ?_
   refine bB ?_
   refine jB ?_
   lia
   intro G1 c1 l1 h1
   refine w_next ?_
   walk_at "s"
   refine bI (aD (w_var rfl ?_))
   refine jB ?_
   lia
   intro G2 c2 l2 h2
   refine wD (c2.get h1 (by simp)) h2 (qP_ (by with_unfolding_all rfl)) fun G3 c3 l3 h3=>?_
   lia
   refine h [.wr 0 7,.ca 0 true,.ca 0 true,.ca ci false,.ca ci false] G2.length G3 ((c1.trans c2).trans c3) (by omega) (by simp) ?_ h3
   intro d hd
   simp only[qS_,List.not_mem_nil,or_false]at hd
   rcases hd with rfl |rfl |rfl |rfl |rfl
   · exact⟨by decide,by omega⟩
   all_goals trivial
 lia
 refine w_ite (fun z1=>?_) fun z1=>?_
 · lia
   refine w_eq (by rfl) ?_
   lia
   refine w_ite (fun z2=>?_) fun z2=>?_
   · have z2:=of_decide_eq_true z2
     lia
     refine w_ite (fun z3=>?_) fun z3=>?_
     · have z3:=of_decide_eq_true z3
       refine aA ?_
       refine bB ?_
       refine jB ?_
       lia
       intro G1 c1 l1 h1
       refine w_next ?_
       walk_at "s"
       refine aA (dZ (tK (w_var rfl (mG h1 ?_))))
       refine jB ?_
       lia
       intro G2 c2 l2 h2
       refine gG (c2.get h1 (by simp)) h2 (by decide) fun G3 c3 l3 h3=>?_
       refine w_next ?_
       refine aA (dZ (tK (w_var rfl (mG h3 ?_))))
       refine jB ?_
       lia
       intro G4 c4 l4 h4
       refine gG (c4.get h3 (by simp)) h4 (by decide) fun G5 c5 l5 h5=>?_
       refine w_next ?_
       refine bI (aD (w_var rfl ?_))
       refine jB ?_
       lia
       intro G6 c6 l6 h6
       refine wD (c6.get h5 (by simp)) h6 (by decide) fun G7 c7 l7 h7=>?_
       lia
       have c13:Chg [] G G3:=(c1.trans c2).trans' c3 (by intro n hn;simp at hn;exact .inr (by omega))
       have c15:Chg [] G G5:=(c13.trans c4).trans' c5 (by intro n hn;simp at hn;exact .inr (by omega))
       refine h [.rd 0,.ca 0 true,.wr 1 9,.pa 1 0,.pa 1 1,.pa 1 0,.ca 0 true,.ca 6 false,.ca 3 false,.pa 0 2] G6.length G7 ((c15.trans c6).trans c7) (by omega) (by simp) ?_ h7
       intro d hd
       simp only[qS_,List.not_mem_nil,or_false]at hd
       rcases hd with rfl |rfl |rfl |rfl |rfl |rfl |rfl |rfl |rfl |rfl
       · exact⟨by decide,by omega⟩
       · trivial
       · exact⟨by decide,by omega⟩
       · exact⟨⟨by decide,by omega⟩,by decide,by omega⟩
       · exact⟨⟨by decide,by omega⟩,by decide,by omega⟩
       · exact⟨⟨by decide,by omega⟩,by decide,by omega⟩
       · trivial
       · trivial
       · trivial
       · exact⟨⟨by decide,by omega⟩,by decide,by omega⟩
     · lia
       exact h [] _ _ (Chg.add _ _) (qO_ _) (by simp) (by simp) (bc _ _)
   · lia
     exact h [] _ _ (Chg.add _ _) (qO_ _) (by simp) (by simp) (bc _ _)
 · lia
   exact h [] _ _ (Chg.add _ _) (qO_ _) (by simp) (by simp) (bc _ _)
def AX{c m l:Nat}{ci mi:Int}{ns:List Int}(hci:ci=(c:Int))(hmi:mi=(m:Int))(hc:0 < c)(hm:0 < m)(hl:G[l]? =some (.lst (ns.map D.int)))(hz:ns.length<=100)
 (h:∀(ds:List bZ) ld G',Chg [] G G'->G.length<=ld->ds.length<=ns.length+10->(∀d∈ds,DIn c m d)->G'[ld]? =some (.lst (ds.map cF))->Q (.ref ld) G'):M3.run (oB [.ref l,.int ci,.int mi]) G Q E:=by
 have hll:=az hl
 walk_at "f"
 unfold rR
 refine aA (bB (fE fun G1 c1 l1 h1=>w_next ?_))
 walk_at "s"
 have hl1:=c1.get hl (by simp)
 have loop:∀(ds:List bZ) (ld:Nat) (G2:Hh),Chg [] G G2->G.length<=ld->ds.length<=10->(∀d∈ds,DIn c m d)->G2[ld]? =some (.lst (ds.map cF))->
  M3.run ((aw (jF (gK (aF dG (ae (aa 0) ao))) (gNm 4) (cj (xW (aa 3) (aF ix (ae (eOp gI (eOp oIx (aa 0) (aa 4)) (eOp fj (eC (.int 7)) (aa 4))) (ae (aa 4) (ae (aa 1) (ae (aa 2) ao)))))))) (aG (aa 3))) [some (.ref l),some (.int ci),some (.int mi),some (.ref ld),none]) G2 (fun r G3=>M3.run (fK r) G3 Q E) E:=by
  intro ds ld G2 c2 g2 hd hin h2
  have hl2:=c2.get hl (by simp)
  lia
  refine dD hl2 ?_
  rw[qM_]
  with_reducible refine fJ (by omega) ?_
  refine mP (fun i σ G'=>∃(ds:List bZ) (v:Option D),σ=[some (.ref l),some (.int ci),some (.int mi),some (.ref ld),v]/\Chg [] G G'/\ds.length<=10+i/\(∀d∈ds,DIn c m d)/\G'[ld]? =some (.lst (ds.map cF))) ?_ ?_ ⟨ds,none,rfl,c2,hd,hin,h2⟩
  · rintro i σ G3 hi ⟨ds,v,rfl,c3,hd,hin,h3⟩
    have hn:ns[i]? =some ns[i]:=qA_ hi
    have hix:=iH (f:=D.int) hn
    generalize ns[i]=nv at*
    have hi':(i:Int)<=100:=by omega
    generalize (i:Int)=ii at*
    refine ay (jk ?_)
    walk_at "s"
    refine dZ (Dk (w_var rfl (mG h3 ?_)))
    refine bT (aj (aD (aD (w_var rfl (w_var rfl (eE (c3.get hl (by simp)) hix ?_))))))
    lia
    refine yD hci hmi hc hm fun d G4 e4 din=>?_
    refine m8 (e4.get h3) (by rw[qM_];unfold aC;omega) fun G5 c5 l5 h5=>?_
    refine⟨ds++[d],_,rfl,(c3.trans (Ext.chg e4)).trans' c5 (by intro n hn;simp at hn;exact .inr (by omega)),by simp;omega,?_,by rw[qT_];exact h5⟩
    intro x hx
    rcases qG_.mp hx with w |w
    · exact hin x w
    · simp at w;rw[w];exact din
  · rintro σ G3 ⟨ds,v,rfl,c3,hd,hin,h3⟩
    lia
    exact h ds ld G3 c3 g2 (by omega) hin h3
 refine aA (b8 (dI (aD (w_var rfl ?_))))
 refine fE fun G2 c2 l2 h2=>?_
 have hl2:=c2.get hl1 (by simp)
 refine CP hl2 h2 ?_
 cases ns with
 |nil=>
  lia
  exact loop [] G.length G2 (c1.trans c2) (qO_ _) (by simp) (by simp) (c2.get h1 (by simp))
 |cons a r=>
  dsimp only[List.map,List.isEmpty]
  lia
  refine eE (d:= .int a) hl2 (iH (f:=D.int) (xs:=a :: r) (i:=0) rfl) ?_
  lia
  refine yl hci hmi hc hm fun ds ld G3 c3 hld hd hin h3=>?_
  refine w_next ?_
  walk_at "s"
  exact loop ds ld G3 ((c1.trans c2).trans c3) (by omega) hd hin h3
def oF{s:Int×Int}(h:Q (.bl true) G):M3.run (fq [.tup [.int s.1,.int s.2]]) G Q E:=by
 walk_at "f"
 unfold lG
 lia
 refine qE (b:=true) rfl ?_
 lia
 refine gJ ?_
 lia
 refine gJ ?_
 lia
 exact h
def xG{p:Pr}(h:Q (.bl true) G):M3.run (ko [pD p]) G Q E:=by
 unfold pD
 walk_at "f"
 unfold mU
 lia
 refine qE (b:=true) rfl ?_
 lia
 refine oF (s:=p.1) ?_
 lia
 refine gJ ?_
 lia
 exact h
def oJ(o:Option Nat):decide (nD o= .non)=o.isNone:=by cases o <;> rfl
def xC{w:Wk}(h:Q (.bl true) G):M3.run (kH [mJ w]) G Q E:=by
 unfold mJ
 walk_at "f"
 unfold mL
 lia
 refine qE (b:=true) rfl ?_
 generalize (w.hand:Int)=wh
 generalize (w.beg:Int)=wb
 lia
 refine gJ ?_
 lia
 refine gJ ?_
 lia
 rw[zR]
 cases hv:w.val with
 |none=>
  dsimp only[Option.isNone]
  lia
  rw[oJ]
  cases he:w.en with
  |none=>
   dsimp only[Option.isNone]
   lia
   exact h
  |some e=>
   dsimp only[Option.isNone]
   lia
   refine gJ (i:=(e:Int)) ?_
   lia
   exact h
 |some v=>
  dsimp only[Option.isNone]
  simp only[oD]
  lia
  refine gJ ?_
  lia
  rw[oJ]
  cases he:w.en with
  |none=>
   dsimp only[Option.isNone]
   lia
   exact h
  |some e=>
   dsimp only[Option.isNone]
   lia
   refine gJ (i:=(e:Int)) ?_
   lia
   exact h
end
section
variable{G G':Hh}{Q:D->Hh->Prop}{E:Nat->Hh->Prop}{σ:St}{y:Sy}
def EO{xs:List D}{QI:Src->Hh->Prop}(h:QI ⟨xs,fun _=>true⟩ G):M3.run (srcOf (.tup xs)) G QI E:=h
def tZ{l1 l2 l3 c:Nat}{ci:Int}(hci:ci=(c:Int))(A:sj y l1 l2 l3 G)(hk:y.ah.ks.length=c)(h:Q (.bl true) G):M3.run (gM [.tup [.ref l1,.ref l2,.ref l3],.int ci]) G Q E:=by
 obtain⟨h1,h2,h3⟩:=A
 walk_at "f"
 unfold jH
 lia
 refine qE (b:=true) rfl ?_
 lia
 refine EO ?_
 refine jK (f:=fun d:D=>d) (xs:=[.ref l1,.ref l2,.ref l3]) (fun i σ G'=>G'=G/\∃v,σ=[some (.tup [.ref l1,.ref l2,.ref l3]),some (.int ci),v,none,none,none]) (fun _ _ _ _=>rfl) ?_ ?_ ⟨rfl,none,rfl⟩
 · rintro i d σ G' hd ⟨rfl,v,rfl⟩
   have:d= .ref l1\/d= .ref l2\/d= .ref l3:=by
    have:=qD_ hd
    simpa using this
   rcases this with rfl |rfl |rfl
   · lia
     refine iT h1 ?_
     lia
     exact⟨rfl,_,rfl⟩
   · lia
     refine iT h2 ?_
     lia
     exact⟨rfl,_,rfl⟩
   · lia
     refine iT h3 ?_
     lia
     exact⟨rfl,_,rfl⟩
 rintro σ G' ⟨rfl,v,rfl⟩
 lia
 refine eS h1 ?_
 refine jK (fun i σ G1=>G1=G'/\∃u,σ=[some (.tup [.ref l1,.ref l2,.ref l3]),some (.int ci),v,u,none,none]) ?_ ?_ ?_ ⟨rfl,none,rfl⟩
 · rintro i σ G1 ⟨rfl,_⟩
   exact qZ_ h1
 · rintro i w σ G1 hw ⟨rfl,u,rfl⟩
   refine ay (jk ?_)
   walk_at "s"
   refine b8 (lH (jM (bT (aj (w_var rfl (aB ?_))))))
   refine xC ?_
   lia
   exact⟨rfl,_,rfl⟩
 rintro σ G1 ⟨rfl,u,rfl⟩
 lia
 refine eS h2 ?_
 refine jK (fun i σ G2=>G2=G1/\∃u',σ=[some (.tup [.ref l1,.ref l2,.ref l3]),some (.int ci),v,u,u',none]) ?_ ?_ ?_ ⟨rfl,none,rfl⟩
 · rintro i σ G2 ⟨rfl,_⟩
   exact qZ_ h2
 · rintro i w σ G2 hw ⟨rfl,u',rfl⟩
   refine ay (jk ?_)
   walk_at "s"
   cases hs:w.aY with
   |none=>
    simp only[stD]
    refine b8 (kc (dI (lL (w_var rfl (g8 (cn ?_))))))
    rw[if_neg (by decide)]
    lia
    exact⟨rfl,_,rfl⟩
   |some s=>
    refine b8 (kc (dI (lL (w_var rfl (g8 (cn ?_))))))
    rw[if_pos (by rfl)]
    refine lH (jM (bT (aj (w_var rfl (aB ?_)))))
    refine oF (s:=s) ?_
    lia
    exact⟨rfl,_,rfl⟩
 rintro σ G2 ⟨rfl,u',rfl⟩
 lia
 refine eS h3 ?_
 refine jK (fun i σ G3=>G3=G2/\∃u'',σ=[some (.tup [.ref l1,.ref l2,.ref l3]),some (.int ci),v,u,u',u'']) ?_ ?_ ?_ ⟨rfl,none,rfl⟩
 · rintro i σ G3 ⟨rfl,_⟩
   exact qZ_ h3
 · rintro i k σ G3 hw ⟨rfl,u'',rfl⟩
   refine ay (jk ?_)
   walk_at "s"
   refine b8 (lH (jM (bT (aj (w_var rfl (aB ?_))))))
   refine xG ?_
   lia
   exact⟨rfl,_,rfl⟩
 rintro σ G3 ⟨rfl,u'',rfl⟩
 refine w_next ?_
 refine bI (wd ?_)
 refine aD (bT (aj (aD (w_var rfl (w_c (bi rfl (aB ?_)))))))
 refine dD h1 ?_
 refine bT (aj (aD (w_var rfl (w_c (bi rfl (aB ?_))))))
 refine dD h2 ?_
 refine w_eq (b:=true) ?_ ?_
 · rw[qM_,qM_,eq_int]
   simp
 lia
 refine dD h3 ?_
 lia
 refine w_eq (b:=true) ?_ ?_
 · rw[qM_,eq_int,hk,hci]
   simp
 lia
 exact h
theorem oK{f:D->D->Option Bool}:∀{xs:List D},(∀x∈xs,f x x=some true)->eqZ f xs xs=some true
 | [],_=>rfl
 |a :: r,h=>by
  unfold eqZ
  rw[h a qI_,oK fun x hx=>h x (qR_ _ hx)]
  rfl
def jd{k:Nat}{xs:List D}(h:∀x∈xs,eqG G k x x=some true):eqG G (k+1) (.tup xs) (.tup xs)=some true:=by
 show (eqZ (eqG G k) xs xs).map (·&&decide (xs.length=xs.length))=some true
 rw[oK h]
 simp
def dN{k:Nat}(i:Int):eqG G (k+1) (.int i) (.int i)=some true:=by show some (decide (i=i))=_;simp
def fV{k:Nat}(i:Str):eqG G (k+1) (.str i) (.str i)=some true:=by show some (decide (i=i))=_;simp
def FL{k:Nat}(i:Bool):eqG G (k+1) (.bl i) (.bl i)=some true:=by show some (i==i)=_;simp
def all1{P:D->Prop}{a:D}(h1:P a):∀x∈ [a],P x:=by simp [h1]
def all2{P:D->Prop}{a b:D}(h1:P a)(h2:P b):∀x∈ [a,b],P x:=by simp [h1,h2]
def FD{P:D->Prop}{a b c:D}(h1:P a)(h2:P b)(h3:P c):∀x∈ [a,b,c],P x:=by simp [h1,h2,h3]
def Ck(d:bZ)(k:Nat):eqG G (k+2) (cF d) (cF d)=some true:=by
 cases d with
 |wr i v=>exact jd (FD (fV _) (dN _) (dN _))
 |rd i=>exact jd (all2 (fV _) (dN _))
 |ca n s=>exact jd (FD (fV _) (dN _) (FL _))
 |pa i j=>exact jd (FD (fV _) (dN _) (dN _))
 |sw=>exact jd (all1 (fV _))
 |ag i=>exact jd (all2 (fV _) (dN _))
 |qu i=>exact jd (all2 (fV _) (dN _))
 |st i=>exact jd (all2 (fV _) (dN _))
 |wa i=>exact jd (all2 (fV _) (dN _))
def eq_list{i j k:Nat}{xs:List D}(h1:G[i]? =some (.lst xs))(h2:G[j]? =some (.lst xs))(h:∀x∈xs,eqG G k x x=some true):eqG G (k+1) (.ref i) (.ref j)=some true:=by
 have e1:M3.listOf G i=some xs:=by unfold M3.listOf;rw[h1]
 have e2:M3.listOf G j=some xs:=by unfold M3.listOf;rw[h2]
 unfold eqG
 dsimp only
 rw[e1,e2]
 dsimp only
 rw[if_pos rfl]
 exact oK h
def uW{c m l:Nat}{ci mi:Int}{ds:List bZ}(hci:ci=(c:Int))(hmi:mi=(m:Int))(hc:c<=9)(hm:m<=9)(hl:G[l]? =some (.lst (ds.map cF)))(hz:ds.length<=1000)
 (hq:∀l1 l2 l3 G',Chg [] G G'->G.length<=l1->G.length<=l2->G.length<=l3->sj (fN (bJ c m) ds) l1 l2 l3 G'->Q (.tup [.ref l1,.ref l2,.ref l3]) G'):M3.run (iM [.int ci,.int mi,.ref l]) G Q E:=by
 have hll:=az hl
 walk_at "f"
 unfold ly
 refine aA (bB (bT (aj (w_var rfl (aB ?_)))))
 refine BO hl ?_
 have c1:Chg [] G (G++[O.lst (ds.map cF)]):=Chg.add _ _
 have h1:=bc G (.lst (ds.map cF))
 have l1:(G++[O.lst (ds.map cF)]).length=G.length+1:=by simp
 generalize G++[O.lst (ds.map cF)]=G1 at*
 refine w_next ?_
 walk_at "s"
 refine aA (bB (bT (aj (w_var rfl (aj (w_var rfl (aj (w_var rfl (aB ?_)))))))))
 refine uM hci hmi hc hm h1 hz fun a1 a2 a3 G2 c2 g1 g2 g3 A=>?_
 refine w_next ?_
 walk_at "s"
 refine aA (b8 (oY (dI (aD (w_var rfl (w_var rfl ?_))))))
 refine qE (b:=true) (eq_list (c2.get h1 (by simp)) ((c1.trans c2).get hl (by simp)) fun x hx=>?_) ?_
 · obtain⟨d,_,rfl⟩:=qH_.mp hx
   exact Ck d 5
 lia
 have hk:(fN (bJ c m) ds).ah.ks.length=c:=by
  rw[(oi (kB hc hm) ds).2.2.2]
  show (List.replicate c k0).length=c
  simp
 refine tZ hci A hk ?_
 lia
 exact hq a1 a2 a3 G2 (c1.trans c2) (by omega) (by omega) (by omega) A
def Fv{n:Nat}{xs:List D}{i:Nat}{d:D}(hn:G[n]? =some (.lst xs))(h:xs[i]? =some d)(hq:Q d G):M3.run (oIx (.ref n) (.int (i:Int))) G Q E:=by
 have:=iH (f:=fun d:D=>d) h
 rw[List.map_id']at this
 with_reducible exact eE hn this hq
end
def asg(hs:List Hd):List (Nat×Nat)->Nat->Option (Int×Int)
 | [],_=>none
 |e :: r,q=>match asg hs r q with
  |some s=>some s
  |none=>if e.2=q then ((hs[e.1]?).bind (·.pair)).map (·.1)else none
def app(o:Option (Int×Int))(w:Wk):Wk:=match o with
 |none=>w
 |some s=>{w with aY:=some s}
def yC(y:Sy)(e:Nat×Nat)(q:Nat):(aU y e).af[q]? =(y.af[q]?).map (app (if e.2=q then ((y.ah.hs[e.1]?).bind (·.pair)).map (·.1)else none)):=by
 unfold aU
 cases hp:(y.ah.hs[e.1]?).bind (·.pair)with
 |none=>
  have e0:(if e.2=q then Option.map (·.1) (none:Option Pr)else none)=none:=by split <;> rfl
  rw[e0]
  show y.af[q]? =(y.af[q]?).map (app none)
  cases y.af[q]? <;> rfl
 |some p=>
  unfold gU
  cases hw:y.af[e.2]? with
  |none=>
   dsimp only
   by_cases z:e.2=q
   · subst z;rw[hw];rfl
   · rw[if_neg z];cases y.af[q]? <;> rfl
  |some w=>
   dsimp only
   by_cases z:e.2=q
   · subst z
     rw[if_pos rfl,qU_ (qB_.mp hw).1,hw]
     rfl
   · rw[if_neg z,qV_ z]
     cases y.af[q]? <;> rfl
theorem dh:∀(l:List (Nat×Nat)) (y:Sy) (q:Nat),(l.foldl aU y).af[q]? =(y.af[q]?).map (app (asg y.ah.hs l q))
 | [],y,q=>by
   show y.af[q]? =(y.af[q]?).map (app none)
   cases y.af[q]? <;> rfl
 |e :: l,y,q=>by
  show (l.foldl aU (aU y e)).af[q]? =_
  rw[dh l (aU y e) q,yC,(nK y e).2.1]
  rw[show asg y.ah.hs (e :: l) q=(match asg y.ah.hs l q with
   |some s=>some s
   |none=>if e.2=q then ((y.ah.hs[e.1]?).bind (·.pair)).map (·.1)else none)from rfl]
  cases h1:asg y.ah.hs l q with
  |none=>dsimp only;cases y.af[q]? <;> rfl
  |some s=>
   dsimp only
   cases y.af[q]? with
   |none=>rfl
   |some w=>
    show some (app (some s) (app _ w))=some (app (some s) w)
    generalize (if e.2=q then _ else _:Option (Int×Int))=o
    cases o <;> rfl
def Sy.eq4{a b:Sy}(h1:a.ah=b.ah)(h2:a.af=b.af)(h3:a.last=b.last)(h4:a.aE=b.aE):a=b:=by
 cases a;cases b;simp_all
def uN(y:Sy):aH (aH y)=aH y:=by
 obtain⟨a1,a2,a3,a4⟩:=bP y.last y
 unfold aH
 obtain⟨b1,b2,b3,b4⟩:=bP (y.last.foldl aU y).last (y.last.foldl aU y)
 refine Sy.eq4 b2 ?_ b1 b3
 apply List.ext_getElem?
 intro q
 rw[dh,a1,a2,dh]
 cases y.af[q]? with
 |none=>rfl
 |some w=>
  show some (app _ (app _ w))=some (app _ w)
  cases asg y.ah.hs y.last q <;> rfl
def r6(y:Sy):aH (bW y)=bW (aH y):=by
 unfold aH
 show y.last.foldl aU (bW y)=bW (y.last.foldl aU y)
 generalize y.last=l
 induction l generalizing y with
 |nil=>rfl
 |cons e l ih=>
  show l.foldl aU (aU (bW y) e)=bW (l.foldl aU (aU y e))
  rw[<-ih]
  congr 1
  unfold aU
  show (match (y.ah.hs[e.1]?).bind (·.pair)with |none=>bW y |some p=>gU (bW y) e.2 (nr p))=_
  cases (y.ah.hs[e.1]?).bind (·.pair)with
  |none=>rfl
  |some p=>
   dsimp only
   unfold gU
   show (match y.af[e.2]? with |none=>bW y |some w=>{bW y with af:=y.af.set e.2 (nr p w)})=_
   cases y.af[e.2]? <;> rfl
def pS(y:Sy):Prop:=aH y=y
def sM(c m:Nat):pS (bJ c m):=rfl
def uT(y:Sy)(d:bZ):pS (aO y d).1:=by
 show aH (bW (aH (gq y d).1))=bW (aH (gq y d).1)
 rw[r6,uN]
def BU{y:Sy}{d:bZ}{c:Nat}(hn:pS y)(h:doneF y d= .no c):aO y d=(bW y,.one (.str (wordOf c))):=by
 have e:gq y d=(y,.one (.str (wordOf c))):=by unfold gq;rw[h]
 unfold aO
 rw[e]
 show (bW (aH y),_)=_
 rw[hn]
def qb(k:Nat):lastOf [] k=0:=rfl
def fG(e:Nat×Nat)(l:List (Nat×Nat))(k:Nat):lastOf (e :: l) k=if e.1=k then e.2 else lastOf l k:=by
 unfold lastOf
 rw[List.find?_cons]
 by_cases z:e.1=k
 · rw[qZ_ z,if_pos z];rfl
 · rw[qa_ z,if_neg z]
def vQ(l:List (Nat×Nat))(j p k:Nat):lastOf (l.map fun e=>if e.1=j then (e.1,p)else e) k=if k=j/\(l.any fun e=>decide (e.1=j))=true then p else lastOf l k:=by
 induction l with
 |nil=>simp [qb]
 |cons e r ih=>
  rw[List.map_cons,fG,fG,ih,List.any_cons]
  by_cases z:e.1=j
  · rw[if_pos z,qZ_ z]
    dsimp only
    by_cases w:e.1=k
    · rw[if_pos w,if_pos ⟨by omega,by simp⟩]
    · rw[if_neg w,if_neg w,if_neg (by omega),if_neg (by omega)]
  · rw[if_neg z,qa_ z,Bool.false_or]
    by_cases w:e.1=k
    · rw[if_pos w,if_pos w,if_neg (by omega)]
    · rw[if_neg w,if_neg w]
def vh(l:List (Nat×Nat))(j p k:Nat)(h:(l.any fun e=>decide (e.1=j))=false):lastOf (l++[(j,p)]) k=if k=j then p else lastOf l k:=by
 induction l with
 |nil=>
  rw[qc_,fG,qb]
  by_cases z:k=j
  · rw[if_pos z.symm,if_pos z]
  · rw[if_neg (Ne.symm z),if_neg z]
 |cons e r ih=>
  rw[List.any_cons,Bool.or_eq_false_iff]at h
  rw[List.cons_append,fG,fG,ih h.2]
  have hz:=of_decide_eq_false h.1
  by_cases w:e.1=k
  · rw[if_pos w,if_pos w,if_neg (by omega)]
  · rw[if_neg w,if_neg w]
def vj(l:List (Nat×Nat))(j p k:Nat):lastOf (putL l j p) k=if k=j then p else lastOf l k:=by
 unfold putL
 cases h:(l.any fun e=>decide (e.1=j))with
 |true=>
  rw[if_pos rfl,vQ,h]
  by_cases z:k=j
  · rw[if_pos ⟨z,rfl⟩,if_pos z]
  · rw[if_neg (by omega),if_neg z]
 |false=>
  rw[if_neg qC_]
  exact vh l j p k h
def GK(p:Nat):D:= .int (p:Int)
section
variable{G G':Hh}{Q:D->Hh->Prop}{E:Nat->Hh->Prop}{σ:St}{y:Sy}{QA:List D->Hh->Prop}
def Ht{ws:List Wk}{lw:Nat}{p:Nat}{w:Wk}(hw:G[lw]? =some (.lst (ws.map mJ)))(hp:ws[p]? =some w)(h:Q (mJ w) G):M3.run (oIx (.ref lw) (GK p)) G Q E:=by
 unfold GK
 with_reducible exact eE hw (iH hp) h
end
section
variable{G G':Hh}{Q:D->Hh->Prop}{E:Nat->Hh->Prop}{σ:St}{y:Sy}
def yI(ns:List Int)(a b:Nat):∃ms:List Int,cutD (ns.map D.int) (some (a:Int)) (some (b:Int))=ms.map D.int/\ms.length<=b - a:=by
 unfold cutD
 refine⟨(ns.drop (sIx (ns.map D.int).length 0 (some (a:Int)))).take (sIx (ns.map D.int).length (ns.map D.int).length (some (b:Int)) - sIx (ns.map D.int).length 0 (some (a:Int))),?_,?_⟩
 · rw[List.map_take,List.map_drop]
 · rw[List.length_take,List.length_drop,qM_]
   unfold sIx
   dsimp only
   rw[if_neg (by omega),if_neg (by omega)]
   omega
def Fu{n:Nat}{xs:List D}{lo hi:Option Int}(hn:G[n]? =some (.frz xs))(h:∀G',Chg [] G G'->G'.length=G.length+1->G'[G.length]? =some (.lst (cutD xs lo hi))->Q (.ref G.length) G'):M3.run (oSl (.ref n) lo hi) G Q E:=
 HG hn (h _ (Chg.add _ _) (by simp) (bc _ _))
def uP{xs:List Int}{v:Int}(h:v∈xs)(hx:∀x∈xs,1<=x/\x<=9):∃c:Nat,v=(c:Int)/\0 < c/\c<=9:=by
 obtain⟨h1,h2⟩:=hx v h
 exact⟨v.toNat,by omega,by omega,by omega⟩
end
section
variable{G G':Hh}{Q:D->Hh->Prop}{E:Nat->Hh->Prop}{σ:St}{y:Sy}{QS:Fl×St->Hh->Prop}
def wI{k:Nat}{a b:Str}:eqG G (k+1) (.str a) (.str b)=some (decide (a=b)):=rfl
end
def gh{a b:Int×Int}:gtS a b=true↔b.1 < a.1\/(b.1=a.1/\b.2 < a.2):=by
 unfold gtS
 simp only[k6]
 by_cases h:b.1=a.1
 · rw[if_pos h]
   by_cases h2:b.2=a.2
   · rw[if_pos h2];simp;omega
   · rw[if_neg h2,decide_eq_true_eq];omega
 · rw[if_neg h,decide_eq_true_eq];omega
def eM(a:Int×Int):gtS a a=false:=by
 cases h:gtS a a with
 |false=>rfl
 |true=>have:=gh.mp h;omega
def ym{a b c:Int×Int}(h:gtS a b=true)(g:gtS b c=true):gtS a c=true:=by
 have h:=gh.mp h
 have g:=gh.mp g
 exact gh.mpr (by omega)
def Cp(k:Kr)(p:Pr):(lS k p).up=k.up:=by
 unfold lS
 split <;> rfl
theorem wy:∀(r:List Int) (m:Int),m<=jr m r/\∀x∈r,x<=jr m r
 | [],m=>⟨Int.le_refl _,by simp⟩
 |x :: r,m=>by
  obtain⟨h1,h2⟩:=wy r (if x > m then x else m)
  show m<=jr (if x > m then x else m) r/\∀z∈x :: r,z<=jr (if x > m then x else m) r
  have e:m<=(if x > m then x else m)/\x<=(if x > m then x else m):=by split <;> omega
  refine⟨by omega,fun z hz=>?_⟩
  rcases qS_.mp hz with rfl |hz
  · omega
  · exact h2 z hz
def xa{ps:List Pr}{own:Int}:(∀p∈ps,p.1.1<=lP ps own)/\own<=lP ps own:=by
 have key:∀x∈turns ps++[own],x<=lP ps own:=by
  intro x hx
  unfold lP
  split
  · rename_i m r e
    rw[e]at hx
    obtain⟨h1,h2⟩:=wy r m
    rcases qS_.mp hx with rfl |hx
    · exact h1
    · exact h2 x hx
  · rename_i e
    simp at e
 exact⟨fun p hp=>key _ (qF_ _ (qH_.mpr ⟨p,hp,rfl⟩)),key own (by simp)⟩
def meet{n:Nat}{a b:List Nat}(ha:a.Nodup)(hb:b.Nodup)(la:∀x∈a,x < n)(lb:∀x∈b,x < n)(na:n < 2*a.length)(nb:n < 2*b.length):∃x∈a,x∈b:=by
 apply Classical.byContradiction
 intro h
 have:(a++b).Nodup:=by
  rw[List.nodup_append]
  refine⟨ha,hb,fun x hx y hy e=>h ⟨x,hx,by rw[e];exact hy⟩⟩
 have:=oU n (a++b) this (fun x hx=>(qG_.mp hx).elim (la x) (lb x))
 rw[qN_]at this
 omega
def xn{sel:Hl->Option Nat}(hs:Sel sel)(P:Hl->List (Nat×Pr)->Prop)(step:∀st es p,WF st->sel st=some p->P st es->P (aJ st p false).1 (es++(aJ st p false).2)):
 ∀(n:Nat) (st:Hl) (es:List (Nat×Pr)),mea st<=n->WF st->P st es->WF (cP sel st).1/\P (cP sel st).1 (es++(cP sel st).2)/\sel (cP sel st).1=none:=by
 intro n
 induction n with
 |zero=>
  intro st es hm W h
  cases q:sel st with
  |none=>
   rw[cM q,qY_]
   exact⟨W,h,q⟩
  |some p=>have:=bK W (hs st p q);omega
 |succ n ih=>
  intro st es hm W h
  cases q:sel st with
  |none=>
   rw[cM q,qY_]
   exact⟨W,h,q⟩
  |some p=>
   have h1:=bK W (hs st p q)
   rw[iB hs W q,<-List.append_assoc]
   exact ih _ _ (by omega) (gP W p false) (step st es p W q h)
theorem rm:∀{a b:List Nat},a.Nodup->(∀x∈a,x∈b)->a.length<=b.length
 | [],b,_,_=>qf_ _
 |x :: r,b,hn,h=>by
  have hx:=h x qI_
  rw[List.nodup_cons]at hn
  have:=rm (a:=r) (b:=b.erase x) hn.2 fun y hy=>(List.mem_erase_of_ne (by rintro rfl;exact hn.1 hy)).mpr (h y (qR_ _ hy))
  rw[List.length_erase_of_mem hx]at this
  have:0 < b.length:=List.length_pos_of_mem hx
  simp only[List.length_cons]
  omega
def set_same{α:Type}{xs:List α}{i:Nat}{x:α}(h:xs[i]? =some x):xs.set i x=xs:=by
 apply List.ext_getElem?
 intro j
 rw[qJ_]
 split
 · rename_i e
   subst e
   split
   · exact h.symm
   · rename_i z
     have:=(qB_.mp h).1
     exact absurd this z
 · rfl
section
variable{ks0:List Kr}{hs0:List Hd}{j:Nat}{r:Int}{vo:Option Int}{P0:Pr}
def oM{h:Hd}{l:Lt}(z:h.atw=false\/l.num≠h.rnd):aL h l=(h,[],none):=by
 unfold aL
 rw[if_pos]
 rcases z with z |z
 · rw[z];rfl
 · rw[qa_ z];simp
def pz{h:Hd}{l:Lt}(ha:h.atw=true)(hn:l.num=h.rnd)(hs:¬h.cnt < (aS h.ak l.kpr l.pair).length*2):aL h l=({h with ak:=aS h.ak l.kpr l.pair},[],none):=by
 unfold aL
 rw[if_neg (by rw[ha,qZ_ hn];decide)]
 dsimp only
 rw[if_pos (by rw[qa_ hs];rfl)]
def lT{h:Hd}{l:Lt}(ha:h.atw=true)(hn:l.num=h.rnd)(hs:h.cnt < (aS h.ak l.kpr l.pair).length*2)(hp:h.pair=none):
 aL h l=(roundF (aV {h with ak:=aS h.ak l.kpr l.pair} (vals (aS h.ak l.kpr l.pair))).1 (some (aV {h with ak:=aS h.ak l.kpr l.pair} (vals (aS h.ak l.kpr l.pair))).2),bp (roundF (aV {h with ak:=aS h.ak l.kpr l.pair} (vals (aS h.ak l.kpr l.pair))).1 (some (aV {h with ak:=aS h.ak l.kpr l.pair} (vals (aS h.ak l.kpr l.pair))).2)),none):=by
 unfold aL
 rw[if_neg (by rw[ha,qZ_ hn];decide)]
 dsimp only
 rw[if_neg (by rw[qZ_ hs];decide),hp]
def pj{h:Hd}{l:Lt}{P:Pr}(ha:h.atw=true)(hn:l.num=h.rnd)(hs:h.cnt < (aS h.ak l.kpr l.pair).length*2)(hp:h.pair=some P):
 aL h l=({h with ak:=aS h.ak l.kpr l.pair,atw:=false},[],some P):=by
 unfold aL
 rw[if_neg (by rw[ha,qZ_ hn];decide)]
 dsimp only
 rw[if_neg (by rw[qZ_ hs];decide),hp]
end
inductive rM (a:Hl) (p:Pr):Prop
 |k (k:Kr) (h:k∈a.ks) (e:k.pair=p)
 |r (x:Bool×Lt) (h:x∈a.row) (e:x.2.pair=some p)
 |h (j:Nat) (g:Hd) (h:a.hs[j]? =some g) (e:g.pair=some p)
 |d (j:Nat) (g:Hd) (h:a.hs[j]? =some g) (x:Nat×Option Pr) (hx:x∈g.ak) (e:x.2=some p)
def wK(a:Hl)(q:Pr):Prop:=∃(j:Nat) (h:Hd),a.hs[j]? =some h/\h.pair=some q/\h.val=some q.2/\q.1=(h.own,(j:Int))
def HGo(j:Nat)(h h':Hd):Prop:=h'.val=h.val/\((h'.pair=h.pair/\h'.own=h.own)\/(h.pair=none/\∃q,h'.pair=some q/\match h.val with
 |none=>h'.own=h.own
 |some v=>h.own < h'.own/\q=((h'.own,(j:Int)),v)))
def HGo.refl(j:Nat)(h:Hd):HGo j h h:=⟨rfl,.inl ⟨rfl,rfl⟩⟩
theorem HGo.trans{j:Nat}{a b c:Hd}(h:HGo j a b)(g:HGo j b c):HGo j a c:=by
 obtain⟨v1,h⟩:=h
 obtain⟨v2,g⟩:=g
 refine⟨v2.trans v1,?_⟩
 rcases g with ⟨g1,g2⟩ |⟨g1,q,g2,g3⟩
 · rcases h with ⟨h1,h2⟩ |⟨h1,q,h2,h3⟩
   · exact .inl ⟨g1.trans h1,g2.trans h2⟩
   · refine .inr ⟨h1,q,g1.trans h2,?_⟩
     revert h3
     cases a.val with
     |none=>intro h3;exact g2.trans h3
     |some v=>intro h3;rw[g2];exact h3
 · rcases h with ⟨h1,h2⟩ |⟨h1,q',h2,h3⟩
   · refine .inr ⟨h1.symm.trans g1,q,g2,?_⟩
     rw[v1]at g3
     revert g3
     cases a.val with
     |none=>intro g3;exact g3.trans h2
     |some v=>intro g3;rw[<-h2];exact g3
   · rw[h2]at g1
     cases g1
structure Evo (a b:Hl):Prop where
 hl:b.hs.length=a.hs.length
 go:∀(j:Nat) h h',a.hs[j]? =some h->b.hs[j]? =some h'->HGo j h h'
 pr:∀q,rM b q->rM a q\/q=start\/wK b q
theorem Evo.refl(a:Hl):Evo a a:=⟨rfl,fun j h h' e e'=>by rw[e]at e';cases e';exact HGo.refl j h,fun q h=>.inl h⟩
def Evo.get{a b:Hl}(E:Evo a b){j:Nat}{h':Hd}(e:b.hs[j]? =some h'):∃h,a.hs[j]? =some h/\HGo j h h':=by
 have hj:=(qB_.mp e).1
 have e0:a.hs[j]? =some (a.hs[j]'(by rw[<-E.hl];exact hj)):=qA_ _
 exact⟨_,e0,E.go j _ _ e0 e⟩
def Evo.get'{a b:Hl}(E:Evo a b){j:Nat}{h:Hd}(e:a.hs[j]? =some h):∃h',b.hs[j]? =some h'/\HGo j h h':=by
 have hj:=(qB_.mp e).1
 have e0:b.hs[j]? =some (b.hs[j]'(by rw[E.hl];exact hj)):=qA_ _
 exact⟨_,e0,E.go j _ _ e e0⟩
def HGo.keeps{j:Nat}{h h':Hd}(g:HGo j h h'){q:Pr}(e:h.pair=some q):h'.pair=some q/\h'.own=h.own/\h'.val=h.val:=by
 rcases g.2 with ⟨a,b⟩ |⟨a,_⟩
 · exact⟨a.trans e,b,g.1⟩
 · rw[e]at a;cases a
def Evo.fresh{a b:Hl}(E:Evo a b){q:Pr}(F:wK a q):wK b q:=by
 obtain⟨j,h,e,h1,h2,h3⟩:=F
 obtain⟨h',e',g⟩:=E.get' e
 obtain⟨k1,k2,k3⟩:=g.keeps h1
 exact⟨j,h',e',k1,k3.trans h2,by rw[k2];exact h3⟩
theorem Evo.trans{a b c:Hl}(E:Evo a b)(F:Evo b c):Evo a c:=by
 refine⟨F.hl.trans E.hl,fun j h h' e e'=>?_,fun q hq=>?_⟩
 · obtain⟨m,em,g⟩:=E.get' e
   exact g.trans (F.go j m h' em e')
 · rcases F.pr q hq with z |z |z
   · rcases E.pr q z with w |w |w
     · exact .inl w
     · exact .inr (.inl w)
     · exact .inr (.inr (F.fresh w))
   · exact .inr (.inl z)
   · exact .inr (.inr z)
def xS(ps:List Pr):∀b:Pr,ps.foldl better b=b\/ps.foldl better b∈ps:=by
 induction ps with
 |nil=>intro b;exact .inl rfl
 |cons p r ih=>
  intro b
  show r.foldl better (better b p)=b\/_∈p :: r
  rcases ih (better b p)with h |h
  · show r.foldl better (better b p)=b\/r.foldl better (better b p)∈p :: r
    rw[h]
    by_cases z:gtS p.1 b.1=true
    · have e:better b p=p:=if_pos z
      rw[e]
      exact .inr qI_
    · exact .inl (if_neg z)
  · exact .inr (qR_ _ h)
def Ae{l:List (Nat×Option Pr)}{p:Pr}(h:p∈vals l):∃x∈l,x.2=some p:=by
 unfold vals at h
 obtain⟨x,hx,e⟩:=List.mem_filterMap.mp h
 exact⟨x,hx,e⟩
def BY{j:Nat}{h:Hd}(hn:h.num=j)(l:Lt):HGo j h (aL h l).1/\
 (∀p,(aL h l).1.pair=some p->h.pair=some p\/p=start\/(∃x∈h.ak,x.2=some p)\/l.pair=some p\/((aL h l).1.val=some p.2/\p.1=((aL h l).1.own,(j:Int))))/\
 (∀x∈(aL h l).1.ak,x∈h.ak\/x.2=l.pair)/\(∀x∈(aL h l).2.1,x.pair=(aL h l).1.pair)/\(∀p,(aL h l).2.2=some p->(aL h l).1.pair=some p):=by
 by_cases z:h.atw=false\/l.num≠h.rnd
 · rw[oM z]
   exact⟨HGo.refl j h,fun p e=>.inl e,fun x hx=>.inl hx,fun x hx=>(by cases hx),fun p e=>by cases e⟩
 have za:h.atw=true:=by
  cases q:h.atw with
  |true=>rfl
  |false=>exact absurd (.inl q) z
 have zn:l.num=h.rnd:=Classical.byContradiction fun q=>z (.inr q)
 have hm:∀x∈aS h.ak l.kpr l.pair,x∈h.ak\/x.2=l.pair:=fun x hx=>by
  rcases eW hx with w |w
  · exact .inr w.2
  · exact .inl w
 by_cases big:h.cnt < (aS h.ak l.kpr l.pair).length*2
 · cases hp:h.pair with
   |some P=>
    rw[pj za zn big hp]
    exact⟨⟨rfl,.inl ⟨rfl,rfl⟩⟩,fun p e=>.inl (hp.symm.trans e),hm,fun x hx=>(by cases hx),fun p e=>by cases e;exact hp⟩
   |none=>
    have hvv:h.val=none\/∃v,h.val=some v:=by
     cases h.val with
     |none=>exact .inl rfl
     |some v=>exact .inr ⟨v,rfl⟩
    rcases hvv with hv |⟨v,hv⟩
    · have ec:aV {h with ak:=aS h.ak l.kpr l.pair} (vals (aS h.ak l.kpr l.pair))=({h with ak:=aS h.ak l.kpr l.pair},oq (vals (aS h.ak l.kpr l.pair))):=by
       unfold aV
       show (match h.val with |none=>_ |some v=>_)=_
       rw[hv]
      rw[lT za zn big hp,ec]
      refine⟨⟨rfl,.inr ⟨hp,_,rfl,?_⟩⟩,fun p e=>?_,fun x hx=>(by cases hx),fun x hx=>?_,fun p e=>by cases e⟩
      · rw[hv]
        rfl
      · have e:some (oq (vals (aS h.ak l.kpr l.pair)))=some p:=e
        cases e
        rcases xS (vals (aS h.ak l.kpr l.pair)) start with w |w
        · exact .inr (.inl w)
        · obtain⟨x,hx,ex⟩:=Ae w
          rcases hm x hx with u |u
          · exact .inr (.inr (.inl ⟨x,u,ex⟩))
          · exact .inr (.inr (.inr (.inl (u.symm.trans ex))))
      · obtain⟨k,_,rfl⟩:=qH_.mp hx
        rfl
    · have ec:aV {h with ak:=aS h.ak l.kpr l.pair} (vals (aS h.ak l.kpr l.pair))=({h with ak:=aS h.ak l.kpr l.pair,own:=lP (vals (aS h.ak l.kpr l.pair)) h.own+1},((lP (vals (aS h.ak l.kpr l.pair)) h.own+1,(h.num:Int)),v)):=by
       unfold aV
       show (match h.val with |none=>_ |some v=>_)=_
       rw[hv]
      rw[lT za zn big hp,ec]
      subst hn
      refine⟨⟨rfl,.inr ⟨hp,_,rfl,?_⟩⟩,fun p e=>?_,fun x hx=>(by cases hx),fun x hx=>?_,fun p e=>by cases e⟩
      · rw[hv]
        have:=(xa (ps:=vals (aS h.ak l.kpr l.pair)) (own:=h.own)).2
        refine⟨?_,rfl⟩
        show h.own < lP _ h.own+1
        omega
      · have e:some ((lP (vals (aS h.ak l.kpr l.pair)) h.own+1,(h.num:Int)),v)=some p:=e
        cases e
        exact .inr (.inr (.inr (.inr ⟨hv,rfl⟩)))
      · obtain⟨k,_,rfl⟩:=qH_.mp hx
        rfl
 · rw[pz za zn big]
   exact⟨⟨rfl,.inl ⟨rfl,rfl⟩⟩,fun p e=>.inl e,hm,fun x hx=>(by cases hx),fun p e=>by cases e⟩
def tL(k:Kr)(l:Lt):((aQ k l).1.pair=k.pair\/l.pair=some (aQ k l).1.pair)/\∀x,(aQ k l).2=some x->x.pair=none\/x.pair=some k.pair:=by
 unfold aQ
 split
 · split
   · exact⟨.inl rfl,fun x e=>by cases e;exact .inr rfl⟩
   · rename_i p hp
     refine⟨?_,fun x e=>by cases e;exact .inl rfl⟩
     unfold lS
     split
     · exact .inr hp
     · exact .inl rfl
 · exact⟨.inl rfl,fun x e=>by cases e⟩
def pE{a:Hl}(W:WF a)(p:Nat)(s:Bool):Evo a (aJ a p s).1/\∀e∈(aJ a p s).2,∃h,(aJ a p s).1.hs[e.1]? =some h/\h.pair=some e.2:=by
 unfold aJ
 cases hr:a.row[p]? with
 |none=>exact⟨Evo.refl a,fun e he=>by cases he⟩
 |some e=>
  have hm:e∈a.row:=qD_ hr
  obtain⟨b,l⟩:=e
  cases b with
  |false=>
   dsimp only
   cases hk:a.ks[l.kpr]? with
   |none=>exact⟨Evo.refl a,fun e he=>by cases he⟩
   |some k=>
    dsimp only
    obtain⟨p1,p2⟩:=tL k l
    have kin:=qD_ hk
    refine⟨⟨rfl,fun j h h' e e'=>by have e':a.hs[j]? =some h':=e';rw[e]at e';cases e';exact HGo.refl j h,fun q hq=>.inl ?_⟩,fun e he=>by cases he⟩
    cases hq with
    |k x hx e=>
     rcases List.mem_or_eq_of_mem_set hx with w |w
     · exact .k x w e
     · subst w
       rcases p1 with z |z
       · exact .k k kin (z.symm.trans e)
       · exact .r _ hm (by rw[<-e];exact z)
    |r x hx e=>
     rcases qG_.mp hx with w |w
     · exact .r x (kI w) e
     · revert w
       cases hz:(aQ k l).2 with
       |none=>intro w;cases w
       |some u=>
        intro w
        simp at w
        subst w
        rcases p2 u hz with z |z
        · have e:u.pair=some q:=e
          rw[z]at e;cases e
        · have e:u.pair=some q:=e
          rw[z]at e
          cases e
          exact .k k kin rfl
    |h j g h e=>exact .h j g h e
    |d j g h x hx e=>exact .d j g h x hx e
  |true=>
   dsimp only
   cases hh:a.hs[l.hand]? with
   |none=>exact⟨Evo.refl a,fun e he=>by cases he⟩
   |some h=>
    dsimp only
    have hn:h.num=l.hand:=(W.hk _ h hh).1
    have hlt:=(qB_.mp hh).1
    obtain⟨g1,g2,g3,g4,g5⟩:=BY hn l
    have get:∀i,(a.hs.set l.hand (aL h l).1)[i]? =if i=l.hand then some (aL h l).1 else a.hs[i]?:=fun i=>by
     rw[qJ_]
     by_cases z:l.hand=i
     · rw[if_pos z,if_pos z.symm,if_pos hlt]
     · rw[if_neg z,if_neg (fun q=>z q.symm)]
    have self:(a.hs.set l.hand (aL h l).1)[l.hand]? =some (aL h l).1:=by rw[get,if_pos rfl]
    have newp:∀q,(aL h l).1.pair=some q->rM a q\/q=start\/wK {a with hs:=a.hs.set l.hand (aL h l).1,row:=cI a p s++(aL h l).2.1.map fun x=>(false,x)} q:=fun q e=>by
     rcases g2 q e with z |z |⟨x,hx,z⟩ |z |⟨z1,z2⟩
     · exact .inl (.h l.hand h hh z)
     · exact .inr (.inl z)
     · exact .inl (.d l.hand h hh x hx z)
     · exact .inl (.r _ hm z)
     · exact .inr (.inr ⟨l.hand,(aL h l).1,self,e,z1,z2⟩)
    refine⟨⟨by rw[qX_],fun j g g' e e'=>?_,fun q hq=>?_⟩,fun e he=>?_⟩
    · have e2:(a.hs.set l.hand (aL h l).1)[j]? =some g':=e'
      rw[get]at e2
      by_cases z:j=l.hand
      · rw[if_pos z]at e2
        subst z
        rw[hh]at e
        cases e
        have e2:=Option.some.inj e2
        rw[<-e2]
        exact g1
      · rw[if_neg z,e]at e2
        cases e2
        exact HGo.refl j g
    · cases hq with
      |k x hx e=>exact .inl (.k x hx e)
      |r x hx e=>
       rcases qG_.mp hx with w |w
       · exact .inl (.r x (kI w) e)
       · obtain⟨u,hu,rfl⟩:=qH_.mp w
         exact newp q ((g4 u hu).symm.trans e)
      |h j g h' e=>
       have h':(a.hs.set l.hand (aL h l).1)[j]? =some g:=h'
       rw[get]at h'
       split at h'
       · cases h'
         exact newp q e
       · exact .inl (.h j g h' e)
      |d j g h' x hx e=>
       have h':(a.hs.set l.hand (aL h l).1)[j]? =some g:=h'
       rw[get]at h'
       split at h'
       · cases h'
         rcases g3 x hx with z |z
         · exact .inl (.d l.hand h hh x z e)
         · exact .inl (.r _ hm (z.symm.trans e))
       · exact .inl (.d j g h' x hx e)
    · revert he
      cases hz:(aL h l).2.2 with
      |none=>intro he;cases he
      |some P=>
       intro he
       simp at he
       subst he
       exact⟨_,self,g5 P hz⟩
def oE{sel:Hl->Option Nat}(hs:Sel sel){a:Hl}(W:WF a):Evo a (cP sel a).1/\∀e∈(cP sel a).2,∃h,(cP sel a).1.hs[e.1]? =some h/\h.pair=some e.2:=by
 obtain⟨_,h,_⟩:=xn hs (fun st es=>Evo a st/\∀e∈es,∃h,st.hs[e.1]? =some h/\h.pair=some e.2) (fun st es p W hsel ⟨E,h⟩=>by
  obtain⟨E1,h1⟩:=pE W p false
  refine⟨E.trans E1,fun e he=>?_⟩
  rcases qG_.mp he with z |z
  · obtain⟨g,e1,e2⟩:=h e z
    obtain⟨g',e3,go⟩:=E1.get' e1
    exact⟨g',e3,(go.keeps e2).1⟩
  · exact h1 e z) (mea a) a [] (qO_ _) W ⟨Evo.refl a,fun e he=>by cases he⟩
 rw[qc_]at h
 exact h
theorem mh{hs:List Hd}:∀{l:List (Nat×Nat)} {q:Nat} {s:Int×Int},asg hs l q=some s->∃e∈l,e.2=q/\((hs[e.1]?).bind (·.pair)).map (·.1)=some s
 | [],q,s,h=>by cases h
 |e :: r,q,s,h=>by
  unfold asg at h
  cases hr:asg hs r q with
  |some t=>
   rw[hr]at h
   cases h
   obtain⟨x,hx,h1,h2⟩:=mh hr
   exact⟨x,qR_ _ hx,h1,h2⟩
  |none=>
   rw[hr]at h
   dsimp only at h
   split at h
   · rename_i z
     exact⟨e,qI_,z,h⟩
   · cases h
theorem ur{hs:List Hd}:∀{l:List (Nat×Nat)} {q:Nat},asg hs l q=none->∀e∈l,e.2=q->(hs[e.1]?).bind (·.pair)=none
 | [],q,h,e,he,_=>by cases he
 |x :: r,q,h,e,he,hq=>by
  unfold asg at h
  cases hr:asg hs r q with
  |some t=>rw[hr]at h;cases h
  |none=>
   rw[hr]at h
   dsimp only at h
   rcases qS_.mp he with rfl |he
   · rw[if_pos hq]at h
     cases hz:(hs[e.1]?).bind (·.pair)with
     |none=>rfl
     |some p=>rw[hz]at h;cases h
   · exact ur hr e he hq
def zf(y:Sy)(e:Nat×Pr)(p:Nat)(w':Wk)(h:(kW y e).af[p]? =some w'):∃w,y.af[p]? =some w/\w'.hand=w.hand/\w'.rd=w.rd/\w'.aY=w.aY/\w'.beg=w.beg/\(w'=w\/(p=lastOf y.last e.1/\w'.val=some e.2.2/\w'.en=some y.aE)):=by
 unfold kW gU at h
 cases hw:y.af[lastOf y.last e.1]? with
 |none=>rw[hw]at h;exact⟨w',h,rfl,rfl,rfl,rfl,.inl rfl⟩
 |some u=>
  rw[hw]at h
  dsimp only at h
  rw[qJ_]at h
  split at h
  · rename_i z
    split at h
    · cases h
      exact⟨u,by rw[<-z];exact hw,rfl,rfl,rfl,rfl,.inr ⟨z.symm,rfl,rfl⟩⟩
    · cases h
  · exact⟨w',h,rfl,rfl,rfl,rfl,.inl rfl⟩
theorem km:∀(es:List (Nat×Pr)) (y:Sy) (p:Nat) (w':Wk),(bt y es).af[p]? =some w'->∃w,y.af[p]? =some w/\w'.hand=w.hand/\w'.rd=w.rd/\w'.aY=w.aY/\w'.beg=w.beg/\((w'.val=w.val/\w'.en=w.en)\/∃e∈es,p=lastOf y.last e.1/\w'.val=some e.2.2/\w'.en=some y.aE)
 | [],y,p,w',h=>⟨w',h,rfl,rfl,rfl,rfl,.inl ⟨rfl,rfl⟩⟩
 |e :: r,y,p,w',h=>by
  obtain⟨w1,h1,a1,a2,a3,a4,a5⟩:=km r (kW y e) p w' h
  obtain⟨q1,q2,q3,q4⟩:=lC y (lastOf y.last e.1) (zJ y e.2)
  have q1:(kW y e).last=y.last:=q1
  have q3:(kW y e).aE=y.aE:=q3
  obtain⟨w,h2,b1,b2,b3,b4,b5⟩:=zf y e p w1 h1
  refine⟨w,h2,a1.trans b1,a2.trans b2,a3.trans b3,a4.trans b4,?_⟩
  rcases a5 with ⟨c1,c2⟩ |⟨x,hx,c1,c2,c3⟩
  · rcases b5 with rfl |⟨d1,d2,d3⟩
    · exact .inl ⟨c1,c2⟩
    · exact .inr ⟨e,qI_,d1,c1.trans d2,c2.trans d3⟩
  · exact .inr ⟨x,qR_ _ hx,by rw[<-q1];exact c1,c2,by rw[<-q3];exact c3⟩
def nM(ws:List Wk)(q:Pr):Prop:=q=start\/∃(p:Nat) (w:Wk),ws[p]? =some w/\w.rd=false/\w.aY=some q.1/\w.val=some q.2
structure Md (y:Sy):Prop where
 hp:∀q,rM y.ah q->nM y.af q
 lk:∀(j p:Nat) (h:Hd),y.ah.hs[j]? =some h->(j,p)∈y.last->∃w,y.af[p]? =some w/\w.hand=j/\w.rd=h.val.isNone/\(∀v,h.val=some v->w.val=some v)/\w.aY=h.pair.map (·.1)
 vl:∀(j:Nat) h v,y.ah.hs[j]? =some h->h.val=some v->∃p,(j,p)∈y.last
 fr:∀(j:Nat) h v q,y.ah.hs[j]? =some h->h.val=some v->h.pair=some q->q=((h.own,(j:Int)),v)
 un:∀(p:Nat) w t,y.af[p]? =some w->w.rd=false->w.aY=some t->t.2=(w.hand:Int)/\1<=t.1/\∃h,y.ah.hs[w.hand]? =some h/\t.1<=h.own
 ow:∀(j:Nat) h,y.ah.hs[j]? =some h->0<=h.own
 ds:∀(p p':Nat) w w' t,y.af[p]? =some w->y.af[p']? =some w'->w.rd=false->w'.rd=false->w.aY=some t->w'.aY=some t->p=p'
def rC{l:List (Nat×Nat)}(nd:(l.map (·.1)).Nodup){j p p':Nat}(h:(j,p)∈l)(h':(j,p')∈l):p=p':=by
 induction l with
 |nil=>cases h
 |cons e r ih=>
  rw[List.map_cons,List.nodup_cons]at nd
  rcases qS_.mp h with a |a
  · rcases qS_.mp h' with b |b
    · rw[<-a]at b;cases b;rfl
    · exact absurd (qH_.mpr ⟨_,b,by rw[<-a]⟩) nd.1
  · rcases qS_.mp h' with b |b
    · exact absurd (qH_.mpr ⟨_,a,by rw[<-b]⟩) nd.1
    · exact ih nd.2 a b
theorem HGo.own{j:Nat}{h h':Hd}(g:HGo j h h'):h.own<=h'.own:=by
 rcases g.2 with ⟨_,b⟩ |⟨_,q,_,b⟩
 · omega
 · revert b
   cases h.val with
   |none=>intro b;have b:h'.own=h.own:=b;omega
   |some v=>intro b;have:=b.1;omega
def Md.step{y:Sy}(M:Md y)(S:SWF y){b:Hl}{es:List (Nat×Pr)}(E:Evo y.ah b)(he:∀e∈es,(∃h,b.hs[e.1]? =some h/\h.pair=some e.2)/\e.1∈y.last.map (·.1)):Md (aH (endsF y (b,es))):=by
 obtain⟨n1,n2,n3,n4⟩:=eD es (ar y b)
 obtain⟨s1,s2,s3,s4⟩:=bP (bt (ar y b) es).last (bt (ar y b) es)
 have eh:(aH (endsF y (b,es))).ah=b:=s2.trans n2
 have el:(aH (endsF y (b,es))).last=y.last:=s1.trans n1
 have nl:(bt (ar y b) es).last=y.last:=n1
 have nh:(bt (ar y b) es).ah.hs=b.hs:=by rw[n2];rfl
 have frN:∀(j:Nat) h v q,b.hs[j]? =some h->h.val=some v->h.pair=some q->q=((h.own,(j:Int)),v):=fun j h' v q e hv hq=>by
  obtain⟨h,e0,g1,g2⟩:=E.get e
  rcases g2 with ⟨a1,a2⟩ |⟨a1,q',a2,a3⟩
  · rw[a2]
    exact M.fr j h v q e0 (g1.symm.trans hv) (a1.symm.trans hq)
  · rw[<-g1,hv]at a3
    rw[hq]at a2
    cases a2
    exact a3.2
 have wk:∀(p:Nat) w2,(aH (endsF y (b,es))).af[p]? =some w2->∃w,y.af[p]? =some w/\w2.hand=w.hand/\w2.rd=w.rd/\(w2.aY=w.aY\/∃j h q,(j,p)∈y.last/\b.hs[j]? =some h/\h.pair=some q/\w2.aY=some q.1)/\(w.rd=false->w2.val=w.val)/\(∀j h q,(j,p)∈y.last->b.hs[j]? =some h->h.pair=some q->w2.aY=some q.1):=fun p w2 h2=>by
  have h2':((bt (ar y b) es).last.foldl aU (bt (ar y b) es)).af[p]? =some w2:=h2
  rw[dh,nl,nh]at h2'
  cases hw1:(bt (ar y b) es).af[p]? with
  |none=>rw[hw1]at h2';cases h2'
  |some w1=>
   rw[hw1]at h2'
   have h2':app (asg b.hs y.last p) w1=w2:=Option.some.inj h2'
   obtain⟨w,hw,a1,a2,a3,a4,a5⟩:=km es (ar y b) p w1 hw1
   have hw:y.af[p]? =some w:=hw
   have vv:w.rd=false->w1.val=w.val:=fun hr=>by
    rcases a5 with a5 |⟨e,hem,c1,c2,_⟩
    · exact a5.1
    · obtain⟨⟨h',e1,e2⟩,hin⟩:=he e hem
      have c1:p=lastOf y.last e.1:=c1
      have hl:(e.1,p)∈y.last:=by rw[c1];exact ek hin
      obtain⟨h,e0,g⟩:=E.get e1
      obtain⟨w0,hw0,b1,b2,b3,b4⟩:=M.lk e.1 p h e0 hl
      rw[hw]at hw0
      cases hw0
      cases hv:h.val with
      |none=>rw[hr,hv]at b2;cases b2
      |some v=>
       rw[c2,b3 v hv]
       have:=frN e.1 h' v e.2 e1 (g.1.trans hv) e2
       rw[this]
   have pairS:∀s,asg b.hs y.last p=some s->∃j h q,(j,p)∈y.last/\b.hs[j]? =some h/\h.pair=some q/\s=q.1:=fun s hs=>by
    obtain⟨e,hem,e2,e3⟩:=mh hs
    cases hh:b.hs[e.1]? with
    |none=>rw[hh]at e3;cases e3
    |some h=>
     rw[hh]at e3
     cases hq:h.pair with
     |none=>
      have e3:(h.pair).map (·.1)=some s:=e3
      rw[hq]at e3;cases e3
     |some q=>
      have e3:(h.pair).map (·.1)=some s:=e3
      rw[hq]at e3
      have e3:q.1=s:=Option.some.inj e3
      exact⟨e.1,h,q,by rw[<-e2];exact hem,hh,hq,e3.symm⟩
   have sameHand:∀j,(j,p)∈y.last->w.hand=j:=fun j hj=>by
    obtain⟨c1,c2⟩:=S.la _ hj
    have hh:y.ah.hs[j]? =some (y.ah.hs[j]'c1):=qA_ _
    obtain⟨w0,hw0,b1,_⟩:=M.lk j p _ hh hj
    rw[hw]at hw0
    cases hw0
    exact b1
   refine⟨w,hw,?_,?_,?_,fun hr=>?_,fun j h q hj hh hq=>?_⟩
   · rw[<-h2']
     unfold app
     split <;> exact a1
   · rw[<-h2']
     unfold app
     split <;> exact a2
   · cases hs:asg b.hs y.last p with
     |none=>
      rw[hs]at h2'
      rw[<-h2']
      exact .inl a3
     |some s=>
      rw[hs]at h2'
      obtain⟨j,h,q,c1,c2,c3,c4⟩:=pairS s hs
      exact .inr ⟨j,h,q,c1,c2,c3,by rw[<-h2',<-c4];rfl⟩
   · rw[<-h2',<-vv hr]
     unfold app
     split <;> rfl
   · cases hs:asg b.hs y.last p with
     |none=>
      have:=ur hs (j,p) hj rfl
      rw[hh]at this
      have:h.pair=none:=this
      rw[hq]at this
      cases this
     |some s=>
      obtain⟨j',h',q',c1,c2,c3,c4⟩:=pairS s hs
      have ej:j'=j:=(sameHand j' c1).symm.trans (sameHand j hj)
      subst ej
      rw[hh]at c2
      cases c2
      rw[hq]at c3
      cases c3
      rw[hs]at h2'
      rw[<-h2',<-c4]
      rfl
 have len2:(aH (endsF y (b,es))).af.length=y.af.length:=s4.trans n4
 have wk2:∀(p:Nat) w,y.af[p]? =some w->∃w2,(aH (endsF y (b,es))).af[p]? =some w2:=fun p w hw=>by
  have:=(qB_.mp hw).1
  exact⟨_,qA_ (by rw[len2];exact this)⟩
 have keep:∀(p:Nat) w t,y.af[p]? =some w->w.aY=some t->∀w2,(aH (endsF y (b,es))).af[p]? =some w2->w2.aY=some t:=fun p w t hw ht w2 hw2=>by
  obtain⟨w0,hw0,_,_,a3,_,_⟩:=wk p w2 hw2
  rw[hw]at hw0
  cases hw0
  rcases a3 with a3 |⟨j,h',q,c1,c2,c3,c4⟩
  · exact a3.trans ht
  · obtain⟨h,e0,g⟩:=E.get c2
    obtain⟨w0,hw0,_,_,_,b4⟩:=M.lk j p h e0 c1
    rw[hw]at hw0
    cases hw0
    rw[ht]at b4
    cases hq:h.pair with
    |none=>rw[hq]at b4;cases b4
    |some q0=>
     rw[hq]at b4
     have b4:t=q0.1:=Option.some.inj b4
     have:=(g.keeps hq).1
     rw[c3]at this
     cases this
     rw[c4,b4]
 have st:∀(p:Nat) w2 t,(aH (endsF y (b,es))).af[p]? =some w2->w2.rd=false->w2.aY=some t->∃w,y.af[p]? =some w/\w2.hand=w.hand/\w.rd=false/\(w.aY=some t\/(w.aY=none/\(w.hand,p)∈y.last/\∃h h',y.ah.hs[w.hand]? =some h/\b.hs[w.hand]? =some h'/\h.own < h'.own/\t=(h'.own,(w.hand:Int)))):=fun p w2 t h2 hr ht=>by
  obtain⟨w,hw,a1,a2,a3,a4,a5⟩:=wk p w2 h2
  refine⟨w,hw,a1,a2.symm.trans hr,?_⟩
  rcases a3 with a3 |⟨j,h',q,c1,c2,c3,c4⟩
  · exact .inl (a3.symm.trans ht)
  · obtain⟨h,e0,g⟩:=E.get c2
    obtain⟨w0,hw0,b1,b2,b3,b4⟩:=M.lk j p h e0 c1
    rw[hw]at hw0
    cases hw0
    rw[c4]at ht
    cases ht
    rcases g.2 with ⟨d1,d2⟩ |⟨d1,q',d2,d3⟩
    · left
      rw[b4,<-d1,c3]
      rfl
    · right
      rw[c3]at d2
      cases d2
      cases hv:h.val with
      |none=>rw[a2.symm.trans hr,hv]at b2;cases b2
      |some v=>
       rw[hv]at d3
       subst b1
       refine⟨by rw[b4,d1];rfl,c1,h,h',e0,c2,d3.1,?_⟩
       rw[d3.2]
 refine⟨fun q hq=>?_,fun j p h' e hl=>?_,fun j h' v e hv=>?_,?_,fun p w2 t h2 hr ht=>?_,fun j h' e=>?_,fun p p' w2 w2' t h2 h2' hr hr' ht ht'=>?_⟩
 · rw[eh]at hq
   rcases E.pr q hq with z |z |⟨j,h',e,z1,z2,z3⟩
   · rcases M.hp q z with z |⟨p,w,hw,c1,c2,c3⟩
     · exact .inl z
     · obtain⟨w2,hw2⟩:=wk2 p w hw
       obtain⟨w0,hw0,a1,a2,_,a4,_⟩:=wk p w2 hw2
       rw[hw]at hw0
       cases hw0
       exact .inr ⟨p,w2,hw2,a2.trans c1,keep p w _ hw c2 w2 hw2,(a4 c1).trans c3⟩
   · exact .inl z
   · obtain⟨h,e0,g⟩:=E.get e
     obtain⟨p,hp⟩:=M.vl j h q.2 e0 (g.1.symm.trans z2)
     obtain⟨w,hw,b1,b2,b3,b4⟩:=M.lk j p h e0 hp
     obtain⟨w2,hw2⟩:=wk2 p w hw
     obtain⟨w0,hw0,a1,a2,a3,a4,a5⟩:=wk p w2 hw2
     rw[hw]at hw0
     cases hw0
     have hr:w.rd=false:=by rw[b2,g.1.symm.trans z2];rfl
     exact .inr ⟨p,w2,hw2,a2.trans hr,a5 j h' q hp e z1,(a4 hr).trans (b3 _ (g.1.symm.trans z2))⟩
 · rw[eh]at e
   rw[el]at hl
   obtain⟨h,e0,g⟩:=E.get e
   obtain⟨w,hw,b1,b2,b3,b4⟩:=M.lk j p h e0 hl
   obtain⟨w2,hw2⟩:=wk2 p w hw
   obtain⟨w0,hw0,a1,a2,a3,a4,a5⟩:=wk p w2 hw2
   rw[hw]at hw0
   cases hw0
   refine⟨w2,hw2,a1.trans b1,by rw[a2,b2,g.1],fun v hv=>?_,?_⟩
   · have hv':h.val=some v:=g.1.symm.trans hv
     rw[a4 (by rw[b2,hv'];rfl)]
     exact b3 v hv'
   · cases hq:h'.pair with
     |some q=>exact a5 j h' q hl e hq
     |none=>
      rcases a3 with a3 |⟨j',h'',q,c1,c2,c3,c4⟩
      · rw[a3,b4]
        rcases g.2 with ⟨d1,_⟩ |⟨_,q,d2,_⟩
        · rw[<-d1,hq]
        · rw[hq]at d2;cases d2
      · obtain⟨x1,x2⟩:=S.la _ c1
        obtain⟨w0,hw0,y1,_⟩:=M.lk j' p _ (qA_ x1) c1
        rw[hw]at hw0
        cases hw0
        rw[<-b1,y1,c2]at e
        cases e
        rw[hq]at c3
        cases c3
 · rw[eh]at e
   rw[el]
   obtain⟨h,e0,g⟩:=E.get e
   exact M.vl j h v e0 (g.1.symm.trans hv)
 · intro j h v q e
   rw[eh]at e
   exact frN j h v q e
 · obtain⟨w,hw,a1,a2,a3⟩:=st p w2 t h2 hr ht
   rw[eh,a1]
   rcases a3 with a3 |⟨_,_,h,h',e0,e,lt,rfl⟩
   · obtain⟨u1,u2,h,u3,u4⟩:=M.un p w t hw a2 a3
     obtain⟨h',e',g⟩:=E.get' u3
     have:=g.own
     exact⟨u1,u2,h',e',by omega⟩
   · have:=M.ow _ h e0
     exact⟨rfl,by show 1<=h'.own;omega,h',e,Int.le_refl _⟩
 · rw[eh]at e
   obtain⟨h,e0,g⟩:=E.get e
   have:=M.ow j h e0
   have:=g.own
   omega
 · obtain⟨w,hw,a1,a2,a3⟩:=st p w2 t h2 hr ht
   obtain⟨w',hw',a1',a2',a3'⟩:=st p' w2' t h2' hr' ht'
   rcases a3 with a3 |⟨_,x0,h,h',e0,e,lt,tt⟩
   · rcases a3' with a3' |⟨_,x0',h,h',e0,e,lt,tt⟩
     · exact M.ds p p' w w' t hw hw' a2 a2' a3 a3'
     · obtain⟨u1,u2,g,u3,u4⟩:=M.un p w t hw a2 a3
       rw[tt]at u1 u4
       have:w'.hand=w.hand:=by have u1:(w'.hand:Int)=(w.hand:Int):=u1;omega
       rw[<-this,e0]at u3
       cases u3
       have u4:h'.own<=h.own:=u4
       omega
   · rcases a3' with a3' |⟨_,x0',g,g',e0',e',lt',tt'⟩
     · obtain⟨u1,u2,g,u3,u4⟩:=M.un p' w' t hw' a2' a3'
       rw[tt]at u1 u4
       have:w.hand=w'.hand:=by have u1:(w.hand:Int)=(w'.hand:Int):=u1;omega
       rw[<-this,e0]at u3
       cases u3
       have u4:h'.own<=h.own:=u4
       omega
     · rw[tt]at tt'
       have:(w.hand:Int)=(w'.hand:Int):=(Prod.mk.inj tt').2
       have:w.hand=w'.hand:=by omega
       rw[this]at x0
       exact rC S.nd x0 x0'
def u0(st:Hl)(p:Nat)(s:Bool):aJ st p s=(st,[])\/
 (∃l k,(false,l)∈st.row/\st.ks[l.kpr]? =some k/\aJ st p s=({st with ks:=st.ks.set l.kpr (aQ k l).1,row:=cI st p s++(match (aQ k l).2 with |none=>[] |some x=>[(true,x)])},[]))\/
 (∃l h,(true,l)∈st.row/\st.hs[l.hand]? =some h/\aJ st p s=({st with hs:=st.hs.set l.hand (aL h l).1,row:=cI st p s++(aL h l).2.1.map fun x=>(false,x)},match (aL h l).2.2 with |none=>[] |some p=>[(l.hand,p)])):=by
 unfold aJ
 cases hr:st.row[p]? with
 |none=>exact .inl rfl
 |some e=>
  have hm:e∈st.row:=qD_ hr
  obtain⟨b,l⟩:=e
  cases b with
  |false=>
   dsimp only
   cases hk:st.ks[l.kpr]? with
   |none=>exact .inl rfl
   |some k=>exact .inr (.inl ⟨l,k,hm,hk,rfl⟩)
  |true=>
   dsimp only
   cases hh:st.hs[l.hand]? with
   |none=>exact .inl rfl
   |some h=>exact .inr (.inr ⟨l,h,hm,hh,rfl⟩)
def rB(k:Kr)(l:Lt):(aQ k l).1.up=k.up/\∀x,(aQ k l).2=some x->k.up=true/\x.hand=l.hand/\x.kpr=l.kpr/\x.num=l.num:=by
 unfold aQ
 cases hu:k.up with
 |false=>exact⟨hu,fun x e=>by cases e⟩
 |true=>
  rw[if_pos rfl]
  cases l.pair with
  |none=>exact⟨hu,fun x e=>by cases e;exact⟨rfl,rfl,rfl,rfl⟩⟩
  |some p=>exact⟨(Cp k p).trans hu,fun x e=>by cases e;exact⟨rfl,rfl,rfl,rfl⟩⟩
def pk(o:Option (Int×Int))(w:Wk):(app o w).hand=w.hand/\(app o w).rd=w.rd/\(app o w).val=w.val/\(app o w).beg=w.beg/\(app o w).en=w.en:=by
 unfold app
 split <;> exact⟨rfl,rfl,rfl,rfl,rfl⟩
def ki{y:Sy}{d:bZ}{b:Hl}{es:List (Nat×Pr)}{a:An}(h:doneF y d= .ok (endsF y (b,es)) a):(aO y d).1.ah=b/\(aO y d).1.last=y.last/\(aO y d).1.aE=y.aE+1/\(aO y d).1.af.length=y.af.length/\
 ∀(p:Nat) w',(aO y d).1.af[p]? =some w'->∃w,y.af[p]? =some w/\w'.hand=w.hand/\w'.rd=w.rd/\w'.beg=w.beg/\((w'.val=w.val/\w'.en=w.en)\/∃e∈es,p=lastOf y.last e.1/\w'.val=some e.2.2/\w'.en=some y.aE):=by
 obtain⟨n1,n2,n3,n4⟩:=eD es (ar y b)
 obtain⟨s1,s2,s3,s4⟩:=bP (bt (ar y b) es).last (bt (ar y b) es)
 have ea:(aO y d).1=bW (aH (endsF y (b,es))):=by unfold aO gq;rw[h]
 rw[ea]
 refine⟨s2.trans n2,s1.trans n1,?_,s4.trans n4,fun p w' hw=>?_⟩
 · show (aH (endsF y (b,es))).aE+1=_
   have:(aH (endsF y (b,es))).aE=y.aE:=s3.trans n3
   rw[this]
 · have hw:((bt (ar y b) es).last.foldl aU (bt (ar y b) es)).af[p]? =some w':=hw
   rw[dh]at hw
   cases hw1:(bt (ar y b) es).af[p]? with
   |none=>rw[hw1]at hw;cases hw
   |some w1=>
    rw[hw1]at hw
    have hw:=Option.some.inj hw
    obtain⟨t1,t2,t3,t4,t5⟩:=pk (asg (bt (ar y b) es).ah.hs (bt (ar y b) es).last p) w1
    rw[hw]at t1 t2 t3 t4 t5
    obtain⟨w,h0,a1,a2,_,a4,a5⟩:=km es (ar y b) p w1 hw1
    refine⟨w,h0,t1.trans a1,t2.trans a2,t4.trans a4,?_⟩
    rcases a5 with ⟨c1,c2⟩ |⟨e,he,c1,c2,c3⟩
    · exact .inl ⟨t3.trans c1,t5.trans c2⟩
    · exact .inr ⟨e,he,c1,t3.trans c2,t5.trans c3⟩
def B0{y:Sy}{d:bZ}{c:Nat}(h:doneF y d= .no c):(aO y d).1.ah=y.ah/\(aO y d).1.last=y.last/\(aO y d).1.aE=y.aE+1/\(aO y d).1.af.length=y.af.length/\
 ∀(p:Nat) w',(aO y d).1.af[p]? =some w'->∃w,y.af[p]? =some w/\w'.hand=w.hand/\w'.rd=w.rd/\w'.beg=w.beg/\w'.val=w.val/\w'.en=w.en:=by
 obtain⟨s1,s2,s3,s4⟩:=bP y.last y
 have ea:(aO y d).1=bW (aH y):=by unfold aO gq;rw[h]
 rw[ea]
 refine⟨s2,s1,by show (aH y).aE+1=_;rw[show (aH y).aE=y.aE from s3],s4,fun p w' hw=>?_⟩
 have hw:(y.last.foldl aU y).af[p]? =some w':=hw
 rw[dh]at hw
 cases hw1:y.af[p]? with
 |none=>rw[hw1]at hw;cases hw
 |some w1=>
  rw[hw1]at hw
  have hw:=Option.some.inj hw
  obtain⟨t1,t2,t3,t4,t5⟩:=pk (asg y.ah.hs y.last p) w1
  rw[hw]at t1 t2 t3 t4 t5
  exact⟨w1,rfl,t1,t2,t4,t3,t5⟩
def vC(y:Sy)(d:bZ):(∃c,doneF y d= .no c)\/(∃b es a,doneF y d= .ok (endsF y (b,es)) a)\/(∃j h rd v a,doneF y d= .ok (cq (ar y (bj y.ah j h v)) j rd v) a):=by
 have bg:∀i rd v,(∃c,bN y i rd v= .no c)\/(∃b es a,bN y i rd v= .ok (endsF y (b,es)) a)\/(∃j h rd' v' a,bN y i rd v= .ok (cq (ar y (bj y.ah j h v')) j rd' v') a):=by
  intro i rd v
  unfold bN
  split
  · exact .inl ⟨_,rfl⟩
  · split
    · exact .inl ⟨_,rfl⟩
    · split
      · exact .inl ⟨_,rfl⟩
      · exact .inr (.inr ⟨_,_,_,_,_,rfl⟩)
 cases d with
 |wr i v=>exact bg i false (some v)
 |rd i=>exact bg i true none
 |ca n s=>
  unfold doneF
  dsimp only
  split
  · exact .inl ⟨_,rfl⟩
  · exact .inr (.inl ⟨_,_,_,rfl⟩)
 |pa i j=>
  unfold doneF
  dsimp only
  split
  · exact .inl ⟨_,rfl⟩
  · split
    · exact .inl ⟨_,rfl⟩
    · exact .inr (.inl ⟨_,_,_,rfl⟩)
 |sw=>exact .inr (.inl ⟨_,_,_,rfl⟩)
 |ag i=>
  unfold doneF fF
  dsimp only
  split
  · exact .inl ⟨_,rfl⟩
  · split
    · exact .inl ⟨_,rfl⟩
    · split
      · exact .inr (.inl ⟨_,[],_,rfl⟩)
      · exact .inl ⟨_,rfl⟩
 |qu i=>
  unfold doneF fF
  dsimp only
  split
  · exact .inl ⟨_,rfl⟩
  · split
    · exact .inl ⟨_,rfl⟩
    · split
      · exact .inr (.inl ⟨_,[],_,rfl⟩)
      · exact .inl ⟨_,rfl⟩
 |st i=>
  unfold doneF lu
  dsimp only
  split
  · exact .inl ⟨_,rfl⟩
  · split
    · exact .inl ⟨_,rfl⟩
    · exact .inr (.inl ⟨_,[],_,rfl⟩)
 |wa i=>
  unfold doneF lu
  dsimp only
  split
  · exact .inl ⟨_,rfl⟩
  · split
    · exact .inl ⟨_,rfl⟩
    · exact .inr (.inl ⟨_,[],_,rfl⟩)
def Bg(y:Sy):Prop:=∀(p:Nat) w,y.af[p]? =some w->w.beg < y.aE
def BQ{y:Sy}(B:Bg y)(d:bZ):Bg (aO y d).1:=by
 intro p w hw
 rcases vC y d with ⟨c,h⟩ |⟨b,es,a,h⟩ |⟨j,g,rd,v,a,h⟩
 · obtain⟨_,_,e3,_,e5⟩:=B0 h
   obtain⟨w0,h0,_,_,a3,_⟩:=e5 p w hw
   have:=B p w0 h0
   omega
 · obtain⟨_,_,e3,_,e5⟩:=ki h
   obtain⟨w0,h0,_,_,a3,_⟩:=e5 p w hw
   have:=B p w0 h0
   omega
 · have ea:(aO y d).1=bW (aH (cq (ar y (bj y.ah j g v)) j rd v)):=by unfold aO gq;rw[h]
   obtain⟨s1,s2,s3,s4⟩:=bP (cq (ar y (bj y.ah j g v)) j rd v).last (cq (ar y (bj y.ah j g v)) j rd v)
   have e3:(aO y d).1.aE=y.aE+1:=by
    rw[ea]
    show (aH _).aE+1=_
    rw[show (aH (cq (ar y (bj y.ah j g v)) j rd v)).aE=y.aE from s3]
   rw[ea]at hw
   have hw:((cq (ar y (bj y.ah j g v)) j rd v).last.foldl aU (cq (ar y (bj y.ah j g v)) j rd v)).af[p]? =some w:=hw
   rw[dh]at hw
   cases hw1:(cq (ar y (bj y.ah j g v)) j rd v).af[p]? with
   |none=>rw[hw1]at hw;cases hw
   |some w1=>
    rw[hw1]at hw
    have hw:=Option.some.inj hw
    obtain⟨_,_,_,t4,_⟩:=pk (asg (cq (ar y (bj y.ah j g v)) j rd v).ah.hs (cq (ar y (bj y.ah j g v)) j rd v).last p) w1
    rw[hw]at t4
    have hw1:(y.af++[(⟨j,rd,v,y.aE,none,none⟩:Wk)])[p]? =some w1:=hw1
    rw[e3,t4]
    by_cases z:p < y.af.length
    · rw[qK_ z]at hw1
      have:=B p w1 hw1
      omega
    · rw[qL_ (by omega)]at hw1
      have:=qD_ hw1
      simp at this
      subst this
      show y.aE < y.aE+1
      omega
def bg0(c m:Nat):Bg (bJ c m):=fun p w hw=>by
 have hw:([]:List Wk)[p]? =some w:=hw
 simp at hw
def Md.count{y:Sy}(M:Md y):Md (bW y):=⟨M.hp,M.lk,M.vl,M.fr,M.un,M.ow,M.ds⟩
def Md.m6{y:Sy}(M:Md y)(S:SWF y):Md (aH y):=by
 have:=M.step S (b:=y.ah) (es:=[]) (Evo.refl _) (fun e he=>by cases he)
 exact this
def md0(c m:Nat):Md (bJ c m):=by
 have hh:∀(j:Nat) h,(bJ c m).ah.hs[j]? =some h->∃i,h=jj i c:=fun j h e=>by
  have e:((List.range m).map fun i=>jj i c)[j]? =some h:=e
  obtain⟨i,_,rfl⟩:=qH_.mp (qD_ e)
  exact⟨i,rfl⟩
 refine⟨fun q hq=>?_,fun j p h _ hl=>(by cases hl),fun j h v e hv=>?_,fun j h v q e hv=>?_,fun p w t hw=>?_,fun j h e=>?_,fun p p' w w' t hw=>?_⟩
 · cases hq with
   |k x hx e=>
    have hx:x∈List.replicate c KS.k0:=hx
    rw[List.eq_of_mem_replicate hx]at e
    exact .inl e.symm
   |r x hx e=>cases hx
   |h j g h e=>obtain⟨i,rfl⟩:=hh j g h;cases e
   |d j g h x hx e=>obtain⟨i,rfl⟩:=hh j g h;cases hx
 · obtain⟨i,rfl⟩:=hh j h e;cases hv
 · obtain⟨i,rfl⟩:=hh j h e;cases hv
 · have hw:([]:List Wk)[p]? =some w:=hw
   simp at hw
 · obtain⟨i,rfl⟩:=hh j h e;exact Int.le_refl _
 · have hw:([]:List Wk)[p]? =some w:=hw
   simp at hw
theorem Md.hand{y:Sy}(M:Md y){b:Hl}(hl:b.hs.length=y.ah.hs.length)(hs:∀(j:Nat) h h',y.ah.hs[j]? =some h->b.hs[j]? =some h'->h'.val=h.val/\h'.pair=h.pair/\h'.own=h.own)(hp:∀q,rM b q->rM y.ah q):Md (ar y b):=by
 have get:∀(j:Nat) h',b.hs[j]? =some h'->∃h,y.ah.hs[j]? =some h/\h'.val=h.val/\h'.pair=h.pair/\h'.own=h.own:=fun j h' e=>by
  have hj:=(qB_.mp e).1
  have e0:y.ah.hs[j]? =some (y.ah.hs[j]'(by rw[<-hl];exact hj)):=qA_ _
  exact⟨_,e0,hs j _ _ e0 e⟩
 refine⟨fun q hq=>M.hp q (hp q hq),fun j p h' e hl'=>?_,fun j h' v e hv=>?_,fun j h' v q e hv hq=>?_,fun p w t hw hr ht=>?_,fun j h' e=>?_,M.ds⟩
 · obtain⟨h,e0,a1,a2,a3⟩:=get j h' e
   rw[a1,a2]
   exact M.lk j p h e0 hl'
 · obtain⟨h,e0,a1,a2,a3⟩:=get j h' e
   exact M.vl j h v e0 (a1.symm.trans hv)
 · obtain⟨h,e0,a1,a2,a3⟩:=get j h' e
   rw[a3]
   exact M.fr j h v q e0 (a1.symm.trans hv) (a2.symm.trans hq)
 · obtain⟨u1,u2,h,u3,u4⟩:=M.un p w t hw hr ht
   have hj:=(qB_.mp u3).1
   have e0:b.hs[w.hand]? =some (b.hs[w.hand]'(by rw[hl];exact hj)):=qA_ _
   refine⟨u1,u2,_,e0,?_⟩
   rw[(hs _ _ _ u3 e0).2.2]
   exact u4
 · obtain⟨h,e0,a1,a2,a3⟩:=get j h' e
   rw[a3]
   exact M.ow j h e0
def Md.begin{y:Sy}(M:Md y)(S:SWF y){j:Nat}{h:Hd}(hj:y.ah.hs[j]? =some h)(rd:Bool)(v:Option Int)(hrd:rd=v.isNone):Md (cq (ar y (bj y.ah j h v)) j rd v):=by
 have hlt:=(qB_.mp hj).1
 have get:∀i,(y.ah.hs.set j (aZ h v))[i]? =if i=j then some (aZ h v)else y.ah.hs[i]?:=fun i=>by
  rw[qJ_]
  by_cases z:j=i
  · rw[if_pos z,if_pos z.symm,if_pos hlt]
  · rw[if_neg z,if_neg (fun q=>z q.symm)]
 have wold:∀(p:Nat) w,y.af[p]? =some w->(y.af++[(⟨j,rd,v,y.aE,none,none⟩:Wk)])[p]? =some w:=fun p w hw=>by
  rw[qK_ (qB_.mp hw).1]
  exact hw
 have wnew:∀(p:Nat) w,(y.af++[(⟨j,rd,v,y.aE,none,none⟩:Wk)])[p]? =some w->y.af[p]? =some w\/w.aY=none:=fun p w hw=>by
  by_cases z:p < y.af.length
  · rw[qK_ z]at hw
    exact .inl hw
  · rw[qL_ (by omega)]at hw
    have:=qD_ hw
    simp at this
    subst this
    exact .inr rfl
 refine⟨fun q hq=>?_,fun i p g e hl=>?_,fun i g x e hv=>?_,fun i g x q e hv hq=>?_,fun p w t hw hr ht=>?_,fun i g e=>?_,fun p p' w w' t hw hw' hr hr' ht ht'=>?_⟩
 · have:rM y.ah q:=by
    cases hq with
    |k x hx e=>exact .k x hx e
    |r x hx e=>
     rcases qG_.mp hx with z |z
     · exact .r x z e
     · obtain⟨l,hl,rfl⟩:=qH_.mp z
       obtain⟨k,_,rfl⟩:=qH_.mp hl
       cases e
    |h i g h' e=>
     have h':(y.ah.hs.set j (aZ h v))[i]? =some g:=h'
     rw[get]at h'
     split at h'
     · cases h';cases e
     · exact .h i g h' e
    |d i g h' x hx e=>
     have h':(y.ah.hs.set j (aZ h v))[i]? =some g:=h'
     rw[get]at h'
     split at h'
     · cases h';cases hx
     · exact .d i g h' x hx e
   rcases M.hp q this with z |⟨p,w,hw,c⟩
   · exact .inl z
   · exact .inr ⟨p,w,wold p w hw,c⟩
 · have e:(y.ah.hs.set j (aZ h v))[i]? =some g:=e
   have hl:(i,p)∈putL y.last j y.af.length:=hl
   show ∃w,(y.af++[(⟨j,rd,v,y.aE,none,none⟩:Wk)])[p]? =some w/\_
   rw[get]at e
   by_cases z:i=j
   · rw[if_pos z]at e
     cases e
     subst z
     have ep:p=y.af.length:=by
      have l1:(i,y.af.length)∈putL y.last i y.af.length:=by
       have hin:i∈(putL y.last i y.af.length).map (·.1):=by
        rw[kb]
        split
        · rename_i hh
          obtain⟨x,hx,hxe⟩:=List.any_eq_true.mp hh
          exact qH_.mpr ⟨x,hx,of_decide_eq_true hxe⟩
        · exact qE_ _ qI_
       have:=ek hin
       rwa [vj,if_pos rfl]at this
      have nd:((putL y.last i y.af.length).map (·.1)).Nodup:=by
       rw[kb]
       split
       · exact S.nd
       · rename_i hh
         rw[List.nodup_append]
         refine⟨S.nd,by simp,fun x hx q hq ee=>?_⟩
         simp at hq
         subst hq
         subst ee
         obtain⟨u,hu,rfl⟩:=qH_.mp hx
         exact hh (List.any_eq_true.mpr ⟨u,hu,qZ_ rfl⟩)
      exact rC nd hl l1
     refine⟨⟨i,rd,v,y.aE,none,none⟩,?_,rfl,hrd,fun v' hv=>hv,rfl⟩
     rw[ep,qL_ (qO_ _)]
     simp
   · rw[if_neg z]at e
     rcases mB hl with w |w
     · cases w;exact absurd rfl z
     · obtain⟨w0,hw0,b⟩:=M.lk i p g e w
       exact⟨w0,wold p w0 hw0,b⟩
 · have e:(y.ah.hs.set j (aZ h v))[i]? =some g:=e
   show ∃p,(i,p)∈putL y.last j y.af.length
   have hin:i∈(putL y.last j y.af.length).map (·.1):=by
    rw[kb]
    rw[get]at e
    by_cases z:i=j
    · subst z
      split
      · rename_i hh
        obtain⟨x,hx,hxe⟩:=List.any_eq_true.mp hh
        exact qH_.mpr ⟨x,hx,of_decide_eq_true hxe⟩
      · exact qE_ _ qI_
    · rw[if_neg z]at e
      obtain⟨p,hp⟩:=M.vl i g x e hv
      split
      · exact qH_.mpr ⟨_,hp,rfl⟩
      · exact qF_ _ (qH_.mpr ⟨_,hp,rfl⟩)
   obtain⟨u,hu,rfl⟩:=qH_.mp hin
   exact⟨u.2,hu⟩
 · have e:(y.ah.hs.set j (aZ h v))[i]? =some g:=e
   rw[get]at e
   split at e
   · cases e;cases hq
   · exact M.fr i g x q e hv hq
 · rcases wnew p w hw with z |z
   · obtain⟨u1,u2,g,u3,u4⟩:=M.un p w t z hr ht
     refine⟨u1,u2,?_⟩
     show ∃h_1,(y.ah.hs.set j (aZ h v))[w.hand]? =some h_1/\t.1<=h_1.own
     rw[get]
     by_cases q:w.hand=j
     · rw[if_pos q]
       rw[q,hj]at u3
       cases u3
       exact⟨_,rfl,u4⟩
     · rw[if_neg q]
       exact⟨g,u3,u4⟩
   · rw[z]at ht;cases ht
 · have e:(y.ah.hs.set j (aZ h v))[i]? =some g:=e
   rw[get]at e
   split at e
   · cases e
     exact M.ow j h hj
   · exact M.ow i g e
 · rcases wnew p w hw with z |z
   · rcases wnew p' w' hw' with z' |z'
     · exact M.ds p p' w w' t z z' hr hr' ht ht'
     · rw[z']at ht';cases ht'
   · rw[z]at ht;cases ht
def Md.xV{y:Sy}(M:Md y)(I:Iv y)(d:bZ):Md (aO y d).1:=by
 have S:=I.W
 have W:=S.W
 have key:∀{z:Sy} {a:An},doneF y d= .ok z a->Md (aH z)->Md (aO y d).1:=fun {z a} h h2=>by
  unfold aO gq
  rw[h]
  exact h2.count
 have mem_last:∀{b:Hl} {es:List (Nat×Pr)},(∀e∈es,∃h,b.hs[e.1]? =some h/\h.pair=some e.2)->(∀e∈es,∃h,y.ah.hs[e.1]? =some h/\h.atw=true)->∀e∈es,(∃h,b.hs[e.1]? =some h/\h.pair=some e.2)/\e.1∈y.last.map (·.1):=fun h1 h2 e he=>⟨h1 e he,by
  obtain⟨g,a,b⟩:=h2 e he
  exact S.atw _ g a b⟩
 cases hd:doneF y d with
 |no c=>
  unfold aO gq
  rw[hd]
  exact(M.m6 S).count
 |ok z a=>
  refine key hd ?_
  have I1:=xk I d hd
  have bg:∀{i:Int} {rd:Bool} {v:Option Int},rd=v.isNone->bN y i rd v= .ok z a->Md (aH z):=by
   intro i rd v hrd h
   unfold bN at h
   split at h
   · cases h
   · split at h
     · cases h
     · rename_i j _ _ g hg
       split at h
       · cases h
       · cases h
         exact(M.begin S hg rd v hrd).m6 I1.W
  have kpr:∀{j:Nat} (g:Kr),y.ah.ks[j]? =some g->∀b,Md (ar y {y.ah with ks:=y.ah.ks.set j {g with up:=b}}):=fun {j} g hg b=>by
   refine M.hand rfl (fun j h h' e e'=>?_) fun q hq=>?_
   · have e':y.ah.hs[j]? =some h':=e'
     rw[e]at e'
     cases e'
     exact⟨rfl,rfl,rfl⟩
   · cases hq with
     |k x hx e=>
      rcases List.mem_or_eq_of_mem_set hx with w |w
      · exact .k x w e
      · subst w
        exact .k g (qD_ hg) e
     |r x hx e=>exact .r x hx e
     |h j g h e=>exact .h j g h e
     |d j g h x hx e=>exact .d j g h x hx e
  cases d with
  |wr i v=>exact bg rfl hd
  |rd i=>exact bg rfl hd
  |ca n s=>
   unfold doneF at hd
   dsimp only at hd
   split at hd
   · cases hd
   · cases hd
     obtain⟨E,h1⟩:=pE W (vJ y n) s
     exact M.step S E (mem_last h1 (oA _ _))
  |pa i j=>
   unfold doneF at hd
   dsimp only at hd
   split at hd
   · cases hd
   · split at hd
     · cases hd
     · cases hd
       obtain⟨E,h1⟩:=oE (bM _ _) W
       exact M.step S E (mem_last h1 (gw (bM _ _) _ _ W (qO_ _)).2.2)
  |sw=>
   unfold doneF at hd
   cases hd
   obtain⟨E,h1⟩:=oE bG W
   exact M.step S E (mem_last h1 (gw bG _ _ W (qO_ _)).2.2)
  |ag i=>
   unfold doneF fF at hd
   dsimp only at hd
   split at hd
   · cases hd
   · split at hd
     · cases hd
     · rename_i j _ _ g hg
       split at hd
       · cases hd
         refine(M.hand (b:={y.ah with row:=newRow y.ah g}) rfl (fun j h h' e e'=>?_) fun q hq=>?_).m6 I1.W
         · have e':y.ah.hs[j]? =some h':=e'
           rw[e]at e'
           cases e'
           exact⟨rfl,rfl,rfl⟩
         · cases hq with
           |k x hx e=>exact .k x hx e
           |r x hx e=>
            rcases qG_.mp hx with w |w
            · exact .r x w e
            · obtain⟨l,hl,rfl⟩:=qH_.mp w
              obtain⟨k,_,rfl⟩:=qH_.mp hl
              exact .h _ g hg e
           |h j g h e=>exact .h j g h e
           |d j g h x hx e=>exact .d j g h x hx e
       · cases hd
  |qu i=>
   unfold doneF fF at hd
   dsimp only at hd
   split at hd
   · cases hd
   · split at hd
     · cases hd
     · rename_i j _ _ g hg
       split at hd
       · cases hd
         have hlt:=(qB_.mp hg).1
         have get:∀i,(y.ah.hs.set j {g with atw:=false})[i]? =if i=j then some {g with atw:=false} else y.ah.hs[i]?:=fun i=>by
          rw[qJ_]
          by_cases z:j=i
          · rw[if_pos z,if_pos z.symm,if_pos hlt]
          · rw[if_neg z,if_neg (fun q=>z q.symm)]
         have old:∀(i:Nat) h',(y.ah.hs.set j {g with atw:=false})[i]? =some h'->∃h,y.ah.hs[i]? =some h/\h'.val=h.val/\h'.pair=h.pair/\h'.own=h.own/\h'.ak=h.ak:=fun i h' e=>by
          rw[get]at e
          split at e
          · rename_i z
            subst z
            cases e
            exact⟨g,hg,rfl,rfl,rfl,rfl⟩
          · exact⟨h',e,rfl,rfl,rfl,rfl⟩
         refine(M.hand (by rw[qX_]) (fun j h h' e e'=>?_) fun q hq=>?_).m6 I1.W
         · obtain⟨h0,e0,a1,a2,a3,_⟩:=old j h' e'
           rw[e]at e0
           cases e0
           exact⟨a1,a2,a3⟩
         · cases hq with
           |k x hx e=>exact .k x hx e
           |r x hx e=>exact .r x hx e
           |h j g h e=>
            obtain⟨h0,e0,a1,a2,a3,_⟩:=old j g h
            exact .h j h0 e0 (a2.symm.trans e)
           |d j g h x hx e=>
            obtain⟨h0,e0,a1,a2,a3,a4⟩:=old j g h
            exact .d j h0 e0 x (by rw[<-a4];exact hx) e
       · cases hd
  |st i=>
   unfold doneF lu at hd
   dsimp only at hd
   split at hd
   · cases hd
   · split at hd
     · cases hd
     · rename_i j _ _ g hg
       cases hd
       exact(kpr g hg _).m6 I1.W
  |wa i=>
   unfold doneF lu at hd
   dsimp only at hd
   split at hd
   · cases hd
   · split at hd
     · cases hd
     · rename_i j _ _ g hg
       cases hd
       exact(kpr g hg _).m6 I1.W
def DD{y:Sy}(M:Md y)(I:Iv y)(ds:List bZ):Md (fN y ds):=by
 induction ds generalizing y with
 |nil=>exact M
 |cons d r ih=>exact ih (M.xV I d) (sR I d)
def b7(ks0 ks:List Kr):Prop:=ks.length=ks0.length/\∀(i:Nat) k0 k,ks0[i]? =some k0->ks[i]? =some k->gtS k0.pair.1 k.pair.1=false
def pA{a b:Int×Int}(h:gtS a b=true):gtS b a=false:=by
 cases q:gtS b a with
 |false=>rfl
 |true=>have:=ym h q;rw[eM]at this;cases this
def vS{a b c:Int×Int}(h:gtS a b=false)(g:gtS b c=false):gtS a c=false:=by
 cases q:gtS a c with
 |false=>rfl
 |true=>
  have q:=gh.mp q
  have h:¬_:=fun z=>absurd (gh.mpr z) (by rw[h];exact qC_)
  have g:¬_:=fun z=>absurd (gh.mpr z) (by rw[g];exact qC_)
  omega
def mH(k:Kr)(l:Lt):gtS k.pair.1 (aQ k l).1.pair.1=false:=by
 unfold aQ
 split
 · split
   · exact eM _
   · rename_i p hp
     dsimp only
     unfold lS
     by_cases z:gtS p.1 k.pair.1=true
     · rw[if_pos z];exact pA z
     · rw[if_neg z];exact eM _
 · exact eM _
def b7.refl(ks:List Kr):b7 ks ks:=⟨rfl,fun i k0 k h g=>by rw[h]at g;cases g;exact eM _⟩
theorem b7.set{ks0 ks:List Kr}(h:b7 ks0 ks){i:Nat}{k k':Kr}(hk:ks[i]? =some k)(hg:gtS k.pair.1 k'.pair.1=false):b7 ks0 (ks.set i k'):=by
 refine⟨by rw[qX_];exact h.1,fun j k0 x h0 hx=>?_⟩
 rw[qJ_]at hx
 split at hx
 · rename_i z
   subst z
   split at hx
   · cases hx
     exact vS (h.2 i k0 k h0 hk) hg
   · cases hx
 · exact h.2 j k0 x h0 hx
section
variable{G G':Hh}{Q:D->Hh->Prop}{QS:Fl×St->Hh->Prop}{QU:Unit->Hh->Prop}{E:Nat->Hh->Prop}{σ:St}
def HJ{a b:List D}{m n:List Int}(e1:intsOf a=some m)(e2:intsOf b=some n)(h:Q (.bl (k6 m n)) G):M3.run (oLt (.tup a) (.tup b)) G Q E:=by
 show M3.run (match intsOf a,intsOf b with
  |some m,some n=>ret (.bl (k6 m n))
  |_,_=>fail) G Q E
 rw[e1,e2];exact h
def E4{o i e:E3}(h:M3.run (e σ) G (fun v G1=>M3.run (o σ) G1 (fun x G2=>M3.run (i σ) G2 (fun y G3=>M3.run (qM x y v) G3 (fun _ G4=>QS (.next,σ) G4) E) E) E) E):M3.run (Ao o i e σ) G QS E:=
 ay (aq h (fun v G1 q=>ay (aq q (fun x G2 q=>ay (aq q (fun y G3 q=>ay q) fun _ _ z=>z)) fun _ _ z=>z)) fun _ _ z=>z)
def xo{n:Nat}{kvs:List (List Int×D)}{i v:D}{k:List Int}(hn:G[n]? =some (.dT kvs))(hk:nS i=some k)(hl:kvs.length < aC)(h:∀G',Chg [n] G G'->G'.length=G.length->G'[n]? =some (.dT (put kvs k v))->QU () G'):M3.run (qM (.ref n) i v) G QU E:=by
 have:=h (G.set n (.dT (put kvs k v))) (Chg.set _ _ (by simp)) (by simp) (gC hn)
 unfold M3.run qM
 dsimp only
 rw[hn]
 dsimp only
 rw[hk]
 dsimp only
 rw[if_pos hl]
 exact this
def FO{k v:E3}(h:∀G1,Chg [] G G1->G1.length=G.length+1->G1[G.length]? =some (.dT [])->M3.run (k σ) G1 (fun a G2=>M3.run (v σ) G2 (fun b G3=>M3.run (qM (.ref G.length) a b) G3 (fun _ G4=>Q (.ref G.length) G4) E) E) E):M3.run (zk k v σ) G Q E:=
 ay (show M3.run (bnd (k σ) fun a=>bnd (v σ) fun b=>bnd (qM (.ref G.length) a b) fun _=>ret (D.ref G.length)) (G++[.dT []]) Q E from
  ay (aq (h _ (Chg.add _ _) (by simp) (bc _ _)) (fun a G2 q=>ay (aq q (fun b G3 q=>ay q) fun _ _ z=>z)) fun _ _ z=>z))
def qc{n:Nat}{kvs:List (List Int×D)}{i:D}{k:List Int}(hn:G[n]? =some (.dT kvs))(hk:nS i=some k):gZ i (.ref n) G=some (look kvs k):=by
 unfold gZ
 dsimp only
 rw[hn]
 dsimp only
 rw[hk]
 rfl
def Hm{n:Nat}{kvs:List (List Int×D)}{i:D}{k:List Int}(hn:G[n]? =some (.dT kvs))(hk:nS i=some k)(h:Q (.bl (look kvs k).isSome) G):M3.run (zA i (.ref n)) G Q E:=by
 unfold M3.run zA
 rw[qc hn hk]
 exact h
def uC{n:Nat}{kvs:List (List Int×D)}{i:D}{k:List Int}(hn:G[n]? =some (.dT kvs))(hk:nS i=some k)(h:Q (.bl (!(look kvs k).isSome)) G):M3.run (kz i (.ref n)) G Q E:=by
 unfold M3.run kz
 rw[qc hn hk]
 exact h
def AL{n:Nat}{kvs:List (List Int×D)}{i d:D}{k:List Int}(hn:G[n]? =some (.dT kvs))(hk:nS i=some k)(e:look kvs k=some d)(h:Q d G):M3.run (xQ (.ref n) i) G Q E:=by
 unfold M3.run xQ
 rw[qc hn hk,e]
 exact h
end
def lZ{κ:Type} [DecidableEq κ](kvs:List (κ×D))(k k':κ)(v:D):look (put kvs k v) k'=if k=k' then some v else look kvs k':=by
 have hmap:∀l:List (κ×D),look (l.map fun kv=>if kv.1=k then (kv.1,v)else kv) k'=if k=k'/\(l.any fun kv=>decide (kv.1=k))=true then some v else look l k':=by
  intro l
  induction l with
  |nil=>simp [look]
  |cons a r ih=>
   obtain⟨x,d⟩:=a
   rw[List.map_cons]
   by_cases hx:x=k
   · subst hx
     by_cases hk:x=k'
     · subst hk;simp [look]
     · have e1:look ((x,d) :: r) k'=look r k':=by simp [look,hk]
       have e2:look ((if (x,d).1=x then ((x,d).1,v)else (x,d)) :: r.map fun kv=>if kv.1=x then (kv.1,v)else kv) k'=look (r.map fun kv=>if kv.1=x then (kv.1,v)else kv) k':=by simp [look,hk]
       rw[e2,ih,e1,if_neg (fun z=>hk z.1),if_neg (fun z=>hk z.1)]
   · by_cases hk:x=k'
     · subst hk
       have:¬k=x:=fun z=>hx z.symm
       simp [look,hx,this]
     · have e1:look ((x,d) :: r) k'=look r k':=by simp [look,hk]
       have e2:look ((if (x,d).1=k then ((x,d).1,v)else (x,d)) :: r.map fun kv=>if kv.1=k then (kv.1,v)else kv) k'=look (r.map fun kv=>if kv.1=k then (kv.1,v)else kv) k':=by simp [look,hk,hx]
       rw[e2,ih,e1,List.any_cons]
       have:decide ((x,d).1=k)=false:=qa_ hx
       rw[this,Bool.false_or]
 unfold put
 by_cases h:(kvs.any fun kv=>decide (kv.1=k))=true
 · rw[if_pos h,hmap,h]
   simp
 · rw[if_neg h]
   have hn:look kvs k=none:=by
    refine mX.mpr fun z=>h ?_
    obtain⟨kv,hm,e⟩:=qH_.mp z
    exact List.any_eq_true.mpr ⟨kv,hm,qZ_ e⟩
   have happ:look (kvs++[(k,v)]) k'=(look kvs k').or (look [(k,v)] k'):=by
    unfold look
    rw[List.find?_append]
    cases kvs.find? fun kv=>decide (kv.1=k') <;> rfl
   rw[happ]
   by_cases hk:k=k'
   · subst hk
     rw[if_pos rfl,hn]
     simp [look]
   · rw[if_neg hk]
     have:look [(k,v)] k'=none:=by simp [look,hk]
     rw[this]
     cases look kvs k' <;> rfl
def FX{κ:Type} [DecidableEq κ](kvs:List (κ×D))(k:κ)(v:D):(put kvs k v).length<=kvs.length+1:=by
 unfold put
 split
 · rw[qM_];omega
 · simp
def stK(s:Int×Int):List Int:=[s.1,s.2]
def kT(kvs:List (List Int×D))(w:Wk):List (List Int×D):=if w.rd then kvs else match w.aY with
 |none=>kvs
 |some s=>put kvs (stK s) (oD w.val)
def dM(ws:List Wk):List (List Int×D):=ws.foldl kT [([0,0],.int 0)]
def iQ(ws:List Wk)(w:Wk):dM (ws++[w])=kT (dM ws) w:=by unfold dM;rw[List.foldl_append];rfl
def yZ(kvs:List (List Int×D))(w:Wk):(kT kvs w).length<=kvs.length+1:=by
 unfold kT
 split
 · omega
 · split
   · omega
   · exact FX _ _ _
theorem ra(ws:List Wk):∀i,i<=ws.length->(dM (ws.take i)).length<=i+1
 |0,_=>by simp [dM]
 |i+1,h=>by
  have h2:=ra ws i (by omega)
  rw[take_succ (qA_ (show i < ws.length by omega)),iQ]
  have:=yZ (dM (ws.take i)) ws[i]
  omega
def oo{a b:Int×Int}(h:stK a=stK b):a=b:=by
 unfold stK at h
 injection h with h1 h2
 injection h2 with h2 _
 exact Prod.ext h1 h2
theorem pJ{ws:List Wk}(hp:∀(p:Nat) w t,ws[p]? =some w->w.rd=false->w.aY=some t->1<=t.1)(hu:∀(p p':Nat) w w' t,ws[p]? =some w->ws[p']? =some w'->w.rd=false->w'.rd=false->w.aY=some t->w'.aY=some t->p=p'):
 ∀i,i<=ws.length->look (dM (ws.take i)) [0,0]=some (.int 0)/\(∀(p:Nat) w t,p < i->ws[p]? =some w->w.rd=false->w.aY=some t->look (dM (ws.take i)) (stK t)=some (oD w.val))/\
  ∀t d,look (dM (ws.take i)) (stK t)=some d->t≠(0,0)->∃(p:Nat) (w:Wk),p < i/\ws[p]? =some w/\w.rd=false/\w.aY=some t
 |0,_=>⟨rfl,fun p w t h=>by omega,fun t d h hn=>by
   have:dM (ws.take 0)=[([0,0],.int 0)]:=rfl
   rw[this]at h
   by_cases z:[0,0]=stK t
   · exact absurd (oo (a:=(0,0)) z).symm hn
   · simp [look,z]at h⟩
 |i+1,h=>by
  obtain⟨h1,h2,h3⟩:=pJ hp hu i (by omega)
  have hx:ws[i]? =some ws[i]:=qA_ (show i < ws.length by omega)
  generalize ws[i]=w at hx
  rw[take_succ hx,iQ]
  unfold kT
  by_cases hr:w.rd=true
  · rw[if_pos hr]
    refine⟨h1,fun p w' t hpi e r s=>?_,fun t d e n=>?_⟩
    · by_cases z:p=i
      · subst z;rw[hx]at e;cases e;rw[hr]at r;cases r
      · exact h2 p w' t (by omega) e r s
    · obtain⟨p,w',a,b⟩:=h3 t d e n
      exact⟨p,w',by omega,b⟩
  · have hr:w.rd=false:=by cases q:w.rd <;> simp_all
    rw[if_neg (by rw[hr];exact qC_)]
    cases hs:w.aY with
    |none=>
     dsimp only
     refine⟨h1,fun p w' t hpi e r s=>?_,fun t d e n=>?_⟩
     · by_cases z:p=i
       · subst z;rw[hx]at e;cases e;rw[hs]at s;cases s
       · exact h2 p w' t (by omega) e r s
     · obtain⟨p,w',a,b⟩:=h3 t d e n
       exact⟨p,w',by omega,b⟩
    |some s0=>
     dsimp only
     have hs1:=hp i w s0 hx hr hs
     refine⟨?_,fun p w' t hpi e r s=>?_,fun t d e n=>?_⟩
     · rw[lZ,if_neg,h1]
       intro z
       have:=oo (b:=(0,0)) z
       rw[this]at hs1
       simp at hs1
     · by_cases z:p=i
       · subst z
         rw[hx]at e
         cases e
         rw[hs]at s
         cases s
         rw[lZ,if_pos rfl]
       · rw[lZ,if_neg,h2 p w' t (by omega) e r s]
         intro q
         cases oo q
         exact z (hu p i w' w s0 e hx r hr s hs)
     · rw[lZ]at e
       by_cases z:stK s0=stK t
       · cases oo z
         exact⟨i,w,by omega,hx,hr,hs⟩
       · rw[if_neg z]at e
         obtain⟨p,w',a,b⟩:=h3 t d e n
         exact⟨p,w',by omega,b⟩
def t6{y:Sy}(M:Md y){q:Pr}(h:nM y.af q):look (dM y.af) (stK q.1)=some (.int q.2):=by
 obtain⟨h1,h2,_⟩:=pJ (fun p w t e r s=>(M.un p w t e r s).2.1) M.ds y.af.length (qO_ _)
 rw[List.take_length]at h1 h2
 rcases h with rfl |⟨p,w,hw,r,s,v⟩
 · exact h1
 · have:=h2 p w q.1 (qB_.mp hw).1 hw r s
   rw[this,v]
   rfl
def Ge(s:Int×Int)(p:Pr):Prop:=gtS s p.1=false
def Maj(ks:List Kr)(s:Int×Int):Prop:=∃ms:List Nat,ms.Nodup/\ks.length < 2*ms.length/\∀k∈ms,∃x,ks[k]? =some x/\Ge s x.pair
def Ge.trans{s:Int×Int}{p q:Pr}(h:Ge s p)(g:Ge p.1 q):Ge s q:=vS h g
def b7.at{ks0 ks:List Kr}(g:b7 ks0 ks){j:Nat}{s:Int×Int}(h:∃x,ks0[j]? =some x/\Ge s x.pair):∃x,ks[j]? =some x/\Ge s x.pair:=by
 obtain⟨x,hx,hg⟩:=h
 have hl:j < ks.length:=by rw[g.1];exact(qB_.mp hx).1
 exact⟨_,qA_ hl,hg.trans (g.2 j x _ hx (qA_ hl))⟩
def b7.maj{ks0 ks:List Kr}(g:b7 ks0 ks){s:Int×Int}(h:Maj ks0 s):Maj ks s:=by
 obtain⟨ms,nd,big,hm⟩:=h
 exact⟨ms,nd,by rw[g.1];exact big,fun k hk=>g.at (hm k hk)⟩
theorem b7.trans{a b c:List Kr}(x:b7 a b)(y:b7 b c):b7 a c:=by
 refine⟨y.1.trans x.1,fun i k0 k h0 hk=>?_⟩
 have hl:i < b.length:=by rw[x.1];exact(qB_.mp h0).1
 exact vS (x.2 i k0 _ h0 (qA_ hl)) (y.2 i _ k (qA_ hl) hk)
def CN(k:Kr)(p:Pr):Ge p.1 (lS k p).pair:=by
 unfold lS Ge
 by_cases z:gtS p.1 k.pair.1=true
 · rw[if_pos z];exact eM _
 · rw[if_neg z];cases q:gtS p.1 k.pair.1 with
   |false=>rfl
   |true=>exact absurd q z
theorem rk:∀(ps:List Pr) (b:Pr),Ge b.1 (ps.foldl better b)/\∀p∈ps,Ge p.1 (ps.foldl better b)
 | [],b=>⟨eM _,fun p h=>by cases h⟩
 |q :: r,b=>by
  obtain⟨h1,h2⟩:=rk r (better b q)
  have hb:Ge b.1 (better b q)/\Ge q.1 (better b q):=by
   unfold better Ge
   by_cases z:gtS q.1 b.1=true
   · rw[if_pos z];exact⟨pA z,eM _⟩
   · rw[if_neg z]
     refine⟨eM _,?_⟩
     cases w:gtS q.1 b.1 with
     |false=>rfl
     |true=>exact absurd w z
  refine⟨hb.1.trans h1,fun p hp=>?_⟩
  rcases qS_.mp hp with e |hp
  · rw[e];exact hb.2.trans h1
  · exact h2 p hp
def vi{s:Int×Int}{p:Pr}{t n:Int}(h:Ge s p)(ht:p.1.1 < t):gtS (t,n) s=true:=by
 have h:¬_:=fun z=>absurd (gh.mpr z) (by rw[show gtS s p.1=false from h];exact qC_)
 refine gh.mpr (.inl ?_)
 show s.1 < t
 omega
structure HI (O:Nat->Int×Int->Prop) (st:Hl):Prop where
 r1:∀(i:Nat) h,st.hs[i]? =some h->h.atw=true->h.pair=none->∃ks0,b7 ks0 st.ks/\(∀s,O i s->Maj ks0 s)/\(∀e∈h.ak,∀p,e.2=some p->∀x,ks0[e.1]? =some x->Ge x.pair.1 p)/\
  ∀e∈st.row,e.1=true->e.2.hand=i->e.2.num=h.rnd->∀p,e.2.pair=some p->∀x,ks0[e.2.kpr]? =some x->Ge x.pair.1 p
 r2:∀(i:Nat) h P,st.hs[i]? =some h->h.pair=some P->∀s,O i s->Ge s P/\(h.val≠none->gtS P.1 s=true)
 r3:∀(i:Nat) h P,st.hs[i]? =some h->h.atw=true->h.pair=some P->(∀e∈h.ak,∃x,st.ks[e.1]? =some x/\Ge P.1 x.pair)/\∀e∈st.row,e.1=true->e.2.hand=i->e.2.num=h.rnd->∃x,st.ks[e.2.kpr]? =some x/\Ge P.1 x.pair
def HI.mono{O O':Nat->Int×Int->Prop}{st:Hl}(H:HI O st)(h:∀i s,O' i s->O i s):HI O' st:=
 ⟨fun i g a b c=>let ⟨k,x,y,z⟩:=H.r1 i g a b c;⟨k,x,fun s o=>y s (h i s o),z⟩,fun i g P a b s o=>H.r2 i g P a b s (h i s o),H.r3⟩
def xx{O:Nat->Int×Int->Prop}{st:Hl}(W:WF st)(H:HI O st){l:Lt}{k:Kr}{row:List (Bool×Lt)}(hm:(false,l)∈st.row)(hk:st.ks[l.kpr]? =some k)(hr:∀e∈row,e∈st.row):
 HI O {st with ks:=st.ks.set l.kpr (aQ k l).1,row:=row++(match (aQ k l).2 with |none=>[] |some x=>[(true,x)])}:=by
 have gr:b7 st.ks (st.ks.set l.kpr (aQ k l).1):=(b7.refl _).set hk (mH k l)
 obtain⟨g0,e0,_,_,wf⟩:=W.rw _ hm
 have new:∀e∈(match (aQ k l).2 with |none=>[] |some x=>[(true,x)]:List (Bool×Lt)),∃x,(aQ k l).2=some x/\e=(true,x):=fun e he=>by
  cases q:(aQ k l).2 with
  |none=>rw[q]at he;cases he
  |some x=>rw[q]at he;simp at he;exact⟨x,rfl,he⟩
 have hlt:=(qB_.mp hk).1
 refine⟨fun i h hi ha hp=>?_,H.r2,fun i h P hi ha hp=>?_⟩
 · obtain⟨ks0,a1,a2,a3,a4⟩:=H.r1 i h hi ha hp
   refine⟨ks0,a1.trans gr,a2,a3,fun e he t1 t2 t3 p t4 x t5=>?_⟩
   rcases qG_.mp he with z |z
   · exact a4 e (hr e z) t1 t2 t3 p t4 x t5
   · obtain⟨u,hu,rfl⟩:=new e z
     obtain⟨_,au⟩:=rB k l
     obtain⟨up,b1,b2,b3⟩:=au u hu
     have e0':g0=h:=by
      have:st.hs[l.hand]? =some h:=by rw[<-b1,t2];exact hi
      rw[e0]at this
      exact Option.some.inj this
     subst e0'
     have lp:=(wf (by rw[<-b3];exact t3)).1 rfl
     rw[hp]at lp
     have lp:l.pair=none:=lp
     unfold aQ at hu
     rw[up,lp]at hu
     cases hu
     cases t4
     exact a1.2 _ x k t5 hk
 · obtain⟨a1,a2⟩:=H.r3 i h P hi ha hp
   refine⟨fun e he=>gr.at (a1 e he),fun e he t1 t2 t3=>?_⟩
   rcases qG_.mp he with z |z
   · exact gr.at (a2 e (hr e z) t1 t2 t3)
   · obtain⟨u,hu,rfl⟩:=new e z
     obtain⟨_,au⟩:=rB k l
     obtain⟨up,b1,b2,b3⟩:=au u hu
     have e0':g0=h:=by
      have:st.hs[l.hand]? =some h:=by rw[<-b1,t2];exact hi
      rw[e0]at this
      exact Option.some.inj this
     subst e0'
     have lp:=(wf (by rw[<-b3];exact t3)).1 rfl
     rw[hp]at lp
     have lp:l.pair=some P:=lp
     refine⟨(aQ k l).1,?_,?_⟩
     · show (st.ks.set l.kpr (aQ k l).1)[u.kpr]? =_
       rw[b2,qJ_,if_pos rfl,if_pos hlt]
     · unfold aQ
       rw[up,lp]
       exact CN k P
def tj{O:Nat->Int×Int->Prop}{st:Hl}(W:WF st)(H:HI O st){l:Lt}{h:Hd}(hm:(true,l)∈st.row)(hh:st.hs[l.hand]? =some h)(ha:h.atw=true)(hn:l.num=h.rnd):
 (h.pair=none->h.cnt < (aS h.ak l.kpr l.pair).length*2->∀s,O l.hand s->Ge s (aV {h with ak:=aS h.ak l.kpr l.pair} (vals (aS h.ak l.kpr l.pair))).2/\(h.val≠none->gtS (aV {h with ak:=aS h.ak l.kpr l.pair} (vals (aS h.ak l.kpr l.pair))).2.1 s=true))/\
 (∀P,h.pair=some P->h.cnt < (aS h.ak l.kpr l.pair).length*2->Maj st.ks P.1):=by
 obtain⟨hnum,hc,hk,nd,hs⟩:=W.hk _ h hh
 obtain⟨g0,e0,kl,_,wf⟩:=W.rw _ hm
 have e0':g0=h:=by rw[hh]at e0;exact(Option.some.inj e0).symm
 subst e0'
 have nd':=oO (k:=l.kpr) (p:=l.pair) nd
 have hk':∀x∈(aS g0.ak l.kpr l.pair).map (·.1),x < st.ks.length:=fun x hx=>by
  obtain⟨e,he,rfl⟩:=qH_.mp hx
  rcases eW he with z |z
  · rw[z.1];exact kl
  · exact hk e z
 constructor
 · intro hp big s o
   obtain⟨ks0,a1,a2,a3,a4⟩:=H.r1 _ g0 hh ha hp
   obtain⟨ms,mn,mb,mm⟩:=a2 s o
   have hlen:=a1.1
   obtain⟨j,j1,j2⟩:=meet (n:=st.ks.length) (a:=ms) (b:=(aS g0.ak l.kpr l.pair).map (·.1)) mn nd' (fun x hx=>by
    obtain⟨y,hy,_⟩:=mm x hx
    rw[hlen]
    exact(qB_.mp hy).1) hk' (by rw[hlen];exact mb) (by rw[qM_];omega)
   obtain⟨y,hy,gy⟩:=mm j j1
   obtain⟨e,he,ej⟩:=qH_.mp j2
   have hsome:∃p,e.2=some p/\Ge y.pair.1 p:=by
    rcases eW he with z |z
    · have lp:=(wf hn).2 rfl
      rw[hp]at lp
      cases q:l.pair with
      |none=>rw[show (true,l).2.pair=l.pair from rfl,q]at lp;cases lp
      |some p=>
       refine⟨p,by rw[z.2,q],a4 _ hm rfl rfl hn p q y ?_⟩
       rw[show (true,l).2.kpr=l.kpr from rfl,<-z.1,ej];exact hy
    · have:=hs hp e z
      cases q:e.2 with
      |none=>rw[q]at this;cases this
      |some p=>exact⟨p,rfl,a3 e z p q y (by rw[ej];exact hy)⟩
   obtain⟨p,ep,gp⟩:=hsome
   have hpv:p∈vals (aS g0.ak l.kpr l.pair):=List.mem_filterMap.mpr ⟨e,he,ep⟩
   have gs:=gy.trans gp
   unfold aV
   cases hv:g0.val with
   |none=>
    dsimp only
    exact⟨gs.trans ((rk _ start).2 p hpv),fun z=>absurd rfl z⟩
   |some v=>
    dsimp only
    have gt:gtS (lP (vals (aS g0.ak l.kpr l.pair)) g0.own+1,(g0.num:Int)) s=true:=vi gs (by
     have:=(xa (ps:=vals (aS g0.ak l.kpr l.pair)) (own:=g0.own)).1 p hpv
     omega)
    exact⟨pA gt,fun _=>gt⟩
 · intro P hp big
   obtain⟨a1,a2⟩:=H.r3 _ g0 P hh ha hp
   refine⟨(aS g0.ak l.kpr l.pair).map (·.1),nd',by rw[qM_];omega,fun k hk=>?_⟩
   obtain⟨e,he,rfl⟩:=qH_.mp hk
   rcases eW he with z |z
   · rw[z.1];exact a2 _ hm rfl rfl hn
   · exact a1 e z
def xc{O:Nat->Int×Int->Prop}{st:Hl}(W:WF st)(H:HI O st)(p:Nat)(s:Bool):HI O (aJ st p s).1/\b7 st.ks (aJ st p s).1.ks/\∀e∈(aJ st p s).2,Maj (aJ st p s).1.ks e.2.1:=by
 rcases u0 st p s with hc |⟨l,k,hm,hk,hc⟩ |⟨l,g,hm,hg,hc⟩
 · rw[hc]
   exact⟨H,b7.refl _,fun e he=>by cases he⟩
 · rw[hc]
   exact⟨xx W H hm hk fun e he=>kI he,(b7.refl _).set hk (mH k l),fun e he=>by cases he⟩
 · rw[hc]
   have hlt:=(qB_.mp hg).1
   have hrow:∀(i:Nat) (e:Bool×Lt),e∈cI st p s++(aL g l).2.1.map (fun x=>(false,x))->e.1=true->e∈st.row:=fun i e he t=>by
    rcases qG_.mp he with z |z
    · exact kI z
    · obtain⟨u,_,rfl⟩:=qH_.mp z
      cases t
   have oth:∀(i:Nat) h,i≠l.hand->(st.hs.set l.hand (aL g l).1)[i]? =some h->st.hs[i]? =some h:=fun i h ne e=>by
    rw[qJ_,if_neg (Ne.symm ne)]at e
    exact e
   have mine:∀h,(st.hs.set l.hand (aL g l).1)[l.hand]? =some h->h=(aL g l).1:=fun h e=>by
    rw[qJ_,if_pos rfl,if_pos hlt]at e
    exact(Option.some.inj e).symm
   refine⟨?_,b7.refl _,?_⟩
   · by_cases off:g.atw=false\/l.num≠g.rnd
     · rw[oM off]at mine oth hrow ⊢
       have all:∀(i:Nat) h,(st.hs.set l.hand g)[i]? =some h->st.hs[i]? =some h:=fun i h e=>by rw[set_same hg]at e;exact e
       exact⟨fun i h e a b=>let ⟨k0,x,y,z,w⟩:=H.r1 i h (all i h e) a b;⟨k0,x,y,z,fun e he t=>w e (hrow i e he t) t⟩,fun i h P e=>H.r2 i h P (all i h e),
        fun i h P e a b=>let ⟨x,y⟩:=H.r3 i h P (all i h e) a b;⟨x,fun e he t=>y e (hrow i e he t) t⟩⟩
     · have ha:g.atw=true:=by cases q:g.atw with
        |true=>rfl
        |false=>exact absurd (.inl q) off
       have hn:l.num=g.rnd:=Classical.byContradiction fun q=>off (.inr q)
       obtain⟨c1,c2⟩:=tj W H hm hg ha hn
       by_cases big:g.cnt < (aS g.ak l.kpr l.pair).length*2
       · cases hp:g.pair with
         |none=>
          rw[lT ha hn big hp]at mine oth hrow ⊢
          refine⟨fun i h e a b=>?_,fun i h P e b=>?_,fun i h P e a b=>?_⟩
          · by_cases z:i=l.hand
            · subst z
              cases mine h e
              cases b
            · obtain⟨k0,x,y,w,v⟩:=H.r1 i h (oth i h z e) a b
              exact⟨k0,x,y,w,fun e he t=>v e (hrow i e he t) t⟩
          · by_cases z:i=l.hand
            · subst z
              cases mine h e
              cases b
              intro s o
              obtain⟨d1,d2⟩:=c1 hp big s o
              refine⟨d1,fun hv=>d2 fun q=>hv ?_⟩
              show (aV _ _).1.val=none
              unfold aV
              dsimp only
              rw[q]
            · exact H.r2 i h P (oth i h z e) b
          · by_cases z:i=l.hand
            · subst z
              cases mine h e
              refine⟨fun e he=>(by cases he),fun e he t1 t2 t3=>?_⟩
              obtain⟨g0,e0,_,le,_⟩:=W.rw e (hrow l.hand e he t1)
              rw[t2,hg]at e0
              cases e0
              have t3:e.2.num=(aV {g with ak:=aS g.ak l.kpr l.pair} (vals (aS g.ak l.kpr l.pair))).1.rnd+1:=t3
              rw[(pU _ _).2.1]at t3
              have t3:e.2.num=g.rnd+1:=t3
              omega
            · obtain⟨x,y⟩:=H.r3 i h P (oth i h z e) a b
              exact⟨x,fun e he t=>y e (hrow i e he t) t⟩
         |some P0=>
          rw[pj ha hn big hp]at mine oth hrow ⊢
          refine⟨fun i h e a b=>?_,fun i h P e b=>?_,fun i h P e a b=>?_⟩
          · by_cases z:i=l.hand
            · subst z
              cases mine h e
              cases a
            · obtain⟨k0,x,y,w,v⟩:=H.r1 i h (oth i h z e) a b
              exact⟨k0,x,y,w,fun e he t=>v e (hrow i e he t) t⟩
          · by_cases z:i=l.hand
            · subst z
              cases mine h e
              exact H.r2 _ g P hg b
            · exact H.r2 i h P (oth i h z e) b
          · by_cases z:i=l.hand
            · subst z
              cases mine h e
              cases a
            · obtain⟨x,y⟩:=H.r3 i h P (oth i h z e) a b
              exact⟨x,fun e he t=>y e (hrow i e he t) t⟩
       · rw[pz ha hn big]at mine oth hrow ⊢
         refine⟨fun i h e a b=>?_,fun i h P e b=>?_,fun i h P e a b=>?_⟩
         · by_cases z:i=l.hand
           · subst z
             cases mine h e
             obtain⟨k0,x,y,w,v⟩:=H.r1 _ g hg ha b
             refine⟨k0,x,y,fun e he q hq x hx=>?_,fun e he t=>v e (hrow l.hand e he t) t⟩
             rcases eW he with u |u
             · rw[u.2]at hq
               rw[u.1]at hx
               exact v _ hm rfl rfl hn q hq x hx
             · exact w e u q hq x hx
           · obtain⟨k0,x,y,w,v⟩:=H.r1 i h (oth i h z e) a b
             exact⟨k0,x,y,w,fun e he t=>v e (hrow i e he t) t⟩
         · by_cases z:i=l.hand
           · subst z
             cases mine h e
             exact H.r2 _ g P hg b
           · exact H.r2 i h P (oth i h z e) b
         · by_cases z:i=l.hand
           · subst z
             cases mine h e
             obtain⟨x,y⟩:=H.r3 _ g P hg ha b
             refine⟨fun e he=>?_,fun e he t=>y e (hrow l.hand e he t) t⟩
             rcases eW he with u |u
             · rw[u.1];exact y _ hm rfl rfl hn
             · exact x e u
           · obtain⟨x,y⟩:=H.r3 i h P (oth i h z e) a b
             exact⟨x,fun e he t=>y e (hrow i e he t) t⟩
   · by_cases off:g.atw=false\/l.num≠g.rnd
     · rw[oM off];intro e he;cases he
     · have ha:g.atw=true:=by cases q:g.atw with
        |true=>rfl
        |false=>exact absurd (.inl q) off
       have hn:l.num=g.rnd:=Classical.byContradiction fun q=>off (.inr q)
       obtain⟨c1,c2⟩:=tj W H hm hg ha hn
       by_cases big:g.cnt < (aS g.ak l.kpr l.pair).length*2
       · cases hp:g.pair with
         |none=>rw[lT ha hn big hp];intro e he;cases he
         |some P0=>
          rw[pj ha hn big hp]
          intro e he
          simp at he
          subst he
          exact c2 P0 hp big
       · rw[pz ha hn big];intro e he;cases he
def zd{O:Nat->Int×Int->Prop}{sel:Hl->Option Nat}(hs:Sel sel){st:Hl}(W:WF st)(H:HI O st):HI O (cP sel st).1/\b7 st.ks (cP sel st).1.ks/\∀e∈(cP sel st).2,Maj (cP sel st).1.ks e.2.1:=by
 obtain⟨_,⟨h1,h2,h3⟩,_⟩:=xn hs (fun x es=>HI O x/\b7 st.ks x.ks/\∀e∈es,Maj x.ks e.2.1) (fun x es p W _ ⟨a,b,c⟩=>by
  obtain⟨d1,d2,d3⟩:=xc W a p false
  refine⟨d1,b.trans d2,fun e he=>?_⟩
  rcases qG_.mp he with z |z
  · exact d2.maj (c e z)
  · exact d3 e z) (mea st) st [] (qO_ _) W ⟨H,b7.refl _,fun e he=>by cases he⟩
 rw[qc_]at h3
 exact⟨h1,h2,h3⟩
theorem HI.ks{O:Nat->Int×Int->Prop}{st:Hl}(H:HI O st){ks:List Kr}(g:b7 st.ks ks):HI O {st with ks:=ks}:=
 ⟨fun i h a b c=>let ⟨k,x,y⟩:=H.r1 i h a b c;⟨k,x.trans g,y⟩,H.r2,fun i h P a b c=>let ⟨x,y⟩:=H.r3 i h P a b c;⟨fun e he=>g.at (x e he),fun e he t1 t2 t3=>g.at (y e he t1 t2 t3)⟩⟩
theorem HI.row{O:Nat->Int×Int->Prop}{st:Hl}(H:HI O st)(ls:List Lt):HI O {st with row:=st.row++ls.map fun x=>(false,x)}:=by
 have old:∀e∈st.row++ls.map (fun x=>(false,x)),e.1=true->e∈st.row:=fun e he t=>by
  rcases qG_.mp he with z |z
  · exact z
  · obtain⟨u,_,rfl⟩:=qH_.mp z
    cases t
 exact⟨fun i h a b c=>let ⟨k,x,y,z,w⟩:=H.r1 i h a b c;⟨k,x,y,z,fun e he t=>w e (old e he t) t⟩,H.r2,fun i h P a b c=>let ⟨x,y⟩:=H.r3 i h P a b c;⟨x,fun e he t=>y e (old e he t) t⟩⟩
def HI.quit{O:Nat->Int×Int->Prop}{st:Hl}(H:HI O st){j:Nat}{g:Hd}(hg:st.hs[j]? =some g):HI O {st with hs:=st.hs.set j {g with atw:=false}}:=by
 have hlt:=(qB_.mp hg).1
 have get:∀(i:Nat) h,(st.hs.set j {g with atw:=false})[i]? =some h->(h.atw=false/\i=j/\h.pair=g.pair/\h.val=g.val)\/st.hs[i]? =some h:=fun i h e=>by
  rw[qJ_]at e
  by_cases z:j=i
  · rw[if_pos z,if_pos hlt]at e
    cases e
    exact .inl ⟨rfl,z.symm,rfl,rfl⟩
  · rw[if_neg z]at e
    exact .inr e
 refine⟨fun i h e a b=>?_,fun i h P e b=>?_,fun i h P e a b=>?_⟩
 · rcases get i h e with z |z
   · rw[z.1]at a;cases a
   · exact H.r1 i h z a b
 · rcases get i h e with ⟨_,rfl,z1,z2⟩ |z
   · rw[z2]
     exact H.r2 i g P hg (z1.symm.trans b)
   · exact H.r2 i h P z b
 · rcases get i h e with z |z
   · rw[z.1]at a;cases a
   · exact H.r3 i h P z a b
structure Stp (a b:Hl) (es:List (Nat×Pr)):Prop where
 E:Evo a b
 p:∀e∈es,∃h,b.hs[e.1]? =some h/\h.pair=some e.2
 w:∀e∈es,∃h,a.hs[e.1]? =some h/\h.atw=true
 hi:∀O,HI O a->HI O b/\b7 a.ks b.ks/\∀e∈es,Maj b.ks e.2.1
def Evo.hand{a b:Hl}(hl:b.hs.length=a.hs.length)(hs:∀(j:Nat) h h',a.hs[j]? =some h->b.hs[j]? =some h'->h'.val=h.val/\h'.pair=h.pair/\h'.own=h.own)(hp:∀q,rM b q->rM a q):Evo a b:=
 ⟨hl,fun j h h' e e'=>let ⟨x,y,z⟩:=hs j h h' e e';⟨x,.inl ⟨y,z⟩⟩,fun q hq=>.inl (hp q hq)⟩
def zw{a:Hl}{j:Nat}{k:Kr}(hk:a.ks[j]? =some k)(b:Bool):Stp a {a with ks:=a.ks.set j {k with up:=b}} []:=by
 have gr:b7 a.ks (a.ks.set j {k with up:=b}):=(b7.refl _).set hk (eM _)
 refine⟨Evo.hand rfl (fun j h h' e e'=>?_) fun q hq=>?_,fun e he=>(by cases he),fun e he=>(by cases he),fun O H=>⟨H.ks gr,gr,fun e he=>by cases he⟩⟩
 · have e':a.hs[j]? =some h':=e'
   rw[e]at e'
   cases e'
   exact⟨rfl,rfl,rfl⟩
 · cases hq with
   |k x hx e=>
    rcases List.mem_or_eq_of_mem_set hx with w |w
    · exact .k x w e
    · subst w
      exact .k k (qD_ hk) e
   |r x hx e=>exact .r x hx e
   |h j g h e=>exact .h j g h e
   |d j g h x hx e=>exact .d j g h x hx e
def yr{a:Hl}{j:Nat}{g:Hd}(hg:a.hs[j]? =some g):Stp a {a with row:=newRow a g} []:=by
 refine⟨Evo.hand rfl (fun j h h' e e'=>?_) fun q hq=>?_,fun e he=>(by cases he),fun e he=>(by cases he),fun O H=>⟨H.row _,b7.refl _,fun e he=>by cases he⟩⟩
 · have e':a.hs[j]? =some h':=e'
   rw[e]at e'
   cases e'
   exact⟨rfl,rfl,rfl⟩
 · cases hq with
   |k x hx e=>exact .k x hx e
   |r x hx e=>
    rcases qG_.mp hx with w |w
    · exact .r x w e
    · obtain⟨l,hl,rfl⟩:=qH_.mp w
      obtain⟨k,_,rfl⟩:=qH_.mp hl
      exact .h _ g hg e
   |h j g h e=>exact .h j g h e
   |d j g h x hx e=>exact .d j g h x hx e
def zp{a:Hl}{j:Nat}{g:Hd}(hg:a.hs[j]? =some g):Stp a {a with hs:=a.hs.set j {g with atw:=false}} []:=by
 have hlt:=(qB_.mp hg).1
 have old:∀(i:Nat) h',(a.hs.set j {g with atw:=false})[i]? =some h'->∃h,a.hs[i]? =some h/\h'.val=h.val/\h'.pair=h.pair/\h'.own=h.own/\h'.ak=h.ak:=fun i h' e=>by
  rw[qJ_]at e
  by_cases z:j=i
  · subst z
    rw[if_pos rfl,if_pos hlt]at e
    cases e
    exact⟨g,hg,rfl,rfl,rfl,rfl⟩
  · rw[if_neg z]at e
    exact⟨h',e,rfl,rfl,rfl,rfl⟩
 refine⟨Evo.hand (by rw[qX_]) (fun j h h' e e'=>?_) fun q hq=>?_,fun e he=>(by cases he),fun e he=>(by cases he),fun O H=>⟨H.quit hg,b7.refl _,fun e he=>by cases he⟩⟩
 · obtain⟨h0,e0,a1,a2,a3,_⟩:=old j h' e'
   rw[e]at e0
   cases e0
   exact⟨a1,a2,a3⟩
 · cases hq with
   |k x hx e=>exact .k x hx e
   |r x hx e=>exact .r x hx e
   |h j g h e=>
    obtain⟨h0,e0,a1,a2,a3,_⟩:=old j g h
    exact .h j h0 e0 (a2.symm.trans e)
   |d j g h x hx e=>
    obtain⟨h0,e0,a1,a2,a3,a4⟩:=old j g h
    exact .d j h0 e0 x (by rw[<-a4];exact hx) e
def vI{y:Sy}(I:Iv y)(d:bZ){z:Sy}{a:An}(hd:doneF y d= .ok z a):
 (∃j h rd v,y.ah.hs[j]? =some h/\h.atw=false/\rd=v.isNone/\z=cq (ar y (bj y.ah j h v)) j rd v/\(d= .rd (j:Int)/\v=none\/∃x,d= .wr (j:Int) x/\v=some x))\/∃b es,z=endsF y (b,es)/\Stp y.ah b es:=by
 have W:=I.W.W
 have bg:∀{i:Int} {rd:Bool} {v:Option Int},rd=v.isNone->(d= .rd i/\v=none\/∃x,d= .wr i x/\v=some x)->bN y i rd v= .ok z a->∃j h rd v,y.ah.hs[j]? =some h/\h.atw=false/\rd=v.isNone/\z=cq (ar y (bj y.ah j h v)) j rd v/\(d= .rd (j:Int)/\v=none\/∃x,d= .wr (j:Int) x/\v=some x):=by
  intro i rd v hrd hdd h
  unfold bN at h
  split at h
  · cases h
  · rename_i j hj
    split at h
    · cases h
    · rename_i g hg
      split at h
      · cases h
      · rename_i ha
        cases h
        have ei:i=(j:Int):=by
         unfold inB at hj
         split at hj
         · cases hj
         · have hj:=Option.some.inj hj
           omega
        refine⟨j,g,rd,v,hg,by cases q:g.atw <;> simp_all,hrd,rfl,?_⟩
        rw[<-ei]
        exact hdd
 cases d with
 |wr i v=>exact .inl (bg rfl (.inr ⟨v,rfl,rfl⟩) hd)
 |rd i=>exact .inl (bg rfl (.inl ⟨rfl,rfl⟩) hd)
 |ca n s=>
  unfold doneF at hd
  dsimp only at hd
  split at hd
  · cases hd
  · cases hd
    obtain⟨E,h1⟩:=pE W (vJ y n) s
    exact .inr ⟨_,_,rfl,E,h1,oA _ _,fun O H=>xc W H (vJ y n) s⟩
 |pa i j=>
  unfold doneF at hd
  dsimp only at hd
  split at hd
  · cases hd
  · split at hd
    · cases hd
    · cases hd
      obtain⟨E,h1⟩:=oE (bM _ _) W
      exact .inr ⟨_,_,rfl,E,h1,(gw (bM _ _) _ _ W (qO_ _)).2.2,fun O H=>zd (bM _ _) W H⟩
 |sw=>
  unfold doneF at hd
  cases hd
  obtain⟨E,h1⟩:=oE bG W
  exact .inr ⟨_,_,rfl,E,h1,(gw bG _ _ W (qO_ _)).2.2,fun O H=>zd bG W H⟩
 |ag i=>
  unfold doneF fF at hd
  dsimp only at hd
  split at hd
  · cases hd
  · split at hd
    · cases hd
    · rename_i j _ _ g hg
      split at hd
      · cases hd
        exact .inr ⟨{y.ah with row:=newRow y.ah g},[],rfl,yr hg⟩
      · cases hd
 |qu i=>
  unfold doneF fF at hd
  dsimp only at hd
  split at hd
  · cases hd
  · split at hd
    · cases hd
    · rename_i j _ _ g hg
      split at hd
      · cases hd
        exact .inr ⟨{y.ah with hs:=y.ah.hs.set j {g with atw:=false}},[],rfl,zp hg⟩
      · cases hd
 |st i=>
  unfold doneF lu at hd
  dsimp only at hd
  split at hd
  · cases hd
  · split at hd
    · cases hd
    · rename_i j _ _ g hg
      cases hd
      exact .inr ⟨{y.ah with ks:=y.ah.ks.set j {g with up:=false}},[],rfl,zw hg false⟩
 |wa i=>
  unfold doneF lu at hd
  dsimp only at hd
  split at hd
  · cases hd
  · split at hd
    · cases hd
    · rename_i j _ _ g hg
      cases hd
      exact .inr ⟨{y.ah with ks:=y.ah.ks.set j {g with up:=true}},[],rfl,zw hg true⟩
def Ow(y:Sy)(i:Nat)(s:Int×Int):Prop:=∃(p q:Nat) (w v:Wk) (e:Nat),(i,p)∈y.last/\y.af[p]? =some w/\y.af[q]? =some v/\v.en=some e/\e < w.beg/\v.aY=some s
structure Sx (y:Sy):Prop where
 K:∀(p:Nat) w,y.af[p]? =some w->w.en≠none->∃s,w.aY=some s/\Maj y.ah.ks s
 G:∀(p q:Nat) w v s e,y.af[p]? =some w->y.af[q]? =some v->v.en=some e->e < w.beg->w.aY=some s->∃t,v.aY=some t/\gtS t s=false/\(w.rd=false->gtS s t=true)
 H:HI (Ow y) y.ah
 R:∀(p:Nat) w s,y.af[p]? =some w->w.rd=true->w.aY=some s->∃v,nM y.af (s,v)/\(w.en≠none->w.val=some v)
 e:∀(p:Nat) w e,y.af[p]? =some w->w.en=some e->e < y.aE/\w.beg < e
def sx0(c m:Nat):Sx (bJ c m):=by
 have none:∀(p:Nat) w,(bJ c m).af[p]? =some w->False:=fun p w h=>by simp [bJ]at h
 refine⟨fun p w h=>(none p w h).elim,fun p _ w _ _ _ h=>(none p w h).elim,⟨fun i h e a b=>?_,fun i h P e b=>?_,fun i h P e a b=>?_⟩,fun p w _ h=>(none p w h).elim,fun p w _ h=>(none p w h).elim⟩
 all_goals
  have e:((List.range m).map fun i=>jj i c)[i]? =some h:=e
  obtain⟨x,_,rfl⟩:=qH_.mp (qD_ e)
  first |cases a |cases b
def eZ{y:Sy}(M:Md y)(I:Iv y){d:bZ}{b:Hl}{es:List (Nat×Pr)}{a:An}(h:doneF y d= .ok (endsF y (b,es)) a)(S:Stp y.ah b es){p:Nat}{w w':Wk}(hw:y.af[p]? =some w)(hw':(aO y d).1.af[p]? =some w'):
 (∀s,w.aY=some s->w'.aY=some s)/\∀s,w'.aY=some s->w.aY=some s\/(w.aY=none/\∃j g q,(j,p)∈y.last/\b.hs[j]? =some g/\g.pair=some q/\s=q.1/\w.rd=g.val.isNone):=by
 have M':=M.xV I d
 obtain⟨eh,el,_,_,_⟩:=ki h
 by_cases hl:∃j,(j,p)∈y.last
 · obtain⟨j,hj⟩:=hl
   obtain⟨jl,_⟩:=I.W.la _ hj
   have hg:=qA_ jl
   obtain⟨g',hg',go⟩:=S.E.get' hg
   obtain⟨w0,hw0,b1,b2,b3,b4⟩:=M.lk j p _ hg hj
   rw[hw]at hw0
   cases hw0
   obtain⟨w1,hw1,c1,c2,c3,c4⟩:=M'.lk j p g' (by rw[eh];exact hg') (by rw[el];exact hj)
   rw[hw']at hw1
   cases hw1
   refine⟨fun s hs=>?_,fun s hs=>?_⟩
   · rw[b4]at hs
     cases hq:(y.ah.hs[j]).pair with
     |none=>rw[hq]at hs;cases hs
     |some q=>rw[c4,(go.keeps hq).1,<-hq];exact hs
   · rw[c4]at hs
     cases hq:g'.pair with
     |none=>rw[hq]at hs;cases hs
     |some q=>
      rw[hq]at hs
      have hs:q.1=s:=Option.some.inj hs
      rcases go.2 with ⟨d1,_⟩ |⟨d1,_⟩
      · left
        rw[b4,<-d1,hq,<-hs]
        rfl
      · right
        exact⟨by rw[b4,d1];rfl,j,g',q,hj,hg',hq,hs.symm,by rw[b2,go.1]⟩
 · have same:w'.aY=w.aY:=by
    have ea:(aO y d).1=bW (aH (endsF y (b,es))):=by unfold aO gq;rw[h]
    rw[ea]at hw'
    have hw':((bt (ar y b) es).last.foldl aU (bt (ar y b) es)).af[p]? =some w':=hw'
    obtain⟨n1,n2,_,_⟩:=eD es (ar y b)
    rw[dh,n1]at hw'
    have no:asg (bt (ar y b) es).ah.hs (ar y b).last p=none:=by
     cases q:asg (bt (ar y b) es).ah.hs (ar y b).last p with
     |none=>rfl
     |some s=>
      obtain⟨e,he,e2,_⟩:=mh q
      exact absurd ⟨e.1,by rw[<-e2];exact he⟩ hl
    rw[no]at hw'
    cases hw1:(bt (ar y b) es).af[p]? with
    |none=>rw[hw1]at hw';cases hw'
    |some w1=>
     rw[hw1]at hw'
     have hw':w1=w':=Option.some.inj hw'
     obtain⟨w0,hw0,_,_,a3,_⟩:=km es (ar y b) p w1 hw1
     have hw0:y.af[p]? =some w0:=hw0
     rw[hw]at hw0
     cases hw0
     rw[<-hw',a3]
   exact⟨fun s hs=>same.trans hs,fun s hs=>.inl (same.symm.trans hs)⟩
def xX{y:Sy}(M:Md y)(I:Iv y){d:bZ}{b:Hl}{es:List (Nat×Pr)}{a:An}(h:doneF y d= .ok (endsF y (b,es)) a)(S:Stp y.ah b es){q:Pr}(hq:nM y.af q):nM (aO y d).1.af q:=by
 have M':=M.xV I d
 obtain⟨eh,el,_,elen,ew⟩:=ki h
 rcases hq with z |⟨p,w,hw,r,s,v⟩
 · exact .inl z
 · have hl:p < (aO y d).1.af.length:=by rw[elen];exact(qB_.mp hw).1
   have hw':=qA_ hl
   generalize (aO y d).1.af[p]=w' at hw'
   obtain⟨w0,hw0,a1,a2,a3,a4⟩:=ew p w' hw'
   rw[hw]at hw0
   cases hw0
   refine .inr ⟨p,w',hw',a2.trans r,(eZ M I h S hw hw').1 _ s,?_⟩
   rcases a4 with a4 |⟨e,he,c1,c2,_⟩
   · exact a4.1.trans v
   · obtain⟨g,hg,ga⟩:=S.w e he
     have hin:=I.W.atw _ g hg ga
     have hj:(e.1,p)∈y.last:=by rw[c1];exact ek hin
     obtain⟨w0,hw0,b1,b2,b3,b4⟩:=M.lk e.1 p g hg hj
     rw[hw]at hw0
     cases hw0
     obtain⟨g',hg',go⟩:=S.E.get' hg
     obtain⟨w1,hw1,d1,d2,d3,d4⟩:=M'.lk e.1 p g' (by rw[eh];exact hg') (by rw[el];exact hj)
     rw[hw']at hw1
     cases hw1
     cases hv:g.val with
     |none=>rw[r,hv]at b2;cases b2
     |some x=>rw[d3 x (go.1.trans hv),<-b3 x hv,v]
def CT{y:Sy}(M:Md y)(I:Iv y)(B:Bg y)(X:Sx y){d:bZ}{b:Hl}{es:List (Nat×Pr)}{a:An}(h:doneF y d= .ok (endsF y (b,es)) a)(S:Stp y.ah b es):Sx (aO y d).1:=by
 have M':=M.xV I d
 obtain⟨eh,el,ed,elen,ew⟩:=ki h
 obtain⟨HB,gr,mj⟩:=S.hi _ X.H
 have oldEnd:∀(p q:Nat) w' v' e,(aO y d).1.af[p]? =some w'->(aO y d).1.af[q]? =some v'->v'.en=some e->e < w'.beg->∃w v,y.af[p]? =some w/\y.af[q]? =some v/\w'.beg=w.beg/\w'.rd=w.rd/\v.en=some e:=fun p q w' v' e hw' hv' he lt=>by
  obtain⟨w,hw,_,w2,w3,_⟩:=ew p w' hw'
  obtain⟨v,hv,_,_,_,v4⟩:=ew q v' hv'
  refine⟨w,v,hw,hv,w3,w2,?_⟩
  rcases v4 with v4 |⟨_,_,_,_,c3⟩
  · exact v4.2.symm.trans he
  · have:=B p w hw
    rw[c3]at he
    cases he
    omega
 have own:∀i s,Ow (aO y d).1 i s->Ow y i s:=by
  rintro i s ⟨p,q,w',v',e,hl,hw',hv',he,lt,hs⟩
  obtain⟨w,v,hw,hv,e1,e2,e3⟩:=oldEnd p q w' v' e hw' hv' he lt
  refine⟨p,q,w,v,e,by rw[<-el];exact hl,hw,hv,e3,by omega,?_⟩
  obtain⟨t,ht,_⟩:=X.K q v hv (by rw[e3];exact Option.some_ne_none _)
  rw[(eZ M I h S hv hv').1 t ht]at hs
  rw[ht,hs]
 refine⟨fun p w' hw' he=>?_,fun p q w' v' s e hw' hv' he lt hs=>?_,by rw[eh];exact HB.mono own,fun p w' s hw' hr hs=>?_,fun p w' e hw' he=>?_⟩
 · obtain⟨w,hw,_,_,_,w4⟩:=ew p w' hw'
   rw[eh]
   rcases w4 with w4 |⟨e,hem,c1,c2,c3⟩
   · obtain⟨s,hs,ms⟩:=X.K p w hw (by rw[<-w4.2];exact he)
     exact⟨s,(eZ M I h S hw hw').1 s hs,gr.maj ms⟩
   · obtain⟨g,hg,hp⟩:=S.p e hem
     obtain⟨g0,hg0,ga⟩:=S.w e hem
     have hj:(e.1,p)∈y.last:=by rw[c1];exact ek (I.W.atw _ g0 hg0 ga)
     obtain⟨w1,hw1,_,_,_,d4⟩:=M'.lk e.1 p g (by rw[eh];exact hg) (by rw[el];exact hj)
     rw[hw']at hw1
     cases hw1
     exact⟨e.2.1,by rw[d4,hp];rfl,mj e hem⟩
 · obtain⟨w,v,hw,hv,e1,e2,e3⟩:=oldEnd p q w' v' e hw' hv' he lt
   obtain⟨t,ht,_⟩:=X.K q v hv (by rw[e3];exact Option.some_ne_none _)
   have lt':e < w.beg:=by omega
   refine⟨t,(eZ M I h S hv hv').1 t ht,?_⟩
   rcases (eZ M I h S hw hw').2 s hs with z |⟨z,j,g,q',c1,c2,c3,c4,c5⟩
   · obtain⟨t',ht',g1,g2⟩:=X.G p q w v s e hw hv e3 lt' z
     rw[ht]at ht'
     cases ht'
     exact⟨g1,fun hr=>g2 (by rw[<-e2];exact hr)⟩
   · obtain⟨g1,g2⟩:=HB.r2 j g q' c2 c3 t ⟨p,q,w,v,e,c1,hw,hv,e3,lt',ht⟩
     rw[c4]
     refine⟨g1,fun hr=>g2 fun z=>?_⟩
     rw[e2,c5,z]at hr
     cases hr
 · obtain⟨w,hw,_,w2,_,w4⟩:=ew p w' hw'
   have hp:∀j g q,(j,p)∈y.last->b.hs[j]? =some g->g.pair=some q->nM (aO y d).1.af q:=fun j g q _ hg hq=>M'.hp q (by rw[eh];exact .h j g hg hq)
   rcases w4 with w4 |⟨e,hem,c1,c2,c3⟩
   · rcases (eZ M I h S hw hw').2 s hs with z |⟨z,j,g,q',c1,c2,c3,c4,c5⟩
     · obtain⟨v,mv,hv⟩:=X.R p w s hw (by rw[<-w2];exact hr) z
       exact⟨v,xX M I h S mv,fun he=>w4.1.trans (hv (by rw[<-w4.2];exact he))⟩
     · refine⟨q'.2,by rw[c4];exact hp j g q' c1 c2 c3,fun he=>?_⟩
       obtain⟨t,ht,_⟩:=X.K p w hw (by rw[<-w4.2];exact he)
       rw[z]at ht
       cases ht
   · obtain⟨g,hg,hpr⟩:=S.p e hem
     obtain⟨g0,hg0,ga⟩:=S.w e hem
     have hj:(e.1,p)∈y.last:=by rw[c1];exact ek (I.W.atw _ g0 hg0 ga)
     obtain⟨w1,hw1,_,_,_,d4⟩:=M'.lk e.1 p g (by rw[eh];exact hg) (by rw[el];exact hj)
     rw[hw']at hw1
     cases hw1
     rw[d4,hpr]at hs
     have hs:e.2.1=s:=Option.some.inj hs
     exact⟨e.2.2,by rw[<-hs];exact hp e.1 g e.2 hj hg hpr,fun _=>c2⟩
 · obtain⟨w,hw,_,_,w3,w4⟩:=ew p w' hw'
   rw[ed,w3]
   rcases w4 with w4 |⟨_,_,_,_,c3⟩
   · have:=X.e p w e hw (w4.2.symm.trans he)
     omega
   · have:=B p w hw
     rw[c3]at he
     cases he
     omega
def vR{y:Sy}(M:Md y)(I:Iv y)(N:pS y){d:bZ}{j:Nat}{h:Hd}{rd:Bool}{v:Option Int}{a:An}(hj:y.ah.hs[j]? =some h)(hd:doneF y d= .ok (cq (ar y (bj y.ah j h v)) j rd v) a):
 (aO y d).1.ah=bj y.ah j h v/\(aO y d).1.last=putL y.last j y.af.length/\(aO y d).1.aE=y.aE+1/\(aO y d).1.af=y.af++[⟨j,rd,v,y.aE,none,none⟩]:=by
 have ea:(aO y d).1=bW (aH (cq (ar y (bj y.ah j h v)) j rd v)):=by unfold aO gq;rw[hd]
 obtain⟨s1,s2,s3,s4⟩:=bP (cq (ar y (bj y.ah j h v)) j rd v).last (cq (ar y (bj y.ah j h v)) j rd v)
 rw[ea]
 refine⟨s2,s1,?_,?_⟩
 · show (aH _).aE+1=_
   rw[show (aH (cq (ar y (bj y.ah j h v)) j rd v)).aE=y.aE from s3]
 · have M':=M.xV I d
   rw[ea]at M'
   have hlt:=(qB_.mp hj).1
   refine List.ext_getElem? fun p=>?_
   show ((cq (ar y (bj y.ah j h v)) j rd v).last.foldl aU (cq (ar y (bj y.ah j h v)) j rd v)).af[p]? =_
   rw[dh]
   show ((y.af++[(⟨j,rd,v,y.aE,none,none⟩:Wk)])[p]?).map (app (asg (y.ah.hs.set j (aZ h v)) (putL y.last j y.af.length) p))=_
   cases hw:(y.af++[(⟨j,rd,v,y.aE,none,none⟩:Wk)])[p]? with
   |none=>rfl
   |some w=>
    show some (app _ w)=some w
    congr 1
    cases ha:asg (y.ah.hs.set j (aZ h v)) (putL y.last j y.af.length) p with
    |none=>rfl
    |some s=>
     obtain⟨e,he,e2,e3⟩:=mh ha
     have hne:e.1≠j:=fun z=>by
      rw[z,qJ_,if_pos rfl,if_pos hlt]at e3
      cases e3
     rw[qJ_,if_neg (Ne.symm hne)]at e3
     have hel:e∈y.last:=by
      rcases mB he with z |z
      · rw[z]at hne;exact absurd rfl hne
      · exact z
     obtain⟨el,ep⟩:=I.W.la e hel
     have hg:=qA_ el
     obtain⟨w0,hw0,_,_,_,b4⟩:=M.lk e.1 e.2 _ hg hel
     rw[e2]at ep hw0
     rw[qK_ ep,hw0]at hw
     have hw:w0=w:=Option.some.inj hw
     subst hw
     rw[hg]at e3
     have e3:(y.ah.hs[e.1]).pair.map (·.1)=some s:=e3
     show ({w0 with aY:=some s}:Wk)=w0
     rw[<-e3,<-b4]
def Bj{y:Sy}(M:Md y)(I:Iv y)(N:pS y)(B:Bg y)(X:Sx y){d:bZ}{j:Nat}{h:Hd}{rd:Bool}{v:Option Int}{a:An}(hj:y.ah.hs[j]? =some h)(hd:doneF y d= .ok (cq (ar y (bj y.ah j h v)) j rd v) a):Sx (aO y d).1:=by
 obtain⟨eh,el,ed,ew⟩:=vR M I N hj hd
 have hlt:=(qB_.mp hj).1
 have W:=I.W.W
 have get:∀(p:Nat) w,(aO y d).1.af[p]? =some w->y.af[p]? =some w\/(p=y.af.length/\w=⟨j,rd,v,y.aE,none,none⟩):=fun p w hw=>by
  rw[ew]at hw
  by_cases z:p < y.af.length
  · rw[qK_ z]at hw
    exact .inl hw
  · have hp:p < (y.af++[(⟨j,rd,v,y.aE,none,none⟩:Wk)]).length:=(qB_.mp hw).1
    rw[qN_]at hp
    simp at hp
    have hp:p=y.af.length:=by omega
    subst hp
    rw[qL_ (qO_ _)]at hw
    simp at hw
    exact .inr ⟨rfl,hw.symm⟩
 have made:∀q,nM y.af q->nM (aO y d).1.af q:=fun q hq=>by
  rcases hq with z |⟨p,w,hw,c⟩
  · exact .inl z
  · exact .inr ⟨p,w,by rw[ew,qK_ (qB_.mp hw).1];exact hw,c⟩
 have maj:∀i s,Ow (aO y d).1 i s->Maj y.ah.ks s:=by
  rintro i s ⟨p,q,w,v',e,hl,hw,hv,he,lt,hs⟩
  rcases get q v' hv with z |⟨_,z⟩
  · obtain⟨t,ht,mt⟩:=X.K q v' z (by rw[he];exact Option.some_ne_none _)
    rw[hs]at ht
    cases ht
    exact mt
  · rw[z]at he;cases he
 have own:∀i s,i≠j->Ow (aO y d).1 i s->Ow y i s:=by
  rintro i s ne ⟨p,q,w,v',e,hl,hw,hv,he,lt,hs⟩
  rw[el]at hl
  have hl:(i,p)∈y.last:=by
   rcases mB hl with z |z
   · cases z;exact absurd rfl ne
   · exact z
  have hp:=(I.W.la _ hl).2
  have hw:y.af[p]? =some w:=by
   rcases get p w hw with z |⟨z,_⟩
   · exact z
   · have hp:p < y.af.length:=hp
     omega
  rcases get q v' hv with z |⟨_,z⟩
  · exact⟨p,q,w,v',e,hl,hw,z,he,lt,hs⟩
  · rw[z]at he;cases he
 have hget:∀(i:Nat) g,(y.ah.hs.set j (aZ h v))[i]? =some g->(i=j/\g=aZ h v)\/(i≠j/\y.ah.hs[i]? =some g):=fun i g e=>by
  rw[qJ_]at e
  by_cases z:j=i
  · rw[if_pos z,if_pos hlt]at e
    exact .inl ⟨z.symm,(Option.some.inj e).symm⟩
  · rw[if_neg z]at e
    exact .inr ⟨Ne.symm z,e⟩
 have hrow:∀e∈newRow y.ah (aZ h v),e.1=true->e∈y.ah.row:=fun e he t=>by
  rcases qG_.mp he with z |z
  · exact z
  · obtain⟨u,_,rfl⟩:=qH_.mp z
    cases t
 refine⟨fun p w hw he=>?_,fun p q w v' s e hw hv he lt hs=>?_,?_,fun p w s hw hr hs=>?_,fun p w e hw he=>?_⟩
 · rcases get p w hw with z |⟨_,z⟩
   · rw[eh];exact X.K p w z he
   · rw[z]at he;exact absurd rfl he
 · rcases get p w hw with z |⟨_,z⟩
   · rcases get q v' hv with z' |⟨_,z'⟩
     · exact X.G p q w v' s e z z' he lt hs
     · rw[z']at he;cases he
   · rw[z]at hs;cases hs
 · rw[eh]
   refine⟨fun i g e ga gp=>?_,fun i g P e gp s o=>?_,fun i g P e ga gp=>?_⟩
   · rcases hget i g e with ⟨z,z'⟩ |⟨z,z'⟩
     · refine⟨y.ah.ks,b7.refl _,fun s o=>maj i s o,fun e he=>(by rw[z']at he;cases he),fun e he t1 t2 t3=>?_⟩
       obtain⟨g0,e0,_,le,_⟩:=W.rw e (hrow e he t1)
       rw[t2,z,hj]at e0
       cases e0
       rw[z']at t3
       have t3:e.2.num=h.rnd+1:=t3
       omega
     · obtain⟨k0,x1,x2,x3,x4⟩:=X.H.r1 i g z' ga gp
       exact⟨k0,x1,fun s o=>x2 s (own i s z o),x3,fun e he t=>x4 e (hrow e he t) t⟩
   · rcases hget i g e with ⟨z,z'⟩ |⟨z,z'⟩
     · rw[z']at gp;cases gp
     · exact X.H.r2 i g P z' gp s (own i s z o)
   · rcases hget i g e with ⟨z,z'⟩ |⟨z,z'⟩
     · rw[z']at gp;cases gp
     · obtain⟨x1,x2⟩:=X.H.r3 i g P z' ga gp
       exact⟨x1,fun e he t=>x2 e (hrow e he t) t⟩
 · rcases get p w hw with z |⟨_,z⟩
   · obtain⟨u,mu,hu⟩:=X.R p w s z hr hs
     exact⟨u,made _ mu,hu⟩
   · rw[z]at hs;cases hs
 · rcases get p w hw with z |⟨_,z⟩
   · have:=X.e p w e z he
     rw[ed]
     omega
   · rw[z]at he;cases he
def CV{y:Sy}(M:Md y)(I:Iv y)(N:pS y)(B:Bg y)(X:Sx y)(d:bZ):Sx (aO y d).1:=by
 cases hd:doneF y d with
 |no c=>
  rw[BU N hd]
  exact⟨X.K,X.G,X.H,X.R,fun p w e hw he=>by
   have:=X.e p w e hw he
   show e < y.aE+1/\_
   omega⟩
 |ok z a=>
  rcases vI I d hd with ⟨j,h,rd,v,hj,_,_,rfl,_⟩ |⟨b,es,rfl,S⟩
  · exact Bj M I N B X hj hd
  · exact CT M I B X hd S
def EG{c m:Nat}(hc:c<=9)(hm:m<=9)(ds:List bZ):Sx (fN (bJ c m) ds):=by
 have go:∀(ds:List bZ) (y:Sy),Md y->Iv y->pS y->Bg y->Sx y->Sx (fN y ds):=by
  intro ds
  induction ds with
  |nil=>intro y _ _ _ _ X;exact X
  |cons d r ih=>intro y M I N B X;exact ih _ (M.xV I d) (sR I d) (uT y d) (BQ B d) (CV M I N B X d)
 exact go ds _ (md0 c m) (kB hc hm) (sM c m) (bg0 c m) (sx0 c m)
def xJ{ks:List Kr}{s:Int×Int}(h:Maj ks s):ks.length < 2*(ks.filter fun k=>!gtS s k.pair.1).length:=by
 obtain⟨ms,nd,big,hm⟩:=h
 have hl:((List.range ks.length).filter fun i=>(ks[i]?).any fun k=>!gtS s k.pair.1).length=(ks.filter fun k=>!gtS s k.pair.1).length:=by
  have e:ks.filter (fun k=>!gtS s k.pair.1)=((List.range ks.length).filter fun i=>(ks[i]?).any fun k=>!gtS s k.pair.1).filterMap fun i=>ks[i]?:=by
   have hk:ks=(List.range ks.length).filterMap fun i=>ks[i]?:=by
    refine List.ext_getElem? fun i=>?_
    have:(List.range ks.length).filterMap (fun i=>ks[i]?)=(List.range ks.length).pmap (fun i h=>ks[i]'h) fun i hi=>List.mem_range.mp hi:=by
     have:∀(l:List Nat) (H:∀i∈l,i < ks.length),l.filterMap (fun i=>ks[i]?)=l.pmap (fun i h=>ks[i]'h) H:=by
      intro l
      induction l with
      |nil=>intro H;rfl
      |cons a r ih=>
       intro H
       rw[List.filterMap_cons,qA_ (H a qI_),List.pmap_cons,ih fun i hi=>H i (qR_ _ hi)]
     exact this _ _
    rw[this,List.getElem?_pmap]
    by_cases hi:i < ks.length
    · rw[qA_ hi]
      simp [hi]
    · rw[List.getElem?_eq_none (by omega)]
      simp [hi]
   conv=>lhs;rw[hk]
   rw[List.filter_filterMap,List.filterMap_filter]
   congr 1
   funext i
   cases ks[i]? with
   |none=>rfl
   |some k=>cases q:gtS s k.pair.1 <;> simp [q]
  rw[e]
  have:∀l:List Nat,(∀i∈l,i < ks.length)->(l.filterMap fun i=>ks[i]?).length=l.length:=by
   intro l
   induction l with
   |nil=>intro _;rfl
   |cons a r ih=>
    intro H
    rw[List.filterMap_cons,qA_ (H a qI_)]
    simp [ih fun i hi=>H i (qR_ _ hi)]
  exact(this _ fun i hi=>List.mem_range.mp (List.mem_filter.mp hi).1).symm
 have:=rm (a:=ms) (b:=(List.range ks.length).filter fun i=>(ks[i]?).any fun k=>!gtS s k.pair.1) nd fun x hx=>by
  obtain⟨k,hk,g⟩:=hm x hx
  refine List.mem_filter.mpr ⟨List.mem_range.mpr (qB_.mp hk).1,?_⟩
  rw[hk]
  show (!gtS s k.pair.1)=true
  rw[show gtS s k.pair.1=false from g]
  rfl
 omega
section
variable{G G':Hh}{Q:D->Hh->Prop}{E:Nat->Hh->Prop}{σ:St}{y:Sy}{QS:Fl×St->Hh->Prop}
def sj.Hk{l1 l2 l3:Nat}(A:sj y l1 l2 l3 G)(c:Chg [] G G'):sj y l1 l2 l3 G':=⟨c.get A.1 (by simp),c.get A.2.1 (by simp),c.get A.2.2 (by simp)⟩
end
section
variable{G G':Hh}{Q:D->Hh->Prop}{E:Nat->Hh->Prop}{σ:St}{QS:Fl×St->Hh->Prop}
def El{ns:List Int}{B:S3}{rest:St}(hl:G[0]? =some (.frz (ns.map D.int)))
 (h:∀(c m:Nat) (ci mi:Int) G',ci=(c:Int)->mi=(m:Int)->0 < c->c<=9->0 < m->m<=9->Chg [] G G'->M3.run (B (some (.ref 0) :: some (.int ci) :: some (.int mi) :: rest)) G' QS E):
 M3.run ((aw (bD 1 (eOp oIx (dJ (ae (eC (.int 3)) (ae (eC (.int 3)) (ae (eC (.int 3)) (ae (eC (.int 1)) (ae (eC (.int 2)) (ae (eC (.int 4)) (ae (eC (.int 5)) (ae (eC (.int 3)) (ae (eC (.int 7)) (ae (eC (.int 8)) (ae (eC (.int 9)) (ae (eC (.int 3)) ao))))))))))))) (eOp oMod (eOp oMod (eOp fj (aF tV (ae (aa 0) (ae (eC (.int 0)) ao))) (eC (.int 48271))) (eC (.int 1049))) (eC (.int 12)))))
 (aw (bD 2 (eOp oIx (dJ (ae (eC (.int 2)) (ae (eC (.int 2)) (ae (eC (.int 3)) (ae (eC (.int 1)) (ae (eC (.int 2)) (ae (eC (.int 3)) (ae (eC (.int 2)) (ae (eC (.int 9)) ao))))))))) (eOp oMod (eOp oMod (eOp fj (aF tV (ae (aa 0) (ae (eC (.int 0)) ao))) (eC (.int 48271))) (eC (.int 1051))) (eC (.int 8))))) B))
 (some (.ref 0) :: none :: none :: rest)) G QS E:=by
 refine aA (bB (aD ?_))
 refine jB ?_
 lia
 intro G1 c1 l1 h1
 have f1:=c1.get hl (by simp)
 refine aD (aD (aD (bT (aj (w_var rfl (aj (w_c (aB (Hu (k:=0) f1 fun x=>?_)))))))))
 lia
 have i1:0<=x*48271 % 1049 % 12:=Int.emod_nonneg _ (by decide)
 have i2:x*48271 % 1049 % 12 < 12:=Int.emod_lt_of_pos _ (by decide)
 obtain⟨ci,mc,e⟩:=oa (xs:=[3,3,3,1,2,4,5,3,7,8,9,3]) i1 i2
 refine eE h1 e ?_
 obtain⟨c,hci,hc0,hc9⟩:=uP mc (by decide)
 clear i1 i2 e mc
 refine w_next ?_
 walk_at "s"
 refine aA (bB (aD ?_))
 refine jB ?_
 lia
 intro G2 c2 l2 h2
 have f2:=c2.get f1 (by simp)
 refine aD (aD (aD (bT (aj (w_var rfl (aj (w_c (aB (Hu (k:=0) f2 fun x'=>?_)))))))))
 lia
 have i1:0<=x'*48271 % 1051 % 8:=Int.emod_nonneg _ (by decide)
 have i2:x'*48271 % 1051 % 8 < 8:=Int.emod_lt_of_pos _ (by decide)
 obtain⟨mi,mm,e⟩:=oa (xs:=[2,2,3,1,2,3,2,9]) i1 i2
 refine eE h2 e ?_
 obtain⟨m,hmi,hm0,hm9⟩:=uP mm (by decide)
 refine w_next ?_
 walk_at "s"
 exact h c m ci mi G2 hci hmi hc0 hc9 hm0 hm9 (c1.trans c2)
end
section
variable{G G':Hh}{Q:D->Hh->Prop}{E:Nat->Hh->Prop}{σ:St}{y:Sy}{QS:Fl×St->Hh->Prop}
def gS{ws:List Wk}{ls p:Nat}{w:Wk}(hs:G[ls]? =some (.lst (ws.map fun w=>stD w.aY)))(hp:ws[p]? =some w)(h:Q (stD w.aY) G):M3.run (oIx (.ref ls) (.int (p:Int))) G Q E:=
 Fv hs (by rw[qQ_,hp];rfl) h
def g6{ws:List Wk}{lw p:Nat}{w:Wk}(hs:G[lw]? =some (.lst (ws.map mJ)))(hp:ws[p]? =some w)(h:Q (mJ w) G):M3.run (oIx (.ref lw) (.int (p:Int))) G Q E:=Ht hs hp h
def Du(b:Bool){k:Nat}:eqG G (k+1) (.str (word b)) (.str "write")=some (!b):=by rw[wI];cases b <;> rfl
def GU(b:Bool){k:Nat}:eqG G (k+1) (.str (word b)) (.str "read")=some b:=by rw[wI];cases b <;> rfl
def yb{l1 l2 l3:Nat}(A:sj y l1 l2 l3 G)(M:Md y)(hz:y.af.length<=1000)(h:∀d G',Chg [] G G'->G.length<=d->G'[d]? =some (.dT (dM y.af))->Q (.ref d) G'):M3.run (kG [.ref l1,.ref l2]) G Q E:=by
 have n1:=az A.1
 have n2:=az A.2.1
 walk_at "f"
 unfold mM
 refine aA (bB (FO fun Ga ca la ha=>?_))
 lia
 refine xo (k:=[0,0]) ha rfl (by simp [aC]) fun Gb cb lb hb=>?_
 rw[show put ([]:List (List Int×D)) [0,0] (D.int 0)=[([0,0],.int 0)]from rfl]at hb
 have c0:Chg [] G Gb:=ca.trans' cb (by intro n hn;simp at hn;exact .inr (by omega))
 refine w_next ?_
 walk_at "s"
 refine aA (nG (gN (bT (aj (w_var rfl (aB (dD (c0.get A.1 (by simp)) ?_)))))))
 rw[qM_]
 with_reducible refine fJ (by omega) ?_
 refine mP (fun i σ G'=>∃u v w,σ=[some (.ref l1),some (.ref l2),some (.ref G.length),u,v,w]/\i<=y.af.length/\Chg [] G G'/\G'[G.length]? =some (.dT (dM (y.af.take i)))) ?_ ?_ ⟨none,none,none,rfl,by omega,c0,hb⟩
 · rintro i σ G1 hi ⟨u,v,x,rfl,_,c1,h1⟩
   have hw:y.af[i]? =some y.af[i]:=qA_ hi
   have hle:=ra y.af i (by omega)
   have hsn:=take_succ hw
   generalize y.af[i]=w at hw hsn
   have b1:=c1.get A.1 (by simp)
   have b2:=c1.get A.2.1 (by simp)
   refine ay ?_
   with_reducible refine jk ?_
   walk_at "s"
   refine b8 (kc (dI (aD (aD (aD (w_var rfl (w_var rfl (g6 b1 hw (w_c (bi (d:= .str (word w.rd)) rfl (w_c ?_)))))))))))
   refine w_eq (Du w.rd) (cn ?_)
   have gH:kT (dM (y.af.take i)) w=dM (y.af.take i)->G1[G.length]? =some (.dT (dM (y.af.take (i+1)))):=fun z=>by rw[hsn,iQ,z];exact h1
   cases hr:w.rd with
   |true=>
    rw[show (!true)=false from rfl,if_neg qC_]
    refine fL ?_
    rw[if_neg qC_]
    exact cZ ⟨_,_,_,rfl,by omega,c1,gH (by unfold kT;rw[hr];rfl)⟩
   |false=>
    rw[show (!false)=true from rfl,if_pos rfl]
    refine dI (lL (aD (w_var rfl (w_var rfl (gS b2 hw ?_)))))
    refine g8 (cn ?_)
    cases ht:w.aY with
    |none=>
     rw[show (!decide (stD none=D.non))=false from rfl,if_neg qC_]
     exact cZ ⟨_,_,_,rfl,by omega,c1,gH (by unfold kT;rw[hr,ht];rfl)⟩
    |some s=>
     obtain⟨u1,u2,_⟩:=M.un i w s hw hr ht
     rw[show (!decide (stD (some s)=D.non))=true from rfl,if_pos rfl]
     refine aA (AG (aD (w_var rfl (w_var rfl (gS b2 hw ?_)))))
     rw[ht]
     unfold stD
     refine wO rfl ?_
     walk_at "s"
     refine w_next ?_
     have hno:look (dM (y.af.take i)) (stK s)=none:=by
      cases q:look (dM (y.af.take i)) (stK s)with
      |none=>rfl
      |some d=>
       obtain⟨p,w',pl,hw',hr',ht'⟩:=(pJ (fun p w t e r s=>(M.un p w t e r s).2.1) M.ds i (by omega)).2.2 s d q (by intro z;rw[z]at u2;simp at u2)
       have:=M.ds p i w' w s hw' hw hr' hr ht' ht
       omega
     refine aA (b8 (oY (dI (aD (aD (w_var rfl (w_var rfl (gS b2 hw (w_var rfl ?_)))))))))
     rw[ht]
     refine Hm (k:=stK s) h1 rfl ?_
     rw[hno]
     refine cn ?_
     rw[show (none:Option D).isSome=false from rfl,if_neg qC_]
     refine oY (dI (aD (w_var rfl (w_c (A0 (cn ?_))))))
     rw[qa_ (by omega),if_neg qC_]
     refine dI (aD (w_var rfl (aD (aD (w_var rfl (w_var rfl (g6 b1 hw (w_c (bi (d:= .int (w.hand:Int)) rfl ?_)))))))))
     refine qE (b:=true) (by rw[eq_int,u1];simp) (cn ?_)
     rw[show (!true)=false from rfl,if_neg qC_]
     refine cZ (w_next ?_)
     refine E4 (aD (aD (w_var rfl (w_var rfl (g6 b1 hw (w_c (bi (d:=oD w.val) rfl (w_var rfl (aD (w_var rfl (w_var rfl (gS b2 hw ?_))))))))))))
     rw[ht]
     refine xo (k:=stK s) h1 rfl (by unfold aC;omega) fun G2 c2 l2 h2=>⟨_,_,_,rfl,by omega,c1.trans' c2 (by intro n hn;simp at hn;exact .inr (by omega)),?_⟩
     rw[hsn,iQ]
     have:kT (dM (y.af.take i)) w=put (dM (y.af.take i)) (stK s) (oD w.val):=by unfold kT;rw[hr,ht];rfl
     rw[this]
     exact h2
 · rintro σ G1 ⟨u,v,x,rfl,_,c1,h1⟩
   rw[List.take_length]at h1
   lia
   exact h _ G1 c1 (qO_ _) h1
def HN{a b:List D}{m n:List Int}(e1:intsOf a=some m)(e2:intsOf b=some n)(h:Q (.bl (!k6 m n)) G):M3.run (BD (.tup a) (.tup b)) G Q E:=by
 show M3.run (match intsOf a,intsOf b with
  |some m,some n=>ret (.bl (!k6 m n))
  |_,_=>fail) G Q E
 rw[e1,e2];exact h
def rZ{l1 l2 l3:Nat}(A:sj y l1 l2 l3 G)(X:Sx y)(hz:y.af.length<=1000)(hk:y.ah.ks.length<=9)(h:∀G',Chg [] G G'->Q (.bl true) G'):M3.run (fZ [.ref l1,.ref l2,.ref l3]) G Q E:=by
 walk_at "f"
 unfold jh
 refine aA (nG (gN (bT (aj (w_var rfl (aB (dD A.1 ?_)))))))
 rw[qM_]
 with_reducible refine fJ (by omega) ?_
 refine mP (fun i σ G'=>∃u v,σ=[some (.ref l1),some (.ref l2),some (.ref l3),u,v]/\Chg [] G G') ?_ ?_ ⟨none,none,rfl,Chg.refl _ _⟩
 · rintro i σ G1 hi ⟨u,v,rfl,c1⟩
   have hw:y.af[i]? =some y.af[i]:=qA_ hi
   generalize y.af[i]=w at hw
   have b1:=c1.get A.1 (by simp)
   have b2:=c1.get A.2.1 (by simp)
   have b3:=c1.get A.2.2 (by simp)
   refine ay ?_
   with_reducible refine jk ?_
   walk_at "s"
   refine b8 (dI (lL (aD (aD (w_var rfl (w_var rfl (g6 b1 hw (w_c (bi (d:=nD w.en) rfl ?_)))))))))
   refine g8 (cn ?_)
   rw[oJ]
   cases he:w.en with
   |none=>
    rw[show (!(none:Option Nat).isNone)=false from rfl,if_neg qC_]
    exact cZ ⟨_,_,rfl,c1⟩
   |some e=>
    obtain⟨s,hs,mj⟩:=X.K i w hw (by rw[he];exact Option.some_ne_none _)
    rw[show (!(some e).isNone)=true from rfl,if_pos rfl]
    refine aA (b8 (dI (lL (aD (w_var rfl (w_var rfl (gS b2 hw ?_)))))))
    refine xh (cn ?_)
    rw[hs,show decide (stD (some s)=D.non)=false from rfl,if_neg qC_]
    refine cZ (w_next ?_)
    refine aA (bB (bT (aj ?_)))
    refine kJ (mw (w_var rfl ?_))
    refine eS b3 ?_
    with_reducible refine kh (f:=fun k:Kr=>pD k.pair) (p:=fun k:Kr=>!gtS s k.pair.1) (g:=fun k:Kr=>pD k.pair) (qZ_ b3) (by omega) (fun k _=>?_) (fun k _ _=>?_) ?_
    · refine dI (aD (aD (w_var rfl (w_c ?_))))
      unfold pD
      refine bi rfl ?_
      refine aD (w_var rfl (w_var rfl (gS b2 hw ?_)))
      rw[hs]
      refine HN rfl rfl ?_
      exact cn ⟨rfl,rfl⟩
    · exact w_var rfl ⟨rfl,rfl⟩
    intro G2 c2 l2' h2
    refine aB (dD h2 ?_)
    rw[qM_]
    have mc:=xJ mj
    have fl:(y.ah.ks.filter fun k=>!gtS s k.pair.1).length<=y.ah.ks.length:=List.length_filter_le _ _
    generalize (y.ah.ks.filter fun k=>!gtS s k.pair.1).length=n at mc fl ⊢
    refine w_next ?_
    walk_at "s"
    refine b8 (dI (aD (w_var rfl (aD (bT (aj (w_var rfl (aB (dD (c2.get b3 (by simp)) (w_var rfl ?_))))))))))
    rw[qM_]
    with_reducible refine zH ?_
    with_reducible refine C9 ?_
    refine cn ?_
    rw[qa_ (by omega),if_neg qC_]
    exact cZ ⟨_,_,rfl,c1.trans c2⟩
 · rintro σ G1 ⟨u,v,rfl,c1⟩
   lia
   exact h G1 c1
def D8{k:Nat}{a b:Int×Int}:eqG G (k+2) (stD (some a)) (stD (some b))=some (decide (a=b)):=by
 have:eqG G (k+2) (stD (some a)) (stD (some b))=some ((decide (a.1=b.1)&&(decide (a.2=b.2)&&true))&&true):=rfl
 rw[this,Bool.and_true,Bool.and_true]
 congr 1
 by_cases h:a=b
 · subst h;simp
 · rw[qa_ h]
   cases h1:decide (a.1=b.1)with
   |false=>rfl
   |true=>
    rw[Bool.true_and]
    exact qa_ fun h2=>h (Prod.ext (of_decide_eq_true h1) h2)
def qC{l1 l2 l3:Nat}(A:sj y l1 l2 l3 G)(X:Sx y)(hz:y.af.length<=1000)(h:Q (.bl true) G):M3.run (fC [.ref l1,.ref l2]) G Q E:=by
 walk_at "f"
 unfold ie
 refine aA (nG (gN (bT (aj (w_var rfl (aB (dD A.1 ?_)))))))
 rw[qM_]
 with_reducible refine fJ (by omega) ?_
 refine mP (fun i σ G'=>∃a b c d,σ=[some (.ref l1),some (.ref l2),a,b,c,d]/\G'=G) ?_ ?_ ⟨none,none,none,none,rfl,rfl⟩
 · rintro i σ G1 hi ⟨a0,a1,a2,a3,rfl,e⟩
   subst e
   have hw:y.af[i]? =some y.af[i]:=qA_ hi
   generalize y.af[i]=w at hw
   refine ay ?_
   with_reducible refine jk ?_
   walk_at "s"
   refine nG (gN (bT (aj (w_var rfl (aB (dD A.1 ?_))))))
   rw[qM_]
   with_reducible refine fJ (by omega) ?_
   refine mP (fun j σ G'=>∃b c d,σ=[some (.ref l1),some (.ref l2),some (.int (i:Int)),b,c,d]/\G'=G1) ?_ ?_ ⟨_,_,_,rfl,rfl⟩
   · rintro j σ G2 hj ⟨b0,b1,b2,rfl,e⟩
     subst e
     have hv:y.af[j]? =some y.af[j]:=qA_ hj
     generalize y.af[j]=v at hv
     refine ay ?_
     with_reducible refine jk ?_
     walk_at "s"
     refine aA (bB (aD (aD (w_var rfl (w_var rfl (g6 A.1 hv (w_c (bi (d:=nD v.en) rfl ?_))))))))
     refine w_next ?_
     walk_at "s"
     refine aA (bB (wd (lL (w_var rfl (g8 ?_)))))
     rw[oJ]
     refine cn ?_
     have fin:∀bb:Bool,(bb=true->∃e,v.en=some e/\e < w.beg)->M3.run ((sIf (lF (tOf (aa 5)) (tB (eUn fQ (eOp oIx (aa 1) (aa 2))))) (aw (sIf (tB (eOp oLt (eOp oIx (aa 1) (aa 2)) (eOp oIx (aa 1) (aa 3)))) (aG (eC (.bl false))) bf)
      (sIf (lF (tB (eOp oEq (eOp oIx (eOp oIx (aa 0) (aa 2)) (eC (.int 1))) (eC (.str "write")))) (tB (eOp oEq (eOp oIx (aa 1) (aa 2)) (eOp oIx (aa 1) (aa 3))))) (aG (eC (.bl false))) bf)) bf) [some (.ref l1),some (.ref l2),some (.int (i:Int)),some (.int (j:Int)),some (nD v.en),some (.bl bb)]) G2 (fun p G1'=>match p.1 with
      | .next=>∃b c d,p.2=[some (.ref l1),some (.ref l2),some (.int (i:Int)),b,c,d]/\G1'=G2
      | .cont=>∃b c d,p.2=[some (.ref l1),some (.ref l2),some (.int (i:Int)),b,c,d]/\G1'=G2
      | .brk=>∃a b c d,p.2=[some (.ref l1),some (.ref l2),a,b,c,d]/\G1'=G2
      | .ret d=>M3.run (sK (aG (eC (.bl true))) (Fl.ret d,p.2)) G1' (fun p G1=>M3.run (fK p) G1 Q E) E) E:=by
      intro bb hb
      refine b8 (kc (jM (w_var rfl (lA ?_))))
      cases bb with
      |false=>
       rw[if_neg qC_]
       refine fL ?_
       rw[if_neg qC_]
       exact cZ ⟨_,_,_,rfl,rfl⟩
      |true=>
       obtain⟨e,he,lt⟩:=hb rfl
       rw[if_pos rfl]
       refine dI (lL (aD (w_var rfl (w_var rfl (gS A.2.1 hw (g8 (cn ?_)))))))
       cases hs:w.aY with
       |none=>
        rw[show (!decide (stD none=D.non))=false from rfl,if_neg qC_]
        exact cZ ⟨_,_,_,rfl,rfl⟩
       |some s=>
        obtain⟨t,ht,g1,g2⟩:=X.G i j w v s e hw hv he lt hs
        rw[show (!decide (stD (some s)=D.non))=true from rfl,if_pos rfl]
        refine aA (b8 (dI (aD (aD (w_var rfl (w_var rfl (gS A.2.1 hw (aD (w_var rfl (w_var rfl (gS A.2.1 hv ?_)))))))))))
        rw[hs,ht]
        refine HJ rfl rfl (cn ?_)
        rw[show k6 [s.1,s.2] [t.1,t.2]=false from g1,if_neg qC_]
        refine cZ (w_next ?_)
        refine b8 (kc (dI (aD (aD (aD (w_var rfl (w_var rfl (g6 A.1 hw (w_c (bi (d:= .str (word w.rd)) rfl (w_c ?_)))))))))))
        refine w_eq (Du w.rd) (cn ?_)
        cases hr:w.rd with
        |true=>
         rw[show (!true)=false from rfl,if_neg qC_]
         refine fL ?_
         rw[if_neg qC_]
         exact cZ ⟨_,_,_,rfl,rfl⟩
        |false=>
         rw[show (!false)=true from rfl,if_pos rfl]
         refine dI (aD (aD (w_var rfl (w_var rfl (gS A.2.1 hw (aD (w_var rfl (w_var rfl (gS A.2.1 hv ?_)))))))))
         rw[hs,ht]
         refine w_eq D8 (cn ?_)
         have ne:¬s=t:=fun z=>by
          have:=g2 hr
          rw[z,eM]at this
          cases this
         rw[qa_ ne,if_neg qC_]
         exact cZ ⟨_,_,_,rfl,rfl⟩
     cases he:v.en with
     |none=>
      rw[show (!(none:Option Nat).isNone)=false from rfl,if_neg qC_]
      refine fL (w_next ?_)
      walk_at "s"
      have:=fin false (fun z=>by cases z)
      rw[he]at this
      exact this
     |some e=>
      rw[show (!(some e).isNone)=true from rfl,if_pos rfl]
      refine aD (w_var rfl (aD (aD (w_var rfl (w_var rfl (g6 A.1 hw (w_c (bi (d:= .int (w.beg:Int)) rfl ?_))))))))
      refine A0 (w_next ?_)
      walk_at "s"
      have:=fin (decide ((e:Int) < (w.beg:Int))) (fun z=>⟨e,he,by have:=of_decide_eq_true z;omega⟩)
      rw[he]at this
      exact this
   · rintro σ G2 ⟨b0,b1,b2,rfl,e⟩
     exact⟨_,_,_,_,rfl,e⟩
 · rintro σ G1 ⟨a0,a1,a2,a3,rfl,e⟩
   subst e
   lia
   exact h
def F6{ns:List Int}(hl:G[0]? =some (.frz (ns.map D.int)))(hQ:∀G',Q (.bl true) G'):M3.run (pP [.ref 0]) G Q E:=by
 walk_at "f"
 unfold Av
 refine El hl fun c m ci mi G2 hci hmi hc0 hc9 hm0 hm9 c2=>?_
 have f2:=c2.get hl (by simp)
 refine aA (bB (bT (aj (w_var rfl (aj (w_var rfl (aj (bT (aj (HZ (w_var rfl (sD (w_c (Ax (sD (w_c (Ax ?_)))))))))))))))))
 refine Fu f2 fun G3 c3 l3 h3=>?_
 obtain⟨ms,em,hms⟩:=yI ns 1 23
 have em':cutD (ns.map D.int) (some 1) (some 23)=ms.map D.int:=em
 rw[em']at h3
 refine aj (w_var rfl (aj (w_var rfl (aB ?_))))
 refine AX hci hmi hc0 hm0 h3 (by omega) fun ds ld G4 c4 g4 hds _ h4=>?_
 refine aB ?_
 refine uW hci hmi hc9 hm9 h4 (by omega) fun a1 a2 a3 G5 c5 g1 g2 g3 A=>?_
 refine w_next ?_
 walk_at "s"
 have I0:=kB hc9 hm9
 obtain⟨I1,hd1,_,hk1⟩:=oi I0 ds
 have hz:(fN (bJ c m) ds).af.length<=1000:=by
  have:=I1.w
  rw[hd1]at this
  have:(fN (bJ c m) ds).af.length<=0+ds.length:=this
  omega
 have hk:(fN (bJ c m) ds).ah.ks.length<=9:=by rw[hk1];simp [bJ,eF];exact hc9
 have M:=DD (md0 c m) I0 ds
 have X:=EG hc9 hm9 ds
 generalize fN (bJ c m) ds=yy at*
 clear h3 h4 c3 c4 c5 c2 f2 hl em em' hms g4
 refine aA (b8 (dI (lL (w_var rfl (xh ?_)))))
 rw[show decide (D.tup [D.ref a1,D.ref a2,D.ref a3]=D.non)=false from rfl]
 refine cn ?_
 rw[if_neg qC_]
 refine cZ (w_next ?_)
 refine aA (AG (w_var rfl ?_))
 refine wO rfl ?_
 walk_at "s"
 refine w_next ?_
 refine aA (bB (bT (aj (w_var rfl (aj (w_var rfl (aB ?_)))))))
 refine yb A M hz fun d G6 c6 gd h6=>?_
 have A6:=A.Hk c6
 refine w_next ?_
 walk_at "s"
 refine aA (b8 (oY (dI (lL (w_var rfl (xh ?_))))))
 rw[show decide (D.ref d=D.non)=false from rfl]
 refine cn ?_
 rw[if_neg qC_]
 refine lH (jM (bT (aj (w_var rfl (aj (w_var rfl (aj (w_var rfl (aB ?_)))))))))
 refine rZ A6 X hz hk fun G7 c7=>lA ?_
 have A7:=A6.Hk c7
 have h7:=c7.get h6 (by simp)
 rw[show (!true)=false from rfl,if_neg qC_]
 refine cZ (w_next ?_)
 refine aA (nG (mw (w_var rfl (eS A7.2.2 ?_))))
 dsimp only
 refine jK (f:=fun k:Kr=>pD k.pair) (xs:=yy.ah.ks) (fun i σ G'=>∃u,σ=[some (.ref 0),some (.int ci),some (.int mi),some (.tup [.ref a1,.ref a2,.ref a3]),some (.ref a1),some (.ref a2),some (.ref a3),some (.ref d),u,none]/\G'=G7) ?_ ?_ ?_ ⟨none,rfl,rfl⟩
 · rintro i σ G' ⟨u,rfl,e⟩
   subst e
   exact qZ_ A7.2.2
 · rintro i k σ G' hk' ⟨u,rfl,e⟩
   subst e
   have hm:=t6 M (M.hp _ (.k k (qD_ hk') rfl))
   refine ay ?_
   with_reducible refine jk ?_
   walk_at "s"
   refine b8 (oY (dI (aD (aD (w_var rfl (w_c ?_))))))
   unfold pD
   refine bi rfl (w_var rfl (uC (k:=stK k.pair.1) h7 rfl ?_))
   rw[hm]
   refine cn ?_
   rw[show (!(some (D.int k.pair.2)).isSome)=false from rfl,if_neg qC_]
   refine dI (aD (aD (w_var rfl (aD (w_var rfl (w_c ?_))))))
   refine bi rfl (AL (k:=stK k.pair.1) h7 rfl hm (aD (w_var rfl (w_c (bi rfl ?_)))))
   refine qE (b:=true) (dN _) (cn ?_)
   rw[show (!true)=false from rfl,if_neg qC_]
   exact cZ ⟨_,rfl,rfl⟩
 rintro σ G' ⟨u,rfl,e⟩
 subst e
 refine w_next ?_
 refine aA (nG (gN (bT (aj (w_var rfl (aB (dD A7.1 ?_)))))))
 rw[qM_]
 with_reducible refine fJ (by omega) ?_
 refine mP (fun i σ G''=>∃v,σ=[some (.ref 0),some (.int ci),some (.int mi),some (.tup [.ref a1,.ref a2,.ref a3]),some (.ref a1),some (.ref a2),some (.ref a3),some (.ref d),u,v]/\G''=G') ?_ ?_ ⟨none,rfl,rfl⟩
 · rintro i σ G1 hi ⟨v,rfl,e⟩
   subst e
   have hw:yy.af[i]? =some yy.af[i]:=qA_ hi
   generalize yy.af[i]=w at hw
   refine ay ?_
   with_reducible refine jk ?_
   walk_at "s"
   refine b8 (kc (dI (aD (aD (aD (w_var rfl (w_var rfl (g6 A7.1 hw (w_c (bi (d:= .str (word w.rd)) rfl (w_c ?_)))))))))))
   refine w_eq (GU w.rd) (cn ?_)
   cases hr:w.rd with
   |false=>
    rw[if_neg qC_]
    refine fL ?_
    rw[if_neg qC_]
    exact cZ ⟨_,rfl,rfl⟩
   |true=>
    rw[if_pos rfl]
    refine dI (lL (aD (w_var rfl (w_var rfl (gS A7.2.1 hw (g8 (cn ?_)))))))
    cases hs:w.aY with
    |none=>
     rw[show (!decide (stD none=D.non))=false from rfl,if_neg qC_]
     exact cZ ⟨_,rfl,rfl⟩
    |some s=>
     obtain⟨x,mx,hx⟩:=X.R i w s hw hr hs
     have hm:look (dM yy.af) (stK s)=some (.int x):=t6 M mx
     rw[show (!decide (stD (some s)=D.non))=true from rfl,if_pos rfl]
     refine aA (b8 (dI (aD (aD (w_var rfl (w_var rfl (gS A7.2.1 hw (w_var rfl ?_))))))))
     rw[hs]
     refine uC (k:=stK s) h7 rfl ?_
     rw[hm]
     refine cn ?_
     rw[show (!(some (D.int x)).isSome)=false from rfl,if_neg qC_]
     refine cZ (w_next ?_)
     refine b8 (kc (dI (lL (aD (aD (w_var rfl (w_var rfl (g6 A7.1 hw (w_c (bi (d:=nD w.en) rfl ?_))))))))))
     refine g8 (cn ?_)
     rw[oJ]
     cases he:w.en with
     |none=>
      rw[show (!(none:Option Nat).isNone)=false from rfl,if_neg qC_]
      refine fL ?_
      rw[if_neg qC_]
      exact cZ ⟨_,rfl,rfl⟩
     |some e=>
      rw[show (!(some e).isNone)=true from rfl,if_pos rfl]
      refine dI (aD (aD (aD (w_var rfl (w_var rfl (g6 A7.1 hw (w_c (bi (d:=oD w.val) rfl ?_))))))))
      rw[hx (by rw[he];exact Option.some_ne_none _)]
      refine aD (w_var rfl (aD (w_var rfl (w_var rfl (gS A7.2.1 hw ?_)))))
      rw[hs]
      refine AL (k:=stK s) h7 rfl hm ?_
      refine qE (b:=true) (dN _) (cn ?_)
      rw[show (!true)=false from rfl,if_neg qC_]
      exact cZ ⟨_,rfl,rfl⟩
 rintro σ G1 ⟨v,rfl,e⟩
 subst e
 refine w_next ?_
 refine bI (bT (aj (w_var rfl (aj (w_var rfl (aB ?_))))))
 exact qC A7 X hz (j5 (hQ _))
end
def zF(ns:List Int)(_:ns.length<=63):M3.run (KC.pP [.ref 0]) [.frz (ns.map M3.D.int)] (fun d _=>d= .bl true) fun _ _=>False:=
 F6 (ns:=ns) rfl fun _=>rfl
end KS
namespace LK
open PySem PySem.Spec PyProof.Rows L2 L3 KC
local macro_rules |`(tactic|walk_at "sc")=>`(tactic|exact⟨rfl,rfl,rfl,by decide +kernel,rfl,by decide +kernel,by decide +kernel⟩)
local macro_rules |`(tactic|walk_at "nm")=>`(tactic|exact Hi (by decide +kernel) (by decide))
local macro_rules |`(tactic|walk_at "b2")=>`(tactic|exact fun _ _ _ _ _ _ us hl=>match us,hl with | [_,_],_=>rfl)
local macro_rules |`(tactic|walk_at "b1")=>`(tactic|exact fun _ _ _ _ _ _ us hl=>match us,hl with | [_],_=>rfl)
local macro_rules |`(tactic|walk_at "b3")=>`(tactic|exact fun _ _ _ _ _ _ us hl=>match us,hl with | [_,_,_],_=>rfl)
local macro_rules |`(tactic|walk_at "b5")=>`(tactic|exact fun _ _ _ _ _ _ us hl=>match us,hl with | [_,_,_,_,_],_=>rfl)
local macro_rules |`(tactic|walk_at "b4")=>`(tactic|exact fun _ _ _ _ _ _ us hl=>match us,hl with | [_,_,_,_],_=>rfl)
local macro_rules |`(tactic|walk_at "sb")=>`(tactic|first |exact .inl rfl |exact .inr rfl |assumption)
def top(i:Nat):Stmt:=PySem.Challenge.pw_halfask_k04_whole_stamps.main.body.getD i (.Pass ⟨0,0,0,0⟩)
def nmL:List Str:=["number","count","at_work","value","pair","round_number","heard","own_turn","is_up","keepers","hands","row","hand","word","begun","ended","stamp","hall","works","last_places","deeds_done"]
def nmF(g:Nat):Str:=nmL.getD g Str.empty
abbrev TT(cl:Nat->Option Addr):Tab:=⟨cl,nmF⟩
abbrev mQ:Stmt:=top 9
abbrev o6:Stmt:=top 10
abbrev hX:Stmt:=top 11
abbrev jV:Stmt:=inClass (top 13) 0
abbrev gx:Stmt:=inClass (top 13) 5
abbrev dW:Stmt:=inClass (top 13) 4
abbrev iX:Stmt:=inClass (top 13) 3
abbrev dU:Stmt:=inClass (top 13) 1
abbrev eN:Stmt:=inClass (top 13) 2
abbrev eA:Stmt:=inClass (top 13) 8
abbrev eT:Stmt:=inClass (top 13) 6
abbrev gk:Stmt:=inClass (top 13) 7
abbrev ik:Stmt:=inClass (top 13) 10
abbrev jU:Stmt:=inClass (top 13) 9
abbrev hI:Stmt:=inClass (top 15) 0
abbrev il:Stmt:=inClass (top 15) 1
abbrev ig:Stmt:=inClass (top 15) 2
abbrev ia:Stmt:=inClass (top 15) 3
abbrev et:Stmt:=inClass (top 15) 4
abbrev j0:Stmt:=inClass (top 17) 0
abbrev gA:Stmt:=inClass (top 17) 1
abbrev e9:Stmt:=inClass (top 17) 2
abbrev jN:Stmt:=inClass (top 17) 9
abbrev jb:Stmt:=inClass (top 17) 3
abbrev jE:Stmt:=inClass (top 17) 4
abbrev ji:Stmt:=inClass (top 17) 5
abbrev iG:Stmt:=inClass (top 17) 6
abbrev dY:Stmt:=inClass (top 17) 7
abbrev dS:Stmt:=inClass (top 17) 8
abbrev cO:Stmt:=inClass (top 17) 15
abbrev dC:Stmt:=inClass (top 17) 16
abbrev jv:Stmt:=inClass (top 17) 14
abbrev jf:Stmt:=inClass (top 17) 10
abbrev cU:Stmt:=inClass (top 17) 12
abbrev cV:Stmt:=inClass (top 17) 11
abbrev iY:Stmt:=inClass (top 17) 13
abbrev kf:Stmt:=inClass (top 19) 0
abbrev jO:Stmt:=inClass (top 19) 1
abbrev ja:Stmt:=inClass (top 20) 0
abbrev eL:Stmt:=inClass (top 20) 4
abbrev fu:Stmt:=inClass (top 20) 6
abbrev eJ:Stmt:=inClass (top 20) 5
abbrev iO:Stmt:=inClass (top 20) 3
abbrev cB:Stmt:=inClass (top 20) 2
abbrev dE:Stmt:=inClass (top 20) 7
abbrev gn:Stmt:=inClass (top 20) 1
abbrev jW:Stmt:=top 21
abbrev rV:Stmt:=top 23
abbrev F5:Stmt:=top 24
abbrev lg:Stmt:=top 25
abbrev m4:Stmt:=top 26
abbrev m9:Stmt:=top 27
abbrev sO:Stmt:=top 28
abbrev lB:Stmt:=top 29
abbrev ny:Stmt:=top 30
abbrev mY:Stmt:=top 31
abbrev jy:Stmt:=top 32
abbrev lN:Stmt:=top 33
abbrev mW:Stmt:=top 34
abbrev jc:Stmt:=top 35
abbrev g7:Stmt:=top 36
abbrev rE:Stmt:=top 37
structure Txt (K:PySem.W.Frag) (mg:Str->Option Value) (cl:Nat->Option Addr):Prop where
 HA:mg "max"=none
 lO:mg "range"=none
 vw:mg "list"=none
 Df:mg "len"=none
 uF:mg "enumerate"=none
 Dj:mg "int"=none
 su:mg "isinstance"=none
 DS:mg "bool"=none
 Ci:mg "tuple"=none
 GW:mg "str"=none
 g_BEGINNING:Dl K mg "BEGINNING" (.tup [(.tup [(.int 0),(.int 0)]),(.int 0)])
 fA:∀j,j < 21->wA (TT cl) K j
 Dg:∃C,cl 1000=some C/\XCl K mg "HalfError" C
 Dy:True
 t9:∃C,cl 1001=some C/\XCl K mg "NoHand" C
 Bf:∃C,mg "NoHand"=some (.ref C)/\∀c Ca,cl c=some Ca->PySem.W.exmOne K (.ref Ca) (.ref C)=some (decide (c=1001))
 oV:∃C,cl 1002=some C/\XCl K mg "NoKeeper" C
 vY:∃C,mg "NoKeeper"=some (.ref C)/\∀c Ca,cl c=some Ca->PySem.W.exmOne K (.ref Ca) (.ref C)=some (decide (c=1002))
 ph:∃C,cl 1003=some C/\XCl K mg "NoLetter" C
 v5:∃C,mg "NoLetter"=some (.ref C)/\∀c Ca,cl c=some Ca->PySem.W.exmOne K (.ref Ca) (.ref C)=some (decide (c=1003))
 AU:∃C,cl 1004=some C/\XCl K mg "Busy" C
 FI:∃C,mg "Busy"=some (.ref C)/\∀c Ca,cl c=some Ca->PySem.W.exmOne K (.ref Ca) (.ref C)=some (decide (c=1004))
 zU:∃C,cl 1005=some C/\XCl K mg "Idle" C
 ET:∃C,mg "Idle"=some (.ref C)/\∀c Ca,cl c=some Ca->PySem.W.exmOne K (.ref Ca) (.ref C)=some (decide (c=1005))
set_option hygiene false in
local macro_rules |`(tactic|walk_at "e")=>`(tactic|first
 |exact dt _
 |exact rj
 |exact Ib
 |exact GH
 |exact Ia
 |exact FP Z.g_BEGINNING
 |((fail_if_success (fail_if_success (with_reducible apply ug)));refine ug hu ?_ ?_ <;> walk_at "e")
 |((fail_if_success (fail_if_success (with_reducible apply nC)));refine nC (Z.fA _ (by decide)) ?_;walk_at "e")
 |((with_reducible apply Fy) <;> walk_at "e")
 |((with_reducible apply FW) <;> walk_at "e")
 |((with_reducible apply E6) <;> walk_at "e")
 |((with_reducible apply EL) <;> walk_at "e")
 |((with_reducible apply Ba);walk_at "a")
 |((with_reducible apply Gx);walk_at "a")
 |((fail_if_success (fail_if_success (with_reducible apply vb)));refine vb Z.Df ?_;walk_at "a")
 |((fail_if_success (fail_if_success (with_reducible apply yY)));refine yY rfl Z.HA ?_;walk_at "a")
 |((fail_if_success (fail_if_success (with_reducible apply xg)));refine xg Z.vw ?_;walk_at "a")
 |((fail_if_success (fail_if_success (with_reducible apply AZ)));refine AZ Z.Dj ?_;walk_at "a")
 |((fail_if_success (fail_if_success (with_reducible apply HU)));refine HU _ Z.su ?_ ?_;(first |exact Z.Dj |exact Z.DS |exact Z.GW |exact Z.Ci |exact Z.vw);walk_at "e")
 |((fail_if_success (fail_if_success (with_reducible apply BK)));refine x_call (by assumption) ?_ ?_ ?_;exact hr.mono (by decide);(first |exact md |exact yM jZ jJ);walk_at "a")
 |((fail_if_success (fail_if_success (with_reducible apply Cg)));refine A9 (by assumption) ?_ ?_ ?_ ?_;exact hr.mono (by decide);(first |exact md |exact yM jZ jJ);walk_at "e";walk_at "a")
 |((fail_if_success (fail_if_success (with_reducible apply ze)));refine xi (by assumption) ?_ ?_ ?_;exact hr.mono (by decide);(first |exact md |exact yM jZ jJ);walk_at "e")
 |((fail_if_success (fail_if_success (with_reducible apply BW)));refine zY (by assumption) ?_ ?_ ?_;exact hr.mono (by decide);exact md;walk_at "a")
 |((fail_if_success (fail_if_success (with_reducible apply AH)));refine wY (by assumption) ?_ ?_;exact hr.mono (by decide);exact md)
 |((with_reducible apply Hz);walk_at "e";walk_at "e";exact hu)
 |((with_reducible apply HM);walk_at "e";walk_at "e";exact hu)
 |((with_reducible apply Gi);walk_at "e";walk_at "e";exact hu)
 |((with_reducible apply H0);walk_at "e")
 |((with_reducible apply DW);walk_at "e")
 |((with_reducible apply Gh);walk_at "e")
 |((with_reducible apply Gf) <;> walk_at "e")
 |((with_reducible apply Ik) <;> walk_at "e")
 |((with_reducible apply GR);walk_at "e")
 |((fail_if_success (fail_if_success (with_reducible apply tM)));refine tM ?_ ?_ <;> walk_at "e")
 |((fail_if_success (fail_if_success (with_reducible apply Ak)));refine Ak ?_ ?_ (by walk_at "ss") <;> walk_at "e")
 |((fail_if_success (fail_if_success (with_reducible apply mE)));refine mE ?_ ?_ <;> walk_at "e")
 |((fail_if_success (fail_if_success (with_reducible apply wH)));refine wH ?_ ?_ <;> walk_at "e")
 |((with_reducible apply Br);walk_at "e";(first |exact zQ |((with_reducible apply Be);walk_at "e"));(first |exact zQ |((with_reducible apply Be);walk_at "e")))
 |exact BM
 |((with_reducible apply IH);walk_at "t";walk_at "e";walk_at "e")
 |((fail_if_success (fail_if_success (with_reducible apply DB)));refine DB hu ?_ ?_ <;> walk_at "e")
 |((fail_if_success (fail_if_success (with_reducible apply zo)));refine zo hu ?_ ?_ <;> walk_at "e"))
set_option hygiene false in
local macro_rules |`(tactic|walk_at "t")=>`(tactic|first
 |((with_reducible apply GO);walk_at "e";walk_at "e";exact hu)
 |((with_reducible apply F9);walk_at "e";walk_at "e";exact hu)
 |((with_reducible apply GS);walk_at "e";walk_at "e";exact hu)
 |((with_reducible apply GZ);walk_at "e";walk_at "e";exact hu)
 |((with_reducible apply GA);walk_at "e";walk_at "e";exact hu)
 |((with_reducible apply GI);walk_at "e";walk_at "e";exact hu)
 |((fail_if_success (fail_if_success (with_reducible apply A8)));refine A8 ?_ ?_ hu <;> walk_at "e")
 |((fail_if_success (fail_if_success (with_reducible apply qS)));refine qS ?_ ?_ hu <;> walk_at "e")
 |((with_reducible apply Gz);walk_at "e")
 |((with_reducible apply DY);walk_at "e")
 |((with_reducible apply HS);walk_at "t")
 |((with_reducible apply PW.pt);walk_at "p")
 |((fail_if_success (fail_if_success (with_reducible apply Hv)));refine Hv ?_;walk_at "e"))
set_option hygiene false in
local macro_rules |`(tactic|walk_at "p")=>`(tactic|first
 |((with_reducible apply w_and);walk_at "t";walk_at "p")
 |((with_reducible apply w_or);walk_at "t";walk_at "p")
 |((with_reducible apply FV);walk_at "t")
 |((with_reducible apply HE);walk_at "t"))
set_option hygiene false in
local macro_rules |`(tactic|walk_at "a")=>`(tactic|first
 |exact qX
 |((fail_if_success (fail_if_success (with_reducible apply ff)));refine ff ?_ ?_ ?_;walk_at "e";walk_at "a";walk_at "ss"))
set_option hygiene false in
local macro_rules |`(tactic|walk_at "ss")=>`(tactic|first
 |exact iw
 |exact pM
 |exact yG
 |exact Al
 |exact o5
 |exact AO
 |exact kF
 |exact yK
 |exact Aa
 |rfl)
set_option hygiene false in
local macro_rules |`(tactic|walk_at "q")=>`(tactic|first
 |exact Bs
 |exact nZ
 |exact Ei
 |exact DE
 |exact CB
 |exact Ex
 |exact F8
 |rfl)
set_option hygiene false in
local macro_rules |`(tactic|walk_at "y")=>`(tactic|first
 |((with_reducible apply vU);walk_at "t";walk_at "b";walk_at "b")
 |((with_reducible apply y_ret);walk_at "e")
 |((fail_if_success (fail_if_success (with_reducible apply wZ)));refine wZ ?_ ?_ ?_ ?_ ?_ ?_;exact nd;exact rfl;(first |exact Or.inl rfl |exact Or.inr rfl);walk_at "e";walk_at "q";(walk_at "sb"))
 |((fail_if_success (fail_if_success (with_reducible apply vf)));refine vf ?_ ?_;walk_at "e";walk_at "q")
 |((fail_if_success (fail_if_success (with_reducible apply wR)));refine wR (Z.fA _ (by decide)) ?_ ?_ <;> walk_at "e")
 |((fail_if_success (fail_if_success (with_reducible apply Ac)));refine Ac ?_ rfl ?_ ?_ ?_;(first |exact PassesOwn.never |exact uv);walk_at "i";walk_at "g";walk_at "b")
 |((fail_if_success (fail_if_success (with_reducible apply C5)));refine C5 hu ?_ ?_ ?_ <;> walk_at "e")
 |((fail_if_success (fail_if_success (with_reducible apply Gk)));refine Gk ?_ ?_;walk_at "e";walk_at "g")
 |((with_reducible apply Bx);(first |exact PassesOwn.never |exact uv);walk_at "t";walk_at "b")
 |((fail_if_success (fail_if_success (with_reducible apply Am)));refine Am hu ?_ ?_ ?_ <;> walk_at "e"))
set_option hygiene false in
local macro_rules |`(tactic|walk_at "i")=>`(tactic|first
 |((fail_if_success (fail_if_success (with_reducible apply mS)));refine mS Z.lO ?_;walk_at "e")
 |((fail_if_success (fail_if_success (with_reducible apply z7)));refine z7 Z.uF ?_;walk_at "e")
 |((with_reducible apply rT);walk_at "e"))
set_option hygiene false in
local macro_rules |`(tactic|walk_at "g")=>`(tactic|first
 |((fail_if_success (fail_if_success (with_reducible apply DL)));refine DL ?_ ?_ ?_;exact nd;exact rfl;(first |exact Or.inl rfl |exact Or.inr rfl))
 |((fail_if_success (fail_if_success (with_reducible apply FJ)));refine FJ rfl ?_;walk_at "h"))
set_option hygiene false in
local macro_rules |`(tactic|walk_at "h")=>`(tactic|first
 |exact Dh
 |((fail_if_success (fail_if_success (with_reducible apply rO)));refine rO ?_ ?_ ?_ ?_;exact nd;exact rfl;(first |exact Or.inl rfl |exact Or.inr rfl);walk_at "h"))
set_option hygiene false in
local macro_rules |`(tactic|walk_at "b")=>`(tactic|first
 |exact pI
 |(refine df ?_;walk_at "y")
 |(refine bV ?_ ?_;walk_at "y";walk_at "b"))
section
seal L2.PE L2.PT L2.PW L2.PA L2.PS L2.PSs L2.PI L2.PG L2.PGs L2.PO L3.tE L3.tT L3.tA L3.tS L3.tI L3.tG L3.tGs
variable(P:Program)(w:World){K:PySem.W.Frag}(mg:Str->Option Value)(base:Heap){cl:Nat->Option Addr}
def wm{fa:Addr}{fd:FuncData}(F:Fun K "is_more" "is_more" mQ fa fd)(Z:Txt K mg cl):aT P w K mg base CX0 1 fa fd ["count","many"] (sp3 (TT cl) K 2 kj):=by
 have sc:av ["count","many"] ["count","many"] (ai mQ):=by walk_at "sc"
 exact bo (k:=0) F sc rfl rfl fun cdv A outer s H E hr=>have hu:=hr.units
  have nd:=sc.nd
  (by delta mK;walk_at "b")
def yF{fa:Addr}{fd:FuncData}(F:Fun K "newest" "newest" o6 fa fd)(Z:Txt K mg cl):aT P w K mg base CX0 1 fa fd ["pairs"] (sp3 (TT cl) K 1 lX):=by
 have sc:av ["pairs","best","pair"] ["pairs"] (ai o6):=by walk_at "sc"
 exact bo (k:=0) F sc rfl rfl fun cdv A outer s H E hr=>have hu:=hr.units
  have nd:=sc.nd
  (by delta pw;walk_at "b")
def oR{fa:Addr}{fd:FuncData}(F:Fun K "stamp_after" "stamp_after" hX fa fd)(Z:Txt K mg cl):aT P w K mg base CX0 1 fa fd ["pairs","own","hand"] (sp3 (TT cl) K 3 fx):=by
 have sc:av ["pairs","own","hand","turns"] ["pairs","own","hand"] (ai hX):=by walk_at "sc"
 exact bo (k:=0) F sc rfl rfl fun cdv A outer s H E hr=>have hu:=hr.units
  have nd:=sc.nd
  (by delta ib;refine bV ?_ ?_;exact(iy (i:=3) (Blk.nil rfl rfl (by decide +kernel) rfl) rfl sc.nd rfl rfl (rT (by walk_at "e")) (fun _ _ _ _ _=>fT) (fun _ _ _ _ _=>(by refine ug hu ?_ ?_;refine ug hu ?_ ?_;exact(dt 0);exact rj;exact rj)));refine df ?_;walk_at "y")
def sI{fa:Addr}{fd:FuncData}(F:Fun K "__init__" "Hand.__init__" jV fa fd)(Z:Txt K mg cl):aT P w K mg base CX0 1 fa fd ["self","number","count"] (sp3 (TT cl) K 3 gR):=by
 have sc:av ["self","number","count"] ["self","number","count"] (ai jV):=by walk_at "sc"
 exact bo (k:=0) F sc rfl rfl fun cdv A outer s H E hr=>have hu:=hr.units
  have nd:=sc.nd
  (by delta jA;walk_at "b")
def nX{fa:Addr}{fd:FuncData}(F:Fun K "letters" "Hand.letters" gx fa fd)(Z:Txt K mg cl):aT P w K mg base CX0 1 fa fd ["self"] (sp3 (TT cl) K 1 cC):=by
 have sc:av ["self","waited_for"] ["self"] (ai gx):=by walk_at "sc"
 exact bo (k:=0) F sc rfl rfl fun cdv A outer s H E hr=>have hu:=hr.units
  have nd:=sc.nd
  (by delta gv;refine bV ?_ ?_;exact(iy (i:=1) (Blk.of (caps:=[("self",0)]) (cl:=[("self",s.heap.objs.size+1)]) rfl rfl rfl rfl rfl (by decide) rfl rfl rfl rfl rfl) rfl sc.nd rfl rfl (mS Z.lO (by walk_at "e")) (fun _ _ _ _ _=>w5 (kY (yU hu) (dt 0) (nC (Z.fA 6 (by decide)) (dt 1)) rfl)) (fun _ _ _ _ _=>(dt 0)));refine df ?_;refine y_ret ?_;exact(nj (Blk.of (caps:=[("self",0)]) (cl:=[("self",s.heap.objs.size+1)]) rfl rfl rfl rfl rfl (by decide) rfl rfl rfl rfl rfl) rfl (rT (by walk_at "e")) (fun _ _ _ _ _=>fT) (fun _ _ _ _ _=>(by refine Ba ?_;refine ff ?_ ?_ ?_;exact(nC (Z.fA 0 (by decide)) (dt 1));refine ff ?_ ?_ ?_;exact(dt 0);refine ff ?_ ?_ ?_;exact(nC (Z.fA 5 (by decide)) (dt 1));refine ff ?_ ?_ ?_;exact(nC (Z.fA 4 (by decide)) (dt 1));exact qX;exact kF;exact kF;exact iw;exact kF))))
def kQ{fa:Addr}{fd:FuncData}(F:Fun K "begin_round" "Hand.begin_round" dW fa fd)(Z:Txt K mg cl)(Fx16:Mt3 P w K mg base CX0 (TT cl) 1 0 "letters" 1 cC):aT P w K mg base CX0 2 fa fd ["self","pair"] (sp3 (TT cl) K 2 bE):=by
 have sc:av ["self","pair"] ["self","pair"] (ai dW):=by walk_at "sc"
 exact bo (k:=1) F sc rfl rfl fun cdv A outer s H E hr=>have hu:=hr.units
  have nd:=sc.nd
  (by delta dX;walk_at "b")
def qA{fa:Addr}{fd:FuncData}(F:Fun K "begin" "Hand.begin" iX fa fd)(Z:Txt K mg cl)(Fx17:Mt3 P w K mg base CX0 (TT cl) 2 0 "begin_round" 2 bE):aT P w K mg base (CX1 P w) 3 fa fd ["self","value"] (sp3 (TT cl) K 2 di):=by
 obtain⟨AU,ec_Busy,ex_Busy⟩:=Z.AU
 have sc:av ["self","value"] ["self","value"] (ai iX):=by walk_at "sc"
 exact fI (k:=2) F sc rfl rfl fun cdv A outer s H E hr=>have hu:=hr.units
  have nd:=sc.nd
  (by delta iV;refine bV ?_ ?_;refine vU ?_ ?_ ?_;walk_at "t";refine df ?_;exact(y_raise jZ jJ hr.hd ex_Busy ec_Busy (by walk_at "a"));exact pI;refine bV ?_ ?_;walk_at "y";refine bV ?_ ?_;walk_at "y";refine df ?_;walk_at "y")
def kM{fa:Addr}{fd:FuncData}(F:Fun K "begin_write" "Hand.begin_write" dU fa fd)(Z:Txt K mg cl)(Fx18:Mt3 P w K mg base (CX1 P w) (TT cl) 3 0 "begin" 2 di):aT P w K mg base (CX1 P w) 4 fa fd ["self","value"] (sp3 (TT cl) K 2 cJ):=by
 have sc:av ["self","value"] ["self","value"] (ai dU):=by walk_at "sc"
 exact fI (k:=3) F sc rfl rfl fun cdv A outer s H E hr=>have hu:=hr.units
  have nd:=sc.nd
  (by delta dQ;walk_at "b")
def lz{fa:Addr}{fd:FuncData}(F:Fun K "begin_read" "Hand.begin_read" eN fa fd)(Z:Txt K mg cl)(Fx18:Mt3 P w K mg base (CX1 P w) (TT cl) 3 0 "begin" 2 di):aT P w K mg base (CX1 P w) 4 fa fd ["self"] (sp3 (TT cl) K 1 cQ):=by
 have sc:av ["self"] ["self"] (ai eN):=by walk_at "sc"
 exact fI (k:=3) F sc rfl rfl fun cdv A outer s H E hr=>have hu:=hr.units
  have nd:=sc.nd
  (by delta eP;walk_at "b")
def kK{fa:Addr}{fd:FuncData}(F:Fun K "refuse_idle" "Hand.refuse_idle" eA fa fd)(Z:Txt K mg cl):aT P w K mg base (CX1 P w) 1 fa fd ["self"] (sp3 (TT cl) K 1 bF):=by
 obtain⟨zU,ec_Idle,ex_Idle⟩:=Z.zU
 have sc:av ["self"] ["self"] (ai eA):=by walk_at "sc"
 exact fI (k:=0) F sc rfl rfl fun cdv A outer s H E hr=>have hu:=hr.units
  have nd:=sc.nd
  (by delta dP;refine df ?_;refine vU ?_ ?_ ?_;walk_at "t";refine df ?_;exact(y_raise jZ jJ hr.hd ex_Idle ec_Idle (by walk_at "a"));exact pI)
def li{fa:Addr}{fd:FuncData}(F:Fun K "send_again" "Hand.send_again" eT fa fd)(Z:Txt K mg cl)(Fx16:Mt3 P w K mg base CX0 (TT cl) 1 0 "letters" 1 cC)(Fx19:Mt3 P w K mg base (CX1 P w) (TT cl) 1 0 "refuse_idle" 1 bF):aT P w K mg base (CX1 P w) 2 fa fd ["self"] (sp3 (TT cl) K 1 cR):=by
 have sc:av ["self"] ["self"] (ai eT):=by walk_at "sc"
 exact fI (k:=1) F sc rfl rfl fun cdv A outer s H E hr=>have hu:=hr.units
  have nd:=sc.nd
  (by delta eV;walk_at "b")
def nW{fa:Addr}{fd:FuncData}(F:Fun K "give_up" "Hand.give_up" gk fa fd)(Z:Txt K mg cl)(Fx19:Mt3 P w K mg base (CX1 P w) (TT cl) 1 0 "refuse_idle" 1 bF):aT P w K mg base (CX1 P w) 2 fa fd ["self"] (sp3 (TT cl) K 1 eO):=by
 have sc:av ["self"] ["self"] (ai gk):=by walk_at "sc"
 exact fI (k:=1) F sc rfl rfl fun cdv A outer s H E hr=>have hu:=hr.units
  have nd:=sc.nd
  (by delta gu;walk_at "b")
def pG{fa:Addr}{fd:FuncData}(F:Fun K "chosen" "Hand.chosen" ik fa fd)(Z:Txt K mg cl)(Fx77:Fn3 P w K mg base CX0 (TT cl) 1 "newest" 1 lX)(Fx78:Fn3 P w K mg base CX0 (TT cl) 1 "stamp_after" 3 fx):aT P w K mg base CX0 2 fa fd ["self"] (sp3 (TT cl) K 1 fy):=by
 have sc:av ["self","pairs","stamp"] ["self"] (ai ik):=by walk_at "sc"
 exact bo (k:=1) F sc rfl rfl fun cdv A outer s H E hr=>have hu:=hr.units
  have nd:=sc.nd
  (by delta hG;refine bV ?_ ?_;refine wZ (i:=1) ?_ ?_ ?_ ?_ ?_ ?_;exact sc.nd;exact rfl;exact Or.inl rfl;exact(vt hr.hd (by walk_at "e") Z.vw);exact nZ;walk_at "sb";refine bV ?_ ?_;walk_at "y";refine bV ?_ ?_;walk_at "y";refine bV ?_ ?_;walk_at "y";refine df ?_;walk_at "y")
def rP{fa:Addr}{fd:FuncData}(F:Fun K "hear" "Hand.hear" jU fa fd)(Z:Txt K mg cl)(Fx79:Fn3 P w K mg base CX0 (TT cl) 1 "is_more" 2 kj)(Fx17:Mt3 P w K mg base CX0 (TT cl) 2 0 "begin_round" 2 bE)(Fx80:Mt3 P w K mg base CX0 (TT cl) 2 0 "chosen" 1 fy):aT P w K mg base CX0 3 fa fd ["self","answer"] (sp3 (TT cl) K 2 gQ):=by
 have sc:av ["self","answer"] ["self","answer"] (ai jU):=by walk_at "sc"
 exact bo (k:=2) F sc rfl rfl fun cdv A outer s H E hr=>have hu:=hr.units
  have nd:=sc.nd
  (by delta jC;walk_at "b")
def pV{fa:Addr}{fd:FuncData}(F:Fun K "__init__" "Keeper.__init__" hI fa fd)(Z:Txt K mg cl):aT P w K mg base CX0 1 fa fd ["self"] (sp3 (TT cl) K 1 fz):=by
 have sc:av ["self"] ["self"] (ai hI):=by walk_at "sc"
 exact bo (k:=0) F sc rfl rfl fun cdv A outer s H E hr=>have hu:=hr.units
  have nd:=sc.nd
  (by delta hJ;walk_at "b")
def pZ{fa:Addr}{fd:FuncData}(F:Fun K "stop" "Keeper.stop" il fa fd)(Z:Txt K mg cl):aT P w K mg base CX0 1 fa fd ["self"] (sp3 (TT cl) K 1 fB):=by
 have sc:av ["self","changed"] ["self"] (ai il):=by walk_at "sc"
 exact bo (k:=0) F sc rfl rfl fun cdv A outer s H E hr=>have hu:=hr.units
  have nd:=sc.nd
  (by delta hZ;walk_at "b")
def pK{fa:Addr}{fd:FuncData}(F:Fun K "wake" "Keeper.wake" ig fa fd)(Z:Txt K mg cl):aT P w K mg base CX0 1 fa fd ["self"] (sp3 (TT cl) K 1 fw):=by
 have sc:av ["self","changed"] ["self"] (ai ig):=by walk_at "sc"
 exact bo (k:=0) F sc rfl rfl fun cdv A outer s H E hr=>have hu:=hr.units
  have nd:=sc.nd
  (by delta hU;walk_at "b")
def pF{fa:Addr}{fd:FuncData}(F:Fun K "keep" "Keeper.keep" ia fa fd)(Z:Txt K mg cl):aT P w K mg base CX0 1 fa fd ["self","pair"] (sp3 (TT cl) K 2 fD):=by
 have sc:av ["self","pair"] ["self","pair"] (ai ia):=by walk_at "sc"
 exact bo (k:=0) F sc rfl rfl fun cdv A outer s H E hr=>have hu:=hr.units
  have nd:=sc.nd
  (by delta hV;walk_at "b")
def kL{fa:Addr}{fd:FuncData}(F:Fun K "answer_to" "Keeper.answer_to" et fa fd)(Z:Txt K mg cl)(Fx81:Mt3 P w K mg base CX0 (TT cl) 1 1 "keep" 2 fD):aT P w K mg base CX0 2 fa fd ["self","letter"] (sp3 (TT cl) K 2 cG):=by
 have sc:av ["self","letter","pair"] ["self","letter"] (ai et):=by walk_at "sc"
 exact bo (k:=1) F sc rfl rfl fun cdv A outer s H E hr=>have hu:=hr.units
  have nd:=sc.nd
  (by delta eg;walk_at "b")
def sY{fa:Addr}{fd:FuncData}(F:Fun K "__init__" "Hall.__init__" j0 fa fd)(Z:Txt K mg cl)(Fx20:Ct3 P w K mg base CX0 (TT cl) 1 "Hand" 0 3 gR)(Fx21:Ct3 P w K mg base CX0 (TT cl) 1 "Keeper" 1 1 fz):aT P w K mg base CX0 3 fa fd ["self","count","many"] (sp3 (TT cl) K 3 fM):=by
 have sc:av ["self","count","many"] ["self","count","many"] (ai j0):=by walk_at "sc"
 exact bo (k:=2) F sc rfl rfl fun cdv A outer s H E hr=>have hu:=hr.units
  have nd:=sc.nd
  (by delta j9;refine bV ?_ ?_;exact(wR (Z.fA 9 (by decide)) (by walk_at "e") (nj (Blk.of (caps:=[]) (cl:=[]) rfl rfl rfl rfl rfl (by decide) rfl rfl rfl rfl rfl) rfl (mS Z.lO (by walk_at "e")) (fun _ _ _ _ _=>fT) (fun _ _ _ _ _=>(wY Fx21 (hr.mono (by decide)) md))));refine bV ?_ ?_;exact(wR (Z.fA 10 (by decide)) (by walk_at "e") (nj (Blk.of (caps:=[("count",1)]) (cl:=[("count",s.heap.objs.size+1)]) rfl rfl rfl rfl rfl (by decide) rfl rfl rfl rfl rfl) rfl (mS Z.lO (by walk_at "e")) (fun _ _ _ _ _=>fT) (fun _ _ _ _ _=>(zY Fx20 (hr.mono (by decide)) md (ff (dt 0) (ff (dt 1) qX iw) iw)))));refine df ?_;walk_at "y")
def nU{fa:Addr}{fd:FuncData}(F:Fun K "hand_of" "Hall.hand_of" gA fa fd)(Z:Txt K mg cl):aT P w K mg base (CX1 P w) 1 fa fd ["self","number"] (sp3 (TT cl) K 2 aX):=by
 obtain⟨t9,ec_NoHand,ex_NoHand⟩:=Z.t9
 have sc:av ["self","number"] ["self","number"] (ai gA):=by walk_at "sc"
 exact fI (k:=0) F sc rfl rfl fun cdv A outer s H E hr=>have hu:=hr.units
  have nd:=sc.nd
  (by delta gF;refine bV ?_ ?_;refine vU ?_ ?_ ?_;walk_at "t";refine df ?_;exact(y_raise jZ jJ hr.hd ex_NoHand ec_NoHand (by walk_at "a"));exact pI;refine df ?_;walk_at "y")
def l0{fa:Addr}{fd:FuncData}(F:Fun K "keeper_of" "Hall.keeper_of" e9 fa fd)(Z:Txt K mg cl):aT P w K mg base (CX1 P w) 1 fa fd ["self","number"] (sp3 (TT cl) K 2 bx):=by
 obtain⟨oV,ec_NoKeeper,ex_NoKeeper⟩:=Z.oV
 have sc:av ["self","number"] ["self","number"] (ai e9):=by walk_at "sc"
 exact fI (k:=0) F sc rfl rfl fun cdv A outer s H E hr=>have hu:=hr.units
  have nd:=sc.nd
  (by delta fm;refine bV ?_ ?_;refine vU ?_ ?_ ?_;walk_at "t";refine df ?_;exact(y_raise jZ jJ hr.hd ex_NoKeeper ec_NoKeeper (by walk_at "a"));exact pI;refine df ?_;walk_at "y")
def rY{fa:Addr}{fd:FuncData}(F:Fun K "send" "Hall.send" jN fa fd)(Z:Txt K mg cl):aT P w K mg base CX0 1 fa fd ["self","letters"] (sp3 (TT cl) K 2 bQ):=by
 have sc:av ["self","letters"] ["self","letters"] (ai jN):=by walk_at "sc"
 exact bo (k:=0) F sc rfl rfl fun cdv A outer s H E hr=>have hu:=hr.units
  have nd:=sc.nd
  (by delta jQ;refine df ?_;refine vf ?_ ?_;refine mE ?_ ?_;walk_at "e";exact(nj (Blk.nil rfl rfl (by decide +kernel) rfl) rfl (rT (by walk_at "e")) (fun _ _ _ _ _=>fT) (fun _ _ _ _ _=>(by refine Ba ?_;refine ff ?_ ?_ ?_;exact Ia;refine ff ?_ ?_ ?_;exact(dt 0);exact qX;exact iw;exact pM)));exact nZ)
def qB{fa:Addr}{fd:FuncData}(F:Fun K "write" "Hall.write" jb fa fd)(Z:Txt K mg cl)(Fx82:Mt3 P w K mg base (CX1 P w) (TT cl) 4 0 "begin_write" 2 cJ)(Fx2:Mt3 P w K mg base (CX1 P w) (TT cl) 1 2 "hand_of" 2 aX)(Fx4:Mt3 P w K mg base CX0 (TT cl) 1 2 "send" 2 bQ):aT P w K mg base (CX1 P w) 5 fa fd ["self","hand","value"] (sp3 (TT cl) K 3 gf):=by
 have sc:av ["self","hand","value"] ["self","hand","value"] (ai jb):=by walk_at "sc"
 exact fI (k:=4) F sc rfl rfl fun cdv A outer s H E hr=>have hu:=hr.units
  have nd:=sc.nd
  (by delta iI;walk_at "b")
def sG{fa:Addr}{fd:FuncData}(F:Fun K "read" "Hall.read" jE fa fd)(Z:Txt K mg cl)(Fx83:Mt3 P w K mg base (CX1 P w) (TT cl) 4 0 "begin_read" 1 cQ)(Fx2:Mt3 P w K mg base (CX1 P w) (TT cl) 1 2 "hand_of" 2 aX)(Fx4:Mt3 P w K mg base CX0 (TT cl) 1 2 "send" 2 bQ):aT P w K mg base (CX1 P w) 5 fa fd ["self","hand"] (sp3 (TT cl) K 2 gX):=by
 have sc:av ["self","hand"] ["self","hand"] (ai jE):=by walk_at "sc"
 exact fI (k:=4) F sc rfl rfl fun cdv A outer s H E hr=>have hu:=hr.units
  have nd:=sc.nd
  (by delta jx;walk_at "b")
def qf{fa:Addr}{fd:FuncData}(F:Fun K "again" "Hall.again" ji fa fd)(Z:Txt K mg cl)(Fx84:Mt3 P w K mg base (CX1 P w) (TT cl) 2 0 "send_again" 1 cR)(Fx2:Mt3 P w K mg base (CX1 P w) (TT cl) 1 2 "hand_of" 2 aX)(Fx4:Mt3 P w K mg base CX0 (TT cl) 1 2 "send" 2 bQ):aT P w K mg base (CX1 P w) 3 fa fd ["self","hand"] (sp3 (TT cl) K 2 gb):=by
 have sc:av ["self","hand","letters"] ["self","hand"] (ai ji):=by walk_at "sc"
 exact fI (k:=2) F sc rfl rfl fun cdv A outer s H E hr=>have hu:=hr.units
  have nd:=sc.nd
  (by delta iS;walk_at "b")
def qK{fa:Addr}{fd:FuncData}(F:Fun K "leave" "Hall.leave" iG fa fd)(Z:Txt K mg cl)(Fx85:Mt3 P w K mg base (CX1 P w) (TT cl) 2 0 "give_up" 1 eO)(Fx2:Mt3 P w K mg base (CX1 P w) (TT cl) 1 2 "hand_of" 2 aX):aT P w K mg base (CX1 P w) 3 fa fd ["self","hand"] (sp3 (TT cl) K 2 gc):=by
 have sc:av ["self","hand"] ["self","hand"] (ai iG):=by walk_at "sc"
 exact fI (k:=2) F sc rfl rfl fun cdv A outer s H E hr=>have hu:=hr.units
  have nd:=sc.nd
  (by delta iU;walk_at "b")
def kN{fa:Addr}{fd:FuncData}(F:Fun K "stop_keeper" "Hall.stop_keeper" dY fa fd)(Z:Txt K mg cl)(Fx86:Mt3 P w K mg base CX0 (TT cl) 1 1 "stop" 1 fB)(Fx8:Mt3 P w K mg base (CX1 P w) (TT cl) 1 2 "keeper_of" 2 bx):aT P w K mg base (CX1 P w) 2 fa fd ["self","keeper"] (sp3 (TT cl) K 2 cL):=by
 have sc:av ["self","keeper"] ["self","keeper"] (ai dY):=by walk_at "sc"
 exact fI (k:=1) F sc rfl rfl fun cdv A outer s H E hr=>have hu:=hr.units
  have nd:=sc.nd
  (by delta eB;walk_at "b")
def kP{fa:Addr}{fd:FuncData}(F:Fun K "wake_keeper" "Hall.wake_keeper" dS fa fd)(Z:Txt K mg cl)(Fx87:Mt3 P w K mg base CX0 (TT cl) 1 1 "wake" 1 fw)(Fx8:Mt3 P w K mg base (CX1 P w) (TT cl) 1 2 "keeper_of" 2 bx):aT P w K mg base (CX1 P w) 2 fa fd ["self","keeper"] (sp3 (TT cl) K 2 cK):=by
 have sc:av ["self","keeper"] ["self","keeper"] (ai dS):=by walk_at "sc"
 exact fI (k:=1) F sc rfl rfl fun cdv A outer s H E hr=>have hu:=hr.units
  have nd:=sc.nd
  (by delta ef;walk_at "b")
def iF{fa:Addr}{fd:FuncData}(F:Fun K "come_to_keeper" "Hall.come_to_keeper" cO fa fd)(Z:Txt K mg cl)(Fx88:Mt3 P w K mg base CX0 (TT cl) 2 1 "answer_to" 2 cG):aT P w K mg base CX0 3 fa fd ["self","letter"] (sp3 (TT cl) K 2 bY):=by
 have sc:av ["self","letter","answer"] ["self","letter"] (ai cO):=by walk_at "sc"
 exact bo (k:=2) F sc rfl rfl fun cdv A outer s H E hr=>have hu:=hr.units
  have nd:=sc.nd
  (by delta cN;walk_at "b")
def jT{fa:Addr}{fd:FuncData}(F:Fun K "come_to_hand" "Hall.come_to_hand" dC fa fd)(Z:Txt K mg cl)(Fx89:Mt3 P w K mg base CX0 (TT cl) 3 0 "hear" 2 gQ)(Fx4:Mt3 P w K mg base CX0 (TT cl) 1 2 "send" 2 bQ):aT P w K mg base CX0 4 fa fd ["self","answer"] (sp3 (TT cl) K 2 cx):=by
 have sc:av ["self","answer","brought"] ["self","answer"] (ai dC):=by walk_at "sc"
 exact bo (k:=3) F sc rfl rfl fun cdv A outer s H E hr=>have hu:=hr.units
  have nd:=sc.nd
  (by delta dH;walk_at "b")
def s9{fa:Addr}{fd:FuncData}(F:Fun K "come" "Hall.come" jv fa fd)(Z:Txt K mg cl)(Fx90:Mt3 P w K mg base CX0 (TT cl) 3 2 "come_to_keeper" 2 bY)(Fx91:Mt3 P w K mg base CX0 (TT cl) 4 2 "come_to_hand" 2 cx):aT P w K mg base CX0 5 fa fd ["self","place","stays"] (sp3 (TT cl) K 3 cE):=by
 have sc:av ["self","place","stays","entry"] ["self","place","stays"] (ai jv):=by walk_at "sc"
 exact bo (k:=4) F sc rfl rfl fun cdv A outer s H E hr=>have hu:=hr.units
  have nd:=sc.nd
  (by delta jX;walk_at "b")
def qG{fa:Addr}{fd:FuncData}(F:Fun K "carry" "Hall.carry" jf fa fd)(Z:Txt K mg cl)(Fx9:Mt3 P w K mg base CX0 (TT cl) 5 2 "come" 3 cE):aT P w K mg base (CX1 P w) 6 fa fd ["self","number","stays"] (sp3 (TT cl) K 3 fY):=by
 obtain⟨ph,ec_NoLetter,ex_NoLetter⟩:=Z.ph
 have sc:av ["self","number","stays"] ["self","number","stays"] (ai jf):=by walk_at "sc"
 exact fI (k:=5) F sc rfl rfl fun cdv A outer s H E hr=>have hu:=hr.units
  have nd:=sc.nd
  (by delta iN;refine bV ?_ ?_;refine vU ?_ ?_ ?_;walk_at "t";refine df ?_;exact(y_raise jZ jJ hr.hd ex_NoLetter ec_NoLetter (by walk_at "a"));exact pI;refine df ?_;walk_at "y")
def jn{fa:Addr}{fd:FuncData}(F:Fun K "first_between" "Hall.first_between" cU fa fd)(Z:Txt K mg cl):aT P w K mg base CX0 1 fa fd ["self","hand","keeper"] (sp3 (TT cl) K 3 bH):=by
 have sc:av ["self","hand","keeper","place","entry"] ["self","hand","keeper"] (ai cU):=by walk_at "sc"
 exact bo (k:=0) F sc rfl rfl fun cdv A outer s H E hr=>have hu:=hr.units
  have nd:=sc.nd
  (by delta cW;walk_at "b")
def jo{fa:Addr}{fd:FuncData}(F:Fun K "carry_between" "Hall.carry_between" cV fa fd)(Z:Txt K mg cl)(Fx2:Mt3 P w K mg base (CX1 P w) (TT cl) 1 2 "hand_of" 2 aX)(Fx8:Mt3 P w K mg base (CX1 P w) (TT cl) 1 2 "keeper_of" 2 bx)(Fx9:Mt3 P w K mg base CX0 (TT cl) 5 2 "come" 3 cE)(Fx92:Mt3 P w K mg base CX0 (TT cl) 1 2 "first_between" 3 bH):aT P w K mg base (CX1 P w) 6 fa fd ["self","hand","keeper"] (sp3 (TT cl) K 3 cg):=by
 have sc:av ["self","hand","keeper","ends","place"] ["self","hand","keeper"] (ai cV):=by walk_at "sc"
 exact fI (k:=5) F sc rfl rfl fun cdv A outer s H E hr=>have hu:=hr.units
  have nd:=sc.nd
  (by delta cS;walk_at "b")
def qJ{fa:Addr}{fd:FuncData}(F:Fun K "sweep" "Hall.sweep" iY fa fd)(Z:Txt K mg cl)(Fx9:Mt3 P w K mg base CX0 (TT cl) 5 2 "come" 3 cE):aT P w K mg base CX0 6 fa fd ["self"] (sp3 (TT cl) K 1 fW):=by
 have sc:av ["self","ends"] ["self"] (ai iY):=by walk_at "sc"
 exact bo (k:=5) F sc rfl rfl fun cdv A outer s H E hr=>have hu:=hr.units
  have nd:=sc.nd
  (by delta iP;walk_at "b")
def sx{fa:Addr}{fd:FuncData}(F:Fun K "__init__" "Work.__init__" kf fa fd)(Z:Txt K mg cl):aT P w K mg base CX0 1 fa fd ["self","hand","word","value","begun"] (sp3 (TT cl) K 5 gT):=by
 have sc:av ["self","hand","word","value","begun"] ["self","hand","word","value","begun"] (ai kf):=by walk_at "sc"
 exact bo (k:=0) F sc rfl rfl fun cdv A outer s H E hr=>have hu:=hr.units
  have nd:=sc.nd
  (by delta j7;walk_at "b")
def sy{fa:Addr}{fd:FuncData}(F:Fun K "told" "Work.told" jO fa fd)(Z:Txt K mg cl):aT P w K mg base CX0 1 fa fd ["self"] (sp3 (TT cl) K 1 gV):=by
 have sc:av ["self"] ["self"] (ai jO):=by walk_at "sc"
 exact bo (k:=0) F sc rfl rfl fun cdv A outer s H E hr=>have hu:=hr.units
  have nd:=sc.nd
  (by delta jG;walk_at "b")
def qx{fa:Addr}{fd:FuncData}(F:Fun K "__init__" "Story.__init__" ja fa fd)(Z:Txt K mg cl)(Fx93:Ct3 P w K mg base CX0 (TT cl) 3 "Hall" 2 3 fM):aT P w K mg base CX0 5 fa fd ["self","count","many"] (sp3 (TT cl) K 3 fU):=by
 have sc:av ["self","count","many"] ["self","count","many"] (ai ja):=by walk_at "sc"
 exact bo (k:=4) F sc rfl rfl fun cdv A outer s H E hr=>have hu:=hr.units
  have nd:=sc.nd
  (by delta iJ;walk_at "b")
def lE{fa:Addr}{fd:FuncData}(F:Fun K "note_work" "Story.note_work" eL fa fd)(Z:Txt K mg cl)(Fx94:Ct3 P w K mg base CX0 (TT cl) 1 "Work" 3 5 gT):aT P w K mg base CX0 3 fa fd ["self","hand","word","value"] (sp3 (TT cl) K 4 b9):=by
 have sc:av ["self","hand","word","value","place"] ["self","hand","word","value"] (ai eL):=by walk_at "sc"
 exact bo (k:=2) F sc rfl rfl fun cdv A outer s H E hr=>have hu:=hr.units
  have nd:=sc.nd
  (by delta eI;walk_at "b")
def mr{fa:Addr}{fd:FuncData}(F:Fun K "note_end" "Story.note_end" fu fa fd)(Z:Txt K mg cl):aT P w K mg base CX0 1 fa fd ["self","hand","pair"] (sp3 (TT cl) K 3 dm):=by
 have sc:av ["self","hand","pair","place","work"] ["self","hand","pair"] (ai fu):=by walk_at "sc"
 exact bo (k:=0) F sc rfl rfl fun cdv A outer s H E hr=>have hu:=hr.units
  have nd:=sc.nd
  (by delta fg;walk_at "b")
def k7{fa:Addr}{fd:FuncData}(F:Fun K "note_ends" "Story.note_ends" eJ fa fd)(Z:Txt K mg cl)(Fx22:Mt3 P w K mg base CX0 (TT cl) 1 4 "note_end" 3 dm):aT P w K mg base CX0 2 fa fd ["self","ends"] (sp3 (TT cl) K 2 bA):=by
 have sc:av ["self","ends"] ["self","ends"] (ai eJ):=by walk_at "sc"
 exact bo (k:=1) F sc rfl rfl fun cdv A outer s H E hr=>have hu:=hr.units
  have nd:=sc.nd
  (by delta eX;refine df ?_;refine y_ret ?_;exact(nj (Blk.of (caps:=[("self",0)]) (cl:=[("self",s.heap.objs.size+1)]) rfl rfl rfl rfl rfl (by decide) rfl rfl rfl rfl rfl) rfl (rT (by walk_at "e")) (fun _ _ _ _ _=>fT) (fun _ _ _ _ _=>(A9 Fx22 (hr.mono (by decide)) md (dt 1) (ff (by refine ug hu ?_ ?_;exact(dt 0);exact rj) (ff (by refine ug hu ?_ ?_;exact(dt 0);exact rj) qX o5) o5)))))
def qo{fa:Addr}{fd:FuncData}(F:Fun K "done" "Story.done" iO fa fd)(Z:Txt K mg cl)(Fx95:Mt3 P w K mg base (CX1 P w) (TT cl) 5 2 "write" 3 gf)(Fx96:Mt3 P w K mg base (CX1 P w) (TT cl) 5 2 "read" 2 gX)(Fx97:Mt3 P w K mg base (CX1 P w) (TT cl) 3 2 "again" 2 gb)(Fx98:Mt3 P w K mg base (CX1 P w) (TT cl) 3 2 "leave" 2 gc)(Fx99:Mt3 P w K mg base (CX1 P w) (TT cl) 2 2 "stop_keeper" 2 cL)(Fx100:Mt3 P w K mg base (CX1 P w) (TT cl) 2 2 "wake_keeper" 2 cK)(Fx101:Mt3 P w K mg base (CX1 P w) (TT cl) 6 2 "carry" 3 fY)(Fx102:Mt3 P w K mg base (CX1 P w) (TT cl) 6 2 "carry_between" 3 cg)(Fx103:Mt3 P w K mg base CX0 (TT cl) 6 2 "sweep" 1 fW)(Fx104:Mt3 P w K mg base CX0 (TT cl) 3 4 "note_work" 4 b9)(Fx105:Mt3 P w K mg base CX0 (TT cl) 2 4 "note_ends" 2 bA):aT P w K mg base (CX1 P w) 7 fa fd ["self","deed"] (sp3 (TT cl) K 2 fX):=by
 have sc:av ["self","deed","word","ends"] ["self","deed"] (ai iO):=by walk_at "sc"
 exact fI (k:=6) F sc rfl rfl fun cdv A outer s H E hr=>have hu:=hr.units
  have nd:=sc.nd
  (by delta iR;walk_at "b")
def g9{fa:Addr}{fd:FuncData}(F:Fun K "done_or_refused" "Story.done_or_refused" cB fa fd)(Z:Txt K mg cl)(Fx23:Mt3 P w K mg base (CX1 P w) (TT cl) 7 4 "done" 2 fX):aT P w K mg base CX0 8 fa fd ["self","deed"] (sp3 (TT cl) K 2 bL):=by
 obtain⟨a_NoHand,em_NoHand,eh_NoHand⟩:=Z.Bf
 obtain⟨a_NoKeeper,em_NoKeeper,eh_NoKeeper⟩:=Z.vY
 obtain⟨a_NoLetter,em_NoLetter,eh_NoLetter⟩:=Z.v5
 obtain⟨a_Busy,em_Busy,eh_Busy⟩:=Z.FI
 obtain⟨a_Idle,em_Idle,eh_Idle⟩:=Z.ET
 have sc:av ["self","deed"] ["self","deed"] (ai cB):=by walk_at "sc"
 exact bo (k:=7) F sc rfl rfl fun cdv A outer s H E hr=>have hu:=hr.units
  have nd:=sc.nd
  (by delta cA;refine df ?_;exact(Bd wU (CI wU Fx23 (hr.mono (by decide)) (fun _=>(by walk_at "e")) (fun _=>(by walk_at "a"))) (Hs.cons em_NoHand rfl (by decide) eh_NoHand (fun _=>(by walk_at "b")) (Hs.cons em_NoKeeper rfl (by decide) eh_NoKeeper (fun _=>(by walk_at "b")) (Hs.cons em_NoLetter rfl (by decide) eh_NoLetter (fun _=>(by walk_at "b")) (Hs.cons em_Busy rfl (by decide) eh_Busy (fun _=>(by walk_at "b")) (Hs.cons em_Idle rfl (by decide) eh_Idle (fun _=>(by walk_at "b")) Hs.nil)))))))
def jI{fa:Addr}{fd:FuncData}(F:Fun K "note_stamps" "Story.note_stamps" dE fa fd)(Z:Txt K mg cl):aT P w K mg base CX0 1 fa fd ["self"] (sp3 (TT cl) K 1 cy):=by
 have sc:av ["self","hand","place","pair","work"] ["self"] (ai dE):=by walk_at "sc"
 exact bo (k:=0) F sc rfl rfl fun cdv A outer s H E hr=>have hu:=hr.units
  have nd:=sc.nd
  (by delta dB;refine df ?_;exact(BR PassesOwn.never rfl (by walk_at "e") (FJ rfl (rO (i:=1) sc.nd rfl (Or.inl rfl) (rO (i:=2) sc.nd rfl (Or.inl rfl) Dh))) (by walk_at "b")))
def nT{fa:Addr}{fd:FuncData}(F:Fun K "answer" "Story.answer" gn fa fd)(Z:Txt K mg cl)(Fx106:Mt3 P w K mg base CX0 (TT cl) 8 4 "done_or_refused" 2 bL)(Fx107:Mt3 P w K mg base CX0 (TT cl) 1 4 "note_stamps" 1 cy):aT P w K mg base CX0 9 fa fd ["self","deed"] (sp3 (TT cl) K 2 cY):=by
 have sc:av ["self","deed","told"] ["self","deed"] (ai gn):=by walk_at "sc"
 exact bo (k:=8) F sc rfl rfl fun cdv A outer s H E hr=>have hu:=hr.units
  have nd:=sc.nd
  (by delta gj;walk_at "b")
def sS{fa:Addr}{fd:FuncData}(F:Fun K "all_after" "all_after" jW fa fd)(Z:Txt K mg cl)(Fx24:Mt3 P w K mg base CX0 (TT cl) 1 3 "told" 1 gV)(Fx108:Ct3 P w K mg base CX0 (TT cl) 5 "Story" 4 3 fU)(Fx109:Mt3 P w K mg base CX0 (TT cl) 9 4 "answer" 2 cY):aT P w K mg base CX0 10 fa fd ["count","many","deeds"] (sp3 (TT cl) K 3 gL):=by
 have sc:av ["count","many","deeds","story","deed","works","stamps","pairs"] ["count","many","deeds"] (ai jW):=by walk_at "sc"
 exact bo (k:=9) F sc rfl rfl fun cdv A outer s H E hr=>have hu:=hr.units
  have nd:=sc.nd
  (by delta jz;refine bV ?_ ?_;walk_at "y";refine bV ?_ ?_;walk_at "y";refine bV ?_ ?_;exact(iy (i:=5) (Blk.nil rfl rfl (by decide +kernel) rfl) rfl sc.nd rfl rfl (rT (by walk_at "e")) (fun _ _ _ _ _=>fT) (fun _ _ _ _ _=>(xi Fx24 (hr.mono (by decide)) md (dt 0))));refine bV ?_ ?_;exact(iy (i:=6) (Blk.nil rfl rfl (by decide +kernel) rfl) rfl sc.nd rfl rfl (rT (by walk_at "e")) (fun _ _ _ _ _=>fT) (fun _ _ _ _ _=>(nC (Z.fA 16 (by decide)) (dt 0))));refine bV ?_ ?_;exact(iy (i:=7) (Blk.nil rfl rfl (by decide +kernel) rfl) rfl sc.nd rfl rfl (rT (by walk_at "e")) (fun _ _ _ _ _=>fT) (fun _ _ _ _ _=>(nC (Z.fA 4 (by decide)) (dt 0))));refine df ?_;walk_at "y")
def Bc{fa:Addr}{fd:FuncData}(F:Fun K "_law_whole" "_law_whole" rV fa fd)(Z:Txt K mg cl):aT P w K mg base CX0 1 fa fd ["_law_found"] (sp3 (TT cl) K 1 dO):=by
 have sc:av ["_law_found"] ["_law_found"] (ai rV):=by walk_at "sc"
 exact bo (k:=0) F sc rfl rfl fun cdv A outer s H E hr=>have hu:=hr.units
  have nd:=sc.nd
  (by delta sP;walk_at "b")
def Gj{fa:Addr}{fd:FuncData}(F:Fun K "_law_at" "_law_at" F5 fa fd)(Z:Txt K mg cl):aT P w K mg base CX0 1 fa fd ["_law_script","_law_k"] (sp3 (TT cl) K 2 tV):=by
 have sc:av ["_law_script","_law_k"] ["_law_script","_law_k"] (ai F5):=by walk_at "sc"
 exact bo (k:=0) F sc rfl rfl fun cdv A outer s H E hr=>have hu:=hr.units
  have nd:=sc.nd
  (by delta Eg;walk_at "b")
def uc{fa:Addr}{fd:FuncData}(F:Fun K "_law_value_by" "_law_value_by" lg fa fd)(Z:Txt K mg cl):aT P w K mg base CX0 1 fa fd ["_law_cell","_law_k"] (sp3 (TT cl) K 2 je):=by
 have sc:av ["_law_cell","_law_k","_law_wide","_law_some"] ["_law_cell","_law_k"] (ai lg):=by walk_at "sc"
 exact bo (k:=0) F sc rfl rfl fun cdv A outer s H E hr=>have hu:=hr.units
  have nd:=sc.nd
  (by delta lJ;walk_at "b")
def vB{fa:Addr}{fd:FuncData}(F:Fun K "_law_deed_of" "_law_deed_of" m4 fa fd)(Z:Txt K mg cl)(Fx110:Fn3 P w K mg base CX0 (TT cl) 1 "_law_value_by" 2 je):aT P w K mg base CX0 2 fa fd ["_law_cell","_law_k","_law_count","_law_many"] (sp3 (TT cl) K 4 ix):=by
 have sc:av ["_law_cell","_law_k","_law_count","_law_many","_law_way","_law_hand","_law_keeper","_law_number"] ["_law_cell","_law_k","_law_count","_law_many"] (ai m4):=by walk_at "sc"
 exact bo (k:=1) F sc rfl rfl fun cdv A outer s H E hr=>have hu:=hr.units
  have nd:=sc.nd
  (by delta m7;walk_at "b")
def vF{fa:Addr}{fd:FuncData}(F:Fun K "_law_opening" "_law_opening" m9 fa fd)(Z:Txt K mg cl):aT P w K mg base CX0 1 fa fd ["_law_cell","_law_count","_law_many"] (sp3 (TT cl) K 3 kq):=by
 have sc:av ["_law_cell","_law_count","_law_many","_law_way","_law_deeds"] ["_law_cell","_law_count","_law_many"] (ai m9):=by walk_at "sc"
 exact bo (k:=0) F sc rfl rfl fun cdv A outer s H E hr=>have hu:=hr.units
  have nd:=sc.nd
  (by delta ni;walk_at "b")
def Af{fa:Addr}{fd:FuncData}(F:Fun K "_law_drawn" "_law_drawn" sO fa fd)(Z:Txt K mg cl)(Fx111:Fn3 P w K mg base CX0 (TT cl) 2 "_law_deed_of" 4 ix)(Fx112:Fn3 P w K mg base CX0 (TT cl) 1 "_law_opening" 3 kq):aT P w K mg base CX0 3 fa fd ["_law_cells","_law_count","_law_many"] (sp3 (TT cl) K 3 oB):=by
 have sc:av ["_law_cells","_law_count","_law_many","_law_deeds","_law_k"] ["_law_cells","_law_count","_law_many"] (ai sO):=by walk_at "sc"
 exact bo (k:=2) F sc rfl rfl fun cdv A outer s H E hr=>have hu:=hr.units
  have nd:=sc.nd
  (by delta rR;walk_at "b")
def tO{fa:Addr}{fd:FuncData}(F:Fun K "_law_is_stamp" "_law_is_stamp" lB fa fd)(Z:Txt K mg cl)(Fx10:Fn3 P w K mg base CX0 (TT cl) 1 "_law_whole" 1 dO):aT P w K mg base CX0 2 fa fd ["_law_found"] (sp3 (TT cl) K 1 fq):=by
 have sc:av ["_law_found"] ["_law_found"] (ai lB):=by walk_at "sc"
 exact bo (k:=1) F sc rfl rfl fun cdv A outer s H E hr=>have hu:=hr.units
  have nd:=sc.nd
  (by delta lG;walk_at "b")
def v9{fa:Addr}{fd:FuncData}(F:Fun K "_law_is_pair" "_law_is_pair" ny fa fd)(Z:Txt K mg cl)(Fx10:Fn3 P w K mg base CX0 (TT cl) 1 "_law_whole" 1 dO)(Fx25:Fn3 P w K mg base CX0 (TT cl) 2 "_law_is_stamp" 1 fq):aT P w K mg base CX0 3 fa fd ["_law_found"] (sp3 (TT cl) K 1 ko):=by
 have sc:av ["_law_found"] ["_law_found"] (ai ny):=by walk_at "sc"
 exact bo (k:=2) F sc rfl rfl fun cdv A outer s H E hr=>have hu:=hr.units
  have nd:=sc.nd
  (by delta mU;walk_at "b")
def vV{fa:Addr}{fd:FuncData}(F:Fun K "_law_is_work" "_law_is_work" mY fa fd)(Z:Txt K mg cl)(Fx10:Fn3 P w K mg base CX0 (TT cl) 1 "_law_whole" 1 dO):aT P w K mg base CX0 2 fa fd ["_law_found"] (sp3 (TT cl) K 1 kH):=by
 have sc:av ["_law_found","_law_hand","_law_word","_law_value","_law_begun","_law_ended"] ["_law_found"] (ai mY):=by walk_at "sc"
 exact bo (k:=1) F sc rfl rfl fun cdv A outer s H E hr=>have hu:=hr.units
  have nd:=sc.nd
  (by delta mL;walk_at "b")
def rK{fa:Addr}{fd:FuncData}(F:Fun K "_law_all_kinds" "_law_all_kinds" jy fa fd)(Z:Txt K mg cl)(Fx25:Fn3 P w K mg base CX0 (TT cl) 2 "_law_is_stamp" 1 fq)(Fx113:Fn3 P w K mg base CX0 (TT cl) 3 "_law_is_pair" 1 ko)(Fx114:Fn3 P w K mg base CX0 (TT cl) 2 "_law_is_work" 1 kH):aT P w K mg base CX0 4 fa fd ["_law_found","_law_count"] (sp3 (TT cl) K 2 gM):=by
 have sc:av ["_law_found","_law_count","_law_row","_law_one","_law_stamp","_law_pair"] ["_law_found","_law_count"] (ai jy):=by walk_at "sc"
 exact bo (k:=3) F sc rfl rfl fun cdv A outer s H E hr=>have hu:=hr.units
  have nd:=sc.nd
  (by delta jH;walk_at "b")
def tY{fa:Addr}{fd:FuncData}(F:Fun K "_law_all_told" "_law_all_told" lN fa fd)(Z:Txt K mg cl)(Fx115:Fn3 P w K mg base CX0 (TT cl) 10 "all_after" 3 gL)(Fx116:Fn3 P w K mg base CX0 (TT cl) 4 "_law_all_kinds" 2 gM):aT P w K mg base CX0 11 fa fd ["_law_count","_law_many","_law_deeds"] (sp3 (TT cl) K 3 iM):=by
 have sc:av ["_law_count","_law_many","_law_deeds","_law_handed","_law_found"] ["_law_count","_law_many","_law_deeds"] (ai lN):=by walk_at "sc"
 exact bo (k:=10) F sc rfl rfl fun cdv A outer s H E hr=>have hu:=hr.units
  have nd:=sc.nd
  (by delta ly;walk_at "b")
def vN{fa:Addr}{fd:FuncData}(F:Fun K "_law_written" "_law_written" mW fa fd)(Z:Txt K mg cl):aT P w K mg base CX0 1 fa fd ["_law_works","_law_stamps"] (sp3 (TT cl) K 2 kG):=by
 have sc:av ["_law_works","_law_stamps","_law_made","_law_k","_law_turn","_law_hand"] ["_law_works","_law_stamps"] (ai mW):=by walk_at "sc"
 exact bo (k:=0) F sc rfl rfl fun cdv A outer s H E hr=>have hu:=hr.units
  have nd:=sc.nd
  (by delta mM;walk_at "b")
def qe{fa:Addr}{fd:FuncData}(F:Fun K "_law_first_kept" "_law_first_kept" jc fa fd)(Z:Txt K mg cl):aT P w K mg base CX0 1 fa fd ["_law_works","_law_stamps","_law_pairs"] (sp3 (TT cl) K 3 fZ):=by
 have sc:av ["_law_works","_law_stamps","_law_pairs","_law_k","_law_many"] ["_law_works","_law_stamps","_law_pairs"] (ai jc):=by walk_at "sc"
 exact bo (k:=0) F sc rfl rfl fun cdv A outer s H E hr=>have hu:=hr.units
  have nd:=sc.nd
  (by delta jh;refine bV ?_ ?_;exact(Ac PassesOwn.never rfl (mS Z.lO (by walk_at "e")) (DL (i:=3) sc.nd rfl (Or.inr rfl)) (by refine df ?_;refine vU ?_ ?_ ?_;walk_at "t";refine bV ?_ ?_;walk_at "y";refine bV ?_ ?_;refine wZ (i:=4) ?_ ?_ ?_ ?_ ?_ ?_;exact sc.nd;exact rfl;exact Or.inl rfl;exact(vb Z.Df (ff (nj (Blk.of (caps:=[("_law_stamps",1),("_law_k",3)]) (cl:=[("_law_stamps",s.heap.objs.size+1),("_law_k",s.heap.objs.size+2)]) rfl rfl rfl rfl rfl (by decide) rfl rfl rfl rfl rfl) rfl (rT (by walk_at "e")) (fun _ _ _ _ _=>w5 (kY (Ea hu) (by refine ug hu ?_ ?_;exact(dt 0);exact rj) (by refine ug hu ?_ ?_;exact(dt 1);exact(dt 2)) (hW _))) (fun _ _ _ _ _=>(dt 0))) qX));exact nZ;walk_at "sb";refine df ?_;walk_at "y";exact pI));refine df ?_;walk_at "y")
def oZ{fa:Addr}{fd:FuncData}(F:Fun K "_law_stamps_grow" "_law_stamps_grow" g7 fa fd)(Z:Txt K mg cl):aT P w K mg base CX0 1 fa fd ["_law_works","_law_stamps"] (sp3 (TT cl) K 2 fC):=by
 have sc:av ["_law_works","_law_stamps","_law_k","_law_j","_law_ended","_law_late"] ["_law_works","_law_stamps"] (ai g7):=by walk_at "sc"
 exact bo (k:=0) F sc rfl rfl fun cdv A outer s H E hr=>have hu:=hr.units
  have nd:=sc.nd
  (by delta ie;walk_at "b")
def DO{fa:Addr}{fd:FuncData}(F:Fun K "law" "law" rE fa fd)(Z:Txt K mg cl)(Fx117:Fn3 P w K mg base CX0 (TT cl) 1 "_law_at" 2 tV)(Fx118:Fn3 P w K mg base CX0 (TT cl) 3 "_law_drawn" 3 oB)(Fx119:Fn3 P w K mg base CX0 (TT cl) 11 "_law_all_told" 3 iM)(Fx120:Fn3 P w K mg base CX0 (TT cl) 1 "_law_written" 2 kG)(Fx121:Fn3 P w K mg base CX0 (TT cl) 1 "_law_first_kept" 3 fZ)(Fx122:Fn3 P w K mg base CX0 (TT cl) 1 "_law_stamps_grow" 2 fC):aT P w K mg base CX0 12 fa fd ["_law_script"] (sp3 (TT cl) K 1 pP):=by
 have sc:av ["_law_script","_law_count","_law_many","_law_found","_law_works","_law_stamps","_law_pairs","_law_made","_law_pair","_law_k"] ["_law_script"] (ai rE):=by walk_at "sc"
 exact bo (k:=11) F sc rfl rfl fun cdv A outer s H E hr=>have hu:=hr.units
  have nd:=sc.nd
  (by delta Av;walk_at "b")
end
def all_mk{l:PySem.W.OpenLaw}{w:World}{K:PySem.W.Frag}{h:Heap}{mg:Str->Option Value}{fa C0 C1 C2 C3 C4 X0 X1 X2 X3 X4 X5 f0 f1 f2 f3 f4 f5 f6 f7 f8 f9 f10 f11 f12 f13 f14 f15 f16 f17 f18 f19 f20 f21 f22 f23 f24 f25 f26 f27 f28 f29 f30 f31 f32 f33 f34 f35 f36 f37 f38 f39 f40 f41 f42 f43 f44 f45 f46 f47 f48 f49 f50 f51 f52 f53 f54 f55 f56 f57 f58 f59 f60 f61 x_BEGINNING_1 x_BEGINNING:Addr}{d0 d1 d2 d3 d4 d5 d6 d7 d8 d9 d10 d11 d12 d13 d14 d15 d16 d17 d18 d19 d20 d21 d22 d23 d24 d25 d26 d27 d28 d29 d30 d31 d32 d33 d34 d35 d36 d37 d38 d39 d40 d41 d42 d43 d44 d45 d46 d47 d48 d49 d50 d51 d52 d53 d54 d55 d56 d57 d58 d59 d60 d61:FuncData}{t_BEGINNING_2 t_BEGINNING_3 t_BEGINNING_4:Tok}{od_BEGINNING_1 od_BEGINNING:Option Addr}{n_BEGINNING_1 n_BEGINNING:Nat}{sl_BEGINNING_1 sl_BEGINNING:Array (Option Value)}(X:K.In h)(G:h.Ns mainGlobals mg)(hfa:mg "law"=some (.ref fa))
 (g_BEGINNING:PySem.W.nsIn K mainGlobals "BEGINNING"=some (some (.ref x_BEGINNING)))
 (aC0:PySem.W.nsIn K mainGlobals "Hand"=some (some (.ref C0))) (cC0:Cls K C0) (mk0:PySem.W.makesIn K C0=true) (kc0:PySem.W.keepIn K (.ref C0)=true)
 (na0:(nmL.all fun x=>PySem.W.findIn K (.ref C0) x==some none)=true)
 (aC1:PySem.W.nsIn K mainGlobals "Keeper"=some (some (.ref C1))) (cC1:Cls K C1) (mk1:PySem.W.makesIn K C1=true) (kc1:PySem.W.keepIn K (.ref C1)=true)
 (na1:(nmL.all fun x=>PySem.W.findIn K (.ref C1) x==some none)=true)
 (aC2:PySem.W.nsIn K mainGlobals "Hall"=some (some (.ref C2))) (cC2:Cls K C2) (mk2:PySem.W.makesIn K C2=true) (kc2:PySem.W.keepIn K (.ref C2)=true)
 (na2:(nmL.all fun x=>PySem.W.findIn K (.ref C2) x==some none)=true)
 (aC3:PySem.W.nsIn K mainGlobals "Work"=some (some (.ref C3))) (cC3:Cls K C3) (mk3:PySem.W.makesIn K C3=true) (kc3:PySem.W.keepIn K (.ref C3)=true)
 (na3:(nmL.all fun x=>PySem.W.findIn K (.ref C3) x==some none)=true)
 (aC4:PySem.W.nsIn K mainGlobals "Story"=some (some (.ref C4))) (cC4:Cls K C4) (mk4:PySem.W.makesIn K C4=true) (kc4:PySem.W.keepIn K (.ref C4)=true)
 (na4:(nmL.all fun x=>PySem.W.findIn K (.ref C4) x==some none)=true)
 (aX0:PySem.W.nsIn K mainGlobals "HalfError"=some (some (.ref X0))) (ei0:PySem.W.excIn K X0 veM "ValueError.__new__"=true)
 (aX1:PySem.W.nsIn K mainGlobals "NoHand"=some (some (.ref X1))) (ei1:PySem.W.excIn K X1 veM "ValueError.__new__"=true)
 (aX2:PySem.W.nsIn K mainGlobals "NoKeeper"=some (some (.ref X2))) (ei2:PySem.W.excIn K X2 veM "ValueError.__new__"=true)
 (aX3:PySem.W.nsIn K mainGlobals "NoLetter"=some (some (.ref X3))) (ei3:PySem.W.excIn K X3 veM "ValueError.__new__"=true)
 (aX4:PySem.W.nsIn K mainGlobals "Busy"=some (some (.ref X4))) (ei4:PySem.W.excIn K X4 veM "ValueError.__new__"=true)
 (aX5:PySem.W.nsIn K mainGlobals "Idle"=some (some (.ref X5))) (ei5:PySem.W.excIn K X5 veM "ValueError.__new__"=true)
 (em1:((clP [C0,C1,C2,C3,C4] [X0,X1,X2,X3,X4,X5]).all fun p=>PySem.W.exmOne K (.ref p.1) (.ref X1)==some (decide (p.2=1001)))=true)
 (em2:((clP [C0,C1,C2,C3,C4] [X0,X1,X2,X3,X4,X5]).all fun p=>PySem.W.exmOne K (.ref p.1) (.ref X2)==some (decide (p.2=1002)))=true)
 (em3:((clP [C0,C1,C2,C3,C4] [X0,X1,X2,X3,X4,X5]).all fun p=>PySem.W.exmOne K (.ref p.1) (.ref X3)==some (decide (p.2=1003)))=true)
 (em4:((clP [C0,C1,C2,C3,C4] [X0,X1,X2,X3,X4,X5]).all fun p=>PySem.W.exmOne K (.ref p.1) (.ref X4)==some (decide (p.2=1004)))=true)
 (em5:((clP [C0,C1,C2,C3,C4] [X0,X1,X2,X3,X4,X5]).all fun p=>PySem.W.exmOne K (.ref p.1) (.ref X5)==some (decide (p.2=1005)))=true)
 (a0:PySem.W.nsIn K mainGlobals "is_more"=some (some (.ref f0))) (p0:Fun K "is_more" "is_more" mQ f0 d0)
 (a1:PySem.W.nsIn K mainGlobals "newest"=some (some (.ref f1))) (p1:Fun K "newest" "newest" o6 f1 d1)
 (a2:PySem.W.nsIn K mainGlobals "stamp_after"=some (some (.ref f2))) (p2:Fun K "stamp_after" "stamp_after" hX f2 d2)
 (a3:PySem.W.findIn K (.ref C0) "__init__"=some (some (.ref f3))) (p3:Fun K "__init__" "Hand.__init__" jV f3 d3)
 (i3:PySem.W.isFn K (.ref f3)=true)
 (a4:PySem.W.findIn K (.ref C0) "letters"=some (some (.ref f4))) (p4:Fun K "letters" "Hand.letters" gx f4 d4)
 (i4:PySem.W.isFn K (.ref f4)=true)
 (a5:PySem.W.findIn K (.ref C0) "begin_round"=some (some (.ref f5))) (p5:Fun K "begin_round" "Hand.begin_round" dW f5 d5)
 (i5:PySem.W.isFn K (.ref f5)=true)
 (a6:PySem.W.findIn K (.ref C0) "begin"=some (some (.ref f6))) (p6:Fun K "begin" "Hand.begin" iX f6 d6)
 (i6:PySem.W.isFn K (.ref f6)=true)
 (a7:PySem.W.findIn K (.ref C0) "begin_write"=some (some (.ref f7))) (p7:Fun K "begin_write" "Hand.begin_write" dU f7 d7)
 (i7:PySem.W.isFn K (.ref f7)=true)
 (a8:PySem.W.findIn K (.ref C0) "begin_read"=some (some (.ref f8))) (p8:Fun K "begin_read" "Hand.begin_read" eN f8 d8)
 (i8:PySem.W.isFn K (.ref f8)=true)
 (a9:PySem.W.findIn K (.ref C0) "refuse_idle"=some (some (.ref f9))) (p9:Fun K "refuse_idle" "Hand.refuse_idle" eA f9 d9)
 (i9:PySem.W.isFn K (.ref f9)=true)
 (a10:PySem.W.findIn K (.ref C0) "send_again"=some (some (.ref f10))) (p10:Fun K "send_again" "Hand.send_again" eT f10 d10)
 (i10:PySem.W.isFn K (.ref f10)=true)
 (a11:PySem.W.findIn K (.ref C0) "give_up"=some (some (.ref f11))) (p11:Fun K "give_up" "Hand.give_up" gk f11 d11)
 (i11:PySem.W.isFn K (.ref f11)=true)
 (a12:PySem.W.findIn K (.ref C0) "chosen"=some (some (.ref f12))) (p12:Fun K "chosen" "Hand.chosen" ik f12 d12)
 (i12:PySem.W.isFn K (.ref f12)=true)
 (a13:PySem.W.findIn K (.ref C0) "hear"=some (some (.ref f13))) (p13:Fun K "hear" "Hand.hear" jU f13 d13)
 (i13:PySem.W.isFn K (.ref f13)=true)
 (a14:PySem.W.findIn K (.ref C1) "__init__"=some (some (.ref f14))) (p14:Fun K "__init__" "Keeper.__init__" hI f14 d14)
 (i14:PySem.W.isFn K (.ref f14)=true)
 (a15:PySem.W.findIn K (.ref C1) "stop"=some (some (.ref f15))) (p15:Fun K "stop" "Keeper.stop" il f15 d15)
 (i15:PySem.W.isFn K (.ref f15)=true)
 (a16:PySem.W.findIn K (.ref C1) "wake"=some (some (.ref f16))) (p16:Fun K "wake" "Keeper.wake" ig f16 d16)
 (i16:PySem.W.isFn K (.ref f16)=true)
 (a17:PySem.W.findIn K (.ref C1) "keep"=some (some (.ref f17))) (p17:Fun K "keep" "Keeper.keep" ia f17 d17)
 (i17:PySem.W.isFn K (.ref f17)=true)
 (a18:PySem.W.findIn K (.ref C1) "answer_to"=some (some (.ref f18))) (p18:Fun K "answer_to" "Keeper.answer_to" et f18 d18)
 (i18:PySem.W.isFn K (.ref f18)=true)
 (a19:PySem.W.findIn K (.ref C2) "__init__"=some (some (.ref f19))) (p19:Fun K "__init__" "Hall.__init__" j0 f19 d19)
 (i19:PySem.W.isFn K (.ref f19)=true)
 (a20:PySem.W.findIn K (.ref C2) "hand_of"=some (some (.ref f20))) (p20:Fun K "hand_of" "Hall.hand_of" gA f20 d20)
 (i20:PySem.W.isFn K (.ref f20)=true)
 (a21:PySem.W.findIn K (.ref C2) "keeper_of"=some (some (.ref f21))) (p21:Fun K "keeper_of" "Hall.keeper_of" e9 f21 d21)
 (i21:PySem.W.isFn K (.ref f21)=true)
 (a22:PySem.W.findIn K (.ref C2) "send"=some (some (.ref f22))) (p22:Fun K "send" "Hall.send" jN f22 d22)
 (i22:PySem.W.isFn K (.ref f22)=true)
 (a23:PySem.W.findIn K (.ref C2) "write"=some (some (.ref f23))) (p23:Fun K "write" "Hall.write" jb f23 d23)
 (i23:PySem.W.isFn K (.ref f23)=true)
 (a24:PySem.W.findIn K (.ref C2) "read"=some (some (.ref f24))) (p24:Fun K "read" "Hall.read" jE f24 d24)
 (i24:PySem.W.isFn K (.ref f24)=true)
 (a25:PySem.W.findIn K (.ref C2) "again"=some (some (.ref f25))) (p25:Fun K "again" "Hall.again" ji f25 d25)
 (i25:PySem.W.isFn K (.ref f25)=true)
 (a26:PySem.W.findIn K (.ref C2) "leave"=some (some (.ref f26))) (p26:Fun K "leave" "Hall.leave" iG f26 d26)
 (i26:PySem.W.isFn K (.ref f26)=true)
 (a27:PySem.W.findIn K (.ref C2) "stop_keeper"=some (some (.ref f27))) (p27:Fun K "stop_keeper" "Hall.stop_keeper" dY f27 d27)
 (i27:PySem.W.isFn K (.ref f27)=true)
 (a28:PySem.W.findIn K (.ref C2) "wake_keeper"=some (some (.ref f28))) (p28:Fun K "wake_keeper" "Hall.wake_keeper" dS f28 d28)
 (i28:PySem.W.isFn K (.ref f28)=true)
 (a29:PySem.W.findIn K (.ref C2) "come_to_keeper"=some (some (.ref f29))) (p29:Fun K "come_to_keeper" "Hall.come_to_keeper" cO f29 d29)
 (i29:PySem.W.isFn K (.ref f29)=true)
 (a30:PySem.W.findIn K (.ref C2) "come_to_hand"=some (some (.ref f30))) (p30:Fun K "come_to_hand" "Hall.come_to_hand" dC f30 d30)
 (i30:PySem.W.isFn K (.ref f30)=true)
 (a31:PySem.W.findIn K (.ref C2) "come"=some (some (.ref f31))) (p31:Fun K "come" "Hall.come" jv f31 d31)
 (i31:PySem.W.isFn K (.ref f31)=true)
 (a32:PySem.W.findIn K (.ref C2) "carry"=some (some (.ref f32))) (p32:Fun K "carry" "Hall.carry" jf f32 d32)
 (i32:PySem.W.isFn K (.ref f32)=true)
 (a33:PySem.W.findIn K (.ref C2) "first_between"=some (some (.ref f33))) (p33:Fun K "first_between" "Hall.first_between" cU f33 d33)
 (i33:PySem.W.isFn K (.ref f33)=true)
 (a34:PySem.W.findIn K (.ref C2) "carry_between"=some (some (.ref f34))) (p34:Fun K "carry_between" "Hall.carry_between" cV f34 d34)
 (i34:PySem.W.isFn K (.ref f34)=true)
 (a35:PySem.W.findIn K (.ref C2) "sweep"=some (some (.ref f35))) (p35:Fun K "sweep" "Hall.sweep" iY f35 d35)
 (i35:PySem.W.isFn K (.ref f35)=true)
 (a36:PySem.W.findIn K (.ref C3) "__init__"=some (some (.ref f36))) (p36:Fun K "__init__" "Work.__init__" kf f36 d36)
 (i36:PySem.W.isFn K (.ref f36)=true)
 (a37:PySem.W.findIn K (.ref C3) "told"=some (some (.ref f37))) (p37:Fun K "told" "Work.told" jO f37 d37)
 (i37:PySem.W.isFn K (.ref f37)=true)
 (a38:PySem.W.findIn K (.ref C4) "__init__"=some (some (.ref f38))) (p38:Fun K "__init__" "Story.__init__" ja f38 d38)
 (i38:PySem.W.isFn K (.ref f38)=true)
 (a39:PySem.W.findIn K (.ref C4) "note_work"=some (some (.ref f39))) (p39:Fun K "note_work" "Story.note_work" eL f39 d39)
 (i39:PySem.W.isFn K (.ref f39)=true)
 (a40:PySem.W.findIn K (.ref C4) "note_end"=some (some (.ref f40))) (p40:Fun K "note_end" "Story.note_end" fu f40 d40)
 (i40:PySem.W.isFn K (.ref f40)=true)
 (a41:PySem.W.findIn K (.ref C4) "note_ends"=some (some (.ref f41))) (p41:Fun K "note_ends" "Story.note_ends" eJ f41 d41)
 (i41:PySem.W.isFn K (.ref f41)=true)
 (a42:PySem.W.findIn K (.ref C4) "done"=some (some (.ref f42))) (p42:Fun K "done" "Story.done" iO f42 d42)
 (i42:PySem.W.isFn K (.ref f42)=true)
 (a43:PySem.W.findIn K (.ref C4) "done_or_refused"=some (some (.ref f43))) (p43:Fun K "done_or_refused" "Story.done_or_refused" cB f43 d43)
 (i43:PySem.W.isFn K (.ref f43)=true)
 (a44:PySem.W.findIn K (.ref C4) "note_stamps"=some (some (.ref f44))) (p44:Fun K "note_stamps" "Story.note_stamps" dE f44 d44)
 (i44:PySem.W.isFn K (.ref f44)=true)
 (a45:PySem.W.findIn K (.ref C4) "answer"=some (some (.ref f45))) (p45:Fun K "answer" "Story.answer" gn f45 d45)
 (i45:PySem.W.isFn K (.ref f45)=true)
 (a46:PySem.W.nsIn K mainGlobals "all_after"=some (some (.ref f46))) (p46:Fun K "all_after" "all_after" jW f46 d46)
 (a47:PySem.W.nsIn K mainGlobals "_law_whole"=some (some (.ref f47))) (p47:Fun K "_law_whole" "_law_whole" rV f47 d47)
 (a48:PySem.W.nsIn K mainGlobals "_law_at"=some (some (.ref f48))) (p48:Fun K "_law_at" "_law_at" F5 f48 d48)
 (a49:PySem.W.nsIn K mainGlobals "_law_value_by"=some (some (.ref f49))) (p49:Fun K "_law_value_by" "_law_value_by" lg f49 d49)
 (a50:PySem.W.nsIn K mainGlobals "_law_deed_of"=some (some (.ref f50))) (p50:Fun K "_law_deed_of" "_law_deed_of" m4 f50 d50)
 (a51:PySem.W.nsIn K mainGlobals "_law_opening"=some (some (.ref f51))) (p51:Fun K "_law_opening" "_law_opening" m9 f51 d51)
 (a52:PySem.W.nsIn K mainGlobals "_law_drawn"=some (some (.ref f52))) (p52:Fun K "_law_drawn" "_law_drawn" sO f52 d52)
 (a53:PySem.W.nsIn K mainGlobals "_law_is_stamp"=some (some (.ref f53))) (p53:Fun K "_law_is_stamp" "_law_is_stamp" lB f53 d53)
 (a54:PySem.W.nsIn K mainGlobals "_law_is_pair"=some (some (.ref f54))) (p54:Fun K "_law_is_pair" "_law_is_pair" ny f54 d54)
 (a55:PySem.W.nsIn K mainGlobals "_law_is_work"=some (some (.ref f55))) (p55:Fun K "_law_is_work" "_law_is_work" mY f55 d55)
 (a56:PySem.W.nsIn K mainGlobals "_law_all_kinds"=some (some (.ref f56))) (p56:Fun K "_law_all_kinds" "_law_all_kinds" jy f56 d56)
 (a57:PySem.W.nsIn K mainGlobals "_law_all_told"=some (some (.ref f57))) (p57:Fun K "_law_all_told" "_law_all_told" lN f57 d57)
 (a58:PySem.W.nsIn K mainGlobals "_law_written"=some (some (.ref f58))) (p58:Fun K "_law_written" "_law_written" mW f58 d58)
 (a59:PySem.W.nsIn K mainGlobals "_law_first_kept"=some (some (.ref f59))) (p59:Fun K "_law_first_kept" "_law_first_kept" jc f59 d59)
 (a60:PySem.W.nsIn K mainGlobals "_law_stamps_grow"=some (some (.ref f60))) (p60:Fun K "_law_stamps_grow" "_law_stamps_grow" g7 f60 d60)
 (a61:PySem.W.nsIn K mainGlobals "law"=some (some (.ref f61))) (p61:Fun K "law" "law" rE f61 d61)
 (z_max:PySem.W.nsIn K mainGlobals "max"=some none)
 (z_range:PySem.W.nsIn K mainGlobals "range"=some none)
 (z_list:PySem.W.nsIn K mainGlobals "list"=some none)
 (z_len:PySem.W.nsIn K mainGlobals "len"=some none)
 (z_enumerate:PySem.W.nsIn K mainGlobals "enumerate"=some none)
 (z_int:PySem.W.nsIn K mainGlobals "int"=some none)
 (z_isinstance:PySem.W.nsIn K mainGlobals "isinstance"=some none)
 (z_bool:PySem.W.nsIn K mainGlobals "bool"=some none)
 (z_tuple:PySem.W.nsIn K mainGlobals "tuple"=some none)
 (z_str:PySem.W.nsIn K mainGlobals "str"=some none)
 (l_BEGINNING_1:K.lookup x_BEGINNING_1=some ⟨.type "tuple",od_BEGINNING_1,.seq #[.int 0 t_BEGINNING_2,.int 0 t_BEGINNING_3] n_BEGINNING_1,sl_BEGINNING_1⟩)
 (l_BEGINNING:K.lookup x_BEGINNING=some ⟨.type "tuple",od_BEGINNING,.seq #[.ref x_BEGINNING_1,.int 0 t_BEGINNING_4] n_BEGINNING,sl_BEGINNING⟩):
 ∃fd:FuncData,(∀(s:Shared) (v:Value),BindsTo s fd ⟨[v],[]⟩ [("_law_script",v)])/\∃cl,∀base:Heap,K.In base->base.Ns mainGlobals mg->aT l.prog w K mg base CX0 12 fa fd ["_law_script"] (sp3 (TT cl) K 1 pP):=by
 have e:=hfa.symm.trans (PySem.W.mg_of X G a61)
 cases e
 have hcl:∀c Ca,clF [C0,C1,C2,C3,C4] [X0,X1,X2,X3,X4,X5] c=some Ca->c < 1000->Ca∈ [C0,C1,C2,C3,C4]:=fun c Ca e hc=>D3 e hc
 have hC:∀Ca,Ca∈ [C0,C1,C2,C3,C4]->Cls K Ca/\∀x∈nmL,iE K Ca x:=by
  intro Ca hm
  simp only[qS_,List.not_mem_nil,or_false]at hm
  rcases hm with rfl |rfl |rfl |rfl |rfl
  · exact⟨cC0,fun x hx=>eq_of_beq (List.all_eq_true.mp na0 x hx)⟩
  · exact⟨cC1,fun x hx=>eq_of_beq (List.all_eq_true.mp na1 x hx)⟩
  · exact⟨cC2,fun x hx=>eq_of_beq (List.all_eq_true.mp na2 x hx)⟩
  · exact⟨cC3,fun x hx=>eq_of_beq (List.all_eq_true.mp na3 x hx)⟩
  · exact⟨cC4,fun x hx=>eq_of_beq (List.all_eq_true.mp na4 x hx)⟩
 have Z:Txt K mg (clF [C0,C1,C2,C3,C4] [X0,X1,X2,X3,X4,X5]):=⟨PySem.W.mg_none_of X G z_max,
  PySem.W.mg_none_of X G z_range,
  PySem.W.mg_none_of X G z_list,
  PySem.W.mg_none_of X G z_len,
  PySem.W.mg_none_of X G z_enumerate,
  PySem.W.mg_none_of X G z_int,
  PySem.W.mg_none_of X G z_isinstance,
  PySem.W.mg_none_of X G z_bool,
  PySem.W.mg_none_of X G z_tuple,
  PySem.W.mg_none_of X G z_str,
  ⟨.ref x_BEGINNING,.ref x_BEGINNING,PySem.W.mg_of X G g_BEGINNING,rfl,(xl (ds:=[(.tup [(.int 0),(.int 0)]),(.int 0)]) l_BEGINNING (show 2<=sizeLine by decide) (vs:=[(.ref x_BEGINNING_1),(.int 0)]) (.cons rfl (.cons ⟨_,rfl⟩ .nil)) fun H μ=>⟨_,_,rfl,((xl (ds:=[(.int 0),(.int 0)]) l_BEGINNING_1 (show 2<=sizeLine by decide) (vs:=[(.int 0),(.int 0)]) (.cons ⟨_,rfl⟩ (.cons ⟨_,rfl⟩ .nil)) fun H μ=>⟨_,_,rfl,rfl,⟨_,_,rfl,rfl,rfl⟩⟩) H μ),⟨_,_,rfl,rfl,rfl⟩⟩)⟩,
  fun _ hj=>FN (L:=nmL) hcl hC (by decide +kernel) (by decide +kernel) hj,
  ⟨X0,rfl,PySem.W.mg_of X G aX0,ei0⟩,
  True.intro,
  ⟨X1,rfl,PySem.W.mg_of X G aX1,ei1⟩,
  ⟨X1,PySem.W.mg_of X G aX1,fun c Ca e=>mz em1 e⟩,
  ⟨X2,rfl,PySem.W.mg_of X G aX2,ei2⟩,
  ⟨X2,PySem.W.mg_of X G aX2,fun c Ca e=>mz em2 e⟩,
  ⟨X3,rfl,PySem.W.mg_of X G aX3,ei3⟩,
  ⟨X3,PySem.W.mg_of X G aX3,fun c Ca e=>mz em3 e⟩,
  ⟨X4,rfl,PySem.W.mg_of X G aX4,ei4⟩,
  ⟨X4,PySem.W.mg_of X G aX4,fun c Ca e=>mz em4 e⟩,
  ⟨X5,rfl,PySem.W.mg_of X G aX5,ei5⟩,
  ⟨X5,PySem.W.mg_of X G aX5,fun c Ca e=>mz em5 e⟩⟩
 obtain⟨oc,od,kV,dc,pm,an,cd,ct,sl,rfl,_,_⟩:=p61.ex
 refine⟨PySem.W.fnOf "law" "law" (ml rE) (gO rE) (ai rE) .none kV dc pm an cd ct,fun s v=>.of_eq rfl,(clF [C0,C1,C2,C3,C4] [X0,X1,X2,X3,X4,X5]),fun base _ _=>?_⟩
 have Gx26:=eY (wm l.prog w mg base p0 Z) p0 (PySem.W.mg_of X G a0) (p0.binds (by walk_at "b2"))
 have Gx27:=eY (yF l.prog w mg base p1 Z) p1 (PySem.W.mg_of X G a1) (p1.binds (by walk_at "b1"))
 have Gx28:=eY (oR l.prog w mg base p2 Z) p2 (PySem.W.mg_of X G a2) (p2.binds (by walk_at "b3"))
 have Gx29:=uR (C:=0) (sI l.prog w mg base p3 Z) rfl ⟨mk0,a3,i3,kc0⟩ (PySem.W.mg_of X G aC0) (p3.binds (by walk_at "b3"))
 have Gx11:=bC (C:=0) (nX l.prog w mg base p4 Z) rfl cC0 ⟨a4,i4,p4.kp⟩ (p4.binds (by walk_at "b1")) (by walk_at "nm")
 have Gx12:=bC (C:=0) (kQ l.prog w mg base p5 Z Gx11) rfl cC0 ⟨a5,i5,p5.kp⟩ (p5.binds (by walk_at "b2")) (by walk_at "nm")
 have Gx13:=bC (C:=0) (qA l.prog w mg base p6 Z Gx12) rfl cC0 ⟨a6,i6,p6.kp⟩ (p6.binds (by walk_at "b2")) (by walk_at "nm")
 have Gx30:=bC (C:=0) (kM l.prog w mg base p7 Z Gx13) rfl cC0 ⟨a7,i7,p7.kp⟩ (p7.binds (by walk_at "b2")) (by walk_at "nm")
 have Gx31:=bC (C:=0) (lz l.prog w mg base p8 Z Gx13) rfl cC0 ⟨a8,i8,p8.kp⟩ (p8.binds (by walk_at "b1")) (by walk_at "nm")
 have Gx14:=bC (C:=0) (kK l.prog w mg base p9 Z) rfl cC0 ⟨a9,i9,p9.kp⟩ (p9.binds (by walk_at "b1")) (by walk_at "nm")
 have Gx32:=bC (C:=0) (li l.prog w mg base p10 Z Gx11 Gx14) rfl cC0 ⟨a10,i10,p10.kp⟩ (p10.binds (by walk_at "b1")) (by walk_at "nm")
 have Gx33:=bC (C:=0) (nW l.prog w mg base p11 Z Gx14) rfl cC0 ⟨a11,i11,p11.kp⟩ (p11.binds (by walk_at "b1")) (by walk_at "nm")
 have Gx34:=bC (C:=0) (pG l.prog w mg base p12 Z Gx27 Gx28) rfl cC0 ⟨a12,i12,p12.kp⟩ (p12.binds (by walk_at "b1")) (by walk_at "nm")
 have Gx35:=bC (C:=0) (rP l.prog w mg base p13 Z Gx26 Gx12 Gx34) rfl cC0 ⟨a13,i13,p13.kp⟩ (p13.binds (by walk_at "b2")) (by walk_at "nm")
 have Gx36:=uR (C:=1) (pV l.prog w mg base p14 Z) rfl ⟨mk1,a14,i14,kc1⟩ (PySem.W.mg_of X G aC1) (p14.binds (by walk_at "b1"))
 have Gx37:=bC (C:=1) (pZ l.prog w mg base p15 Z) rfl cC1 ⟨a15,i15,p15.kp⟩ (p15.binds (by walk_at "b1")) (by walk_at "nm")
 have Gx38:=bC (C:=1) (pK l.prog w mg base p16 Z) rfl cC1 ⟨a16,i16,p16.kp⟩ (p16.binds (by walk_at "b1")) (by walk_at "nm")
 have Gx39:=bC (C:=1) (pF l.prog w mg base p17 Z) rfl cC1 ⟨a17,i17,p17.kp⟩ (p17.binds (by walk_at "b2")) (by walk_at "nm")
 have Gx40:=bC (C:=1) (kL l.prog w mg base p18 Z Gx39) rfl cC1 ⟨a18,i18,p18.kp⟩ (p18.binds (by walk_at "b2")) (by walk_at "nm")
 have Gx41:=uR (C:=2) (sY l.prog w mg base p19 Z Gx29 Gx36) rfl ⟨mk2,a19,i19,kc2⟩ (PySem.W.mg_of X G aC2) (p19.binds (by walk_at "b3"))
 have Gx1:=bC (C:=2) (nU l.prog w mg base p20 Z) rfl cC2 ⟨a20,i20,p20.kp⟩ (p20.binds (by walk_at "b2")) (by walk_at "nm")
 have Gx5:=bC (C:=2) (l0 l.prog w mg base p21 Z) rfl cC2 ⟨a21,i21,p21.kp⟩ (p21.binds (by walk_at "b2")) (by walk_at "nm")
 have Gx3:=bC (C:=2) (rY l.prog w mg base p22 Z) rfl cC2 ⟨a22,i22,p22.kp⟩ (p22.binds (by walk_at "b2")) (by walk_at "nm")
 have Gx42:=bC (C:=2) (qB l.prog w mg base p23 Z Gx30 Gx1 Gx3) rfl cC2 ⟨a23,i23,p23.kp⟩ (p23.binds (by walk_at "b3")) (by walk_at "nm")
 have Gx43:=bC (C:=2) (sG l.prog w mg base p24 Z Gx31 Gx1 Gx3) rfl cC2 ⟨a24,i24,p24.kp⟩ (p24.binds (by walk_at "b2")) (by walk_at "nm")
 have Gx44:=bC (C:=2) (qf l.prog w mg base p25 Z Gx32 Gx1 Gx3) rfl cC2 ⟨a25,i25,p25.kp⟩ (p25.binds (by walk_at "b2")) (by walk_at "nm")
 have Gx45:=bC (C:=2) (qK l.prog w mg base p26 Z Gx33 Gx1) rfl cC2 ⟨a26,i26,p26.kp⟩ (p26.binds (by walk_at "b2")) (by walk_at "nm")
 have Gx46:=bC (C:=2) (kN l.prog w mg base p27 Z Gx37 Gx5) rfl cC2 ⟨a27,i27,p27.kp⟩ (p27.binds (by walk_at "b2")) (by walk_at "nm")
 have Gx47:=bC (C:=2) (kP l.prog w mg base p28 Z Gx38 Gx5) rfl cC2 ⟨a28,i28,p28.kp⟩ (p28.binds (by walk_at "b2")) (by walk_at "nm")
 have Gx48:=bC (C:=2) (iF l.prog w mg base p29 Z Gx40) rfl cC2 ⟨a29,i29,p29.kp⟩ (p29.binds (by walk_at "b2")) (by walk_at "nm")
 have Gx49:=bC (C:=2) (jT l.prog w mg base p30 Z Gx35 Gx3) rfl cC2 ⟨a30,i30,p30.kp⟩ (p30.binds (by walk_at "b2")) (by walk_at "nm")
 have Gx6:=bC (C:=2) (s9 l.prog w mg base p31 Z Gx48 Gx49) rfl cC2 ⟨a31,i31,p31.kp⟩ (p31.binds (by walk_at "b3")) (by walk_at "nm")
 have Gx50:=bC (C:=2) (qG l.prog w mg base p32 Z Gx6) rfl cC2 ⟨a32,i32,p32.kp⟩ (p32.binds (by walk_at "b3")) (by walk_at "nm")
 have Gx51:=bC (C:=2) (jn l.prog w mg base p33 Z) rfl cC2 ⟨a33,i33,p33.kp⟩ (p33.binds (by walk_at "b3")) (by walk_at "nm")
 have Gx52:=bC (C:=2) (jo l.prog w mg base p34 Z Gx1 Gx5 Gx6 Gx51) rfl cC2 ⟨a34,i34,p34.kp⟩ (p34.binds (by walk_at "b3")) (by walk_at "nm")
 have Gx53:=bC (C:=2) (qJ l.prog w mg base p35 Z Gx6) rfl cC2 ⟨a35,i35,p35.kp⟩ (p35.binds (by walk_at "b1")) (by walk_at "nm")
 have Gx54:=uR (C:=3) (sx l.prog w mg base p36 Z) rfl ⟨mk3,a36,i36,kc3⟩ (PySem.W.mg_of X G aC3) (p36.binds (by walk_at "b5"))
 have Gx55:=bC (C:=3) (sy l.prog w mg base p37 Z) rfl cC3 ⟨a37,i37,p37.kp⟩ (p37.binds (by walk_at "b1")) (by walk_at "nm")
 have Gx56:=uR (C:=4) (qx l.prog w mg base p38 Z Gx41) rfl ⟨mk4,a38,i38,kc4⟩ (PySem.W.mg_of X G aC4) (p38.binds (by walk_at "b3"))
 have Gx57:=bC (C:=4) (lE l.prog w mg base p39 Z Gx54) rfl cC4 ⟨a39,i39,p39.kp⟩ (p39.binds (by walk_at "b4")) (by walk_at "nm")
 have Gx58:=bC (C:=4) (mr l.prog w mg base p40 Z) rfl cC4 ⟨a40,i40,p40.kp⟩ (p40.binds (by walk_at "b3")) (by walk_at "nm")
 have Gx59:=bC (C:=4) (k7 l.prog w mg base p41 Z Gx58) rfl cC4 ⟨a41,i41,p41.kp⟩ (p41.binds (by walk_at "b2")) (by walk_at "nm")
 have Gx60:=bC (C:=4) (qo l.prog w mg base p42 Z Gx42 Gx43 Gx44 Gx45 Gx46 Gx47 Gx50 Gx52 Gx53 Gx57 Gx59) rfl cC4 ⟨a42,i42,p42.kp⟩ (p42.binds (by walk_at "b2")) (by walk_at "nm")
 have Gx61:=bC (C:=4) (g9 l.prog w mg base p43 Z Gx60) rfl cC4 ⟨a43,i43,p43.kp⟩ (p43.binds (by walk_at "b2")) (by walk_at "nm")
 have Gx62:=bC (C:=4) (jI l.prog w mg base p44 Z) rfl cC4 ⟨a44,i44,p44.kp⟩ (p44.binds (by walk_at "b1")) (by walk_at "nm")
 have Gx63:=bC (C:=4) (nT l.prog w mg base p45 Z Gx61 Gx62) rfl cC4 ⟨a45,i45,p45.kp⟩ (p45.binds (by walk_at "b2")) (by walk_at "nm")
 have Gx64:=eY (sS l.prog w mg base p46 Z Gx55 Gx56 Gx63) p46 (PySem.W.mg_of X G a46) (p46.binds (by walk_at "b3"))
 have Gx7:=eY (Bc l.prog w mg base p47 Z) p47 (PySem.W.mg_of X G a47) (p47.binds (by walk_at "b1"))
 have Gx65:=eY (Gj l.prog w mg base p48 Z) p48 (PySem.W.mg_of X G a48) (p48.binds (by walk_at "b2"))
 have Gx66:=eY (uc l.prog w mg base p49 Z) p49 (PySem.W.mg_of X G a49) (p49.binds (by walk_at "b2"))
 have Gx67:=eY (vB l.prog w mg base p50 Z Gx66) p50 (PySem.W.mg_of X G a50) (p50.binds (by walk_at "b4"))
 have Gx68:=eY (vF l.prog w mg base p51 Z) p51 (PySem.W.mg_of X G a51) (p51.binds (by walk_at "b3"))
 have Gx69:=eY (Af l.prog w mg base p52 Z Gx67 Gx68) p52 (PySem.W.mg_of X G a52) (p52.binds (by walk_at "b3"))
 have Gx15:=eY (tO l.prog w mg base p53 Z Gx7) p53 (PySem.W.mg_of X G a53) (p53.binds (by walk_at "b1"))
 have Gx70:=eY (v9 l.prog w mg base p54 Z Gx7 Gx15) p54 (PySem.W.mg_of X G a54) (p54.binds (by walk_at "b1"))
 have Gx71:=eY (vV l.prog w mg base p55 Z Gx7) p55 (PySem.W.mg_of X G a55) (p55.binds (by walk_at "b1"))
 have Gx72:=eY (rK l.prog w mg base p56 Z Gx15 Gx70 Gx71) p56 (PySem.W.mg_of X G a56) (p56.binds (by walk_at "b2"))
 have Gx73:=eY (tY l.prog w mg base p57 Z Gx64 Gx72) p57 (PySem.W.mg_of X G a57) (p57.binds (by walk_at "b3"))
 have Gx74:=eY (vN l.prog w mg base p58 Z) p58 (PySem.W.mg_of X G a58) (p58.binds (by walk_at "b2"))
 have Gx75:=eY (qe l.prog w mg base p59 Z) p59 (PySem.W.mg_of X G a59) (p59.binds (by walk_at "b3"))
 have Gx76:=eY (oZ l.prog w mg base p60 Z) p60 (PySem.W.mg_of X G a60) (p60.binds (by walk_at "b2"))
 exact DO _ _ _ _ p61 Z Gx65 Gx69 Gx73 Gx74 Gx75 Gx76
def walk{l:PySem.W.OpenLaw}{q:Program}{loose:List Str}{XP:(Str->Option Value)->Heap->Prop}{YP:World->Heap->Prop}{d:DefRec}{K:Params->PySem.W.Frag}(hn:l.most=some 63)(hdf:d.params.defaults=[])
 (hY:∀(w:World) (h:Heap),YP w h->(K w.params).In h) (hl:∀ns:List Int,ns.length<=63->M3.run (pP [.ref 0]) [.frz (ns.map M3.D.int)] (fun d _=>d= .bl true) fun _ _=>False)
 (F:∀(w:World) (mg:Str->Option Value) (fa:Addr) (h:Heap),(K w.params).In h->h.Ns mainGlobals mg->mg d.name=some (.ref fa)->
   ∃fd:FuncData,(∀(s:Shared) (u:Value),BindsTo s fd ⟨[u],[]⟩ [("_law_script",u)])/\∃cl,∀base:Heap,(K w.params).In base->base.Ns mainGlobals mg->aT l.prog w (K w.params) mg base CX0 12 fa fd ["_law_script"] (sp3 (TT cl) (K w.params) 1 pP)):
 PySem.W.WalkO q loose XP YP l.row.toRowW d [] (fun f vs=>PySem.call f vs):=
 L2.B9 (n:=63) (k:=12) (x:="_law_script") (CX:=fun _=>CX0) (sp:=fun w=>Ay nmF (K w.params) 1 pP) hn (by decide) hdf ⟨rfl,by decide,by decide⟩ hY (fun w mg fa h a b c=>let ⟨fd,h1,cl,h2⟩:=F w mg fa h a b c;⟨fd,h1,fun base h3 h4=>DG (h2 base h3 h4)⟩) (fun _ _ a ns h1 h2 h3=>BZ hl h1 h2 h3) fun _ _ _ _ _ z=>z
end LK
open PySem PySem.W PyProof.Rows
namespace PySem.W.Fast
def tw1715657647583581702:=0
def tw9372065908402225230:=0
def tw17647810848476289337:=0
def tw11122137218102791690:=0
def tw9367162927515270831:=0
def tw2206604911191476172:=0
def tw4158381920193548784:=0
def tw3887652740628533926:=0
def tw3350780418845124726:=0
def tw5397201830911568719:=0
def tw11085693636581746903:=0
def tw17479278090863251233:=0
def tw11423583523713717818:=0
def tw2970554886639461981:=0
def tw12866240728897981396:=0
def tw3883812305856096178:=0
def tw13104168820142826437:=0
def tw9675595529293659522:=0
def tw6445828967873129270:=0
def tw17765649907094743654:=0
def tw2380609863493944450:=0
def tw678539365893148500:=0
def tw17966756579170270960:=0
def tw11640541695299472576:=0
def tw18283068876461466076:=0
def tw1496042246616339765:=0
def tw11006051499146511685:=0
def tw11920249021028221976:=0
def tw15578409347649400825:=0
def tw14066584751410664735:=0
def tw1336072217347869159:=0
def tw860166785581718013:=0
def tw7389188150383466923:=0
def tw14596198105991711555:=0
def tw17581814530733058067:=0
def tw1089657312056729850:=0
def tw4267946970665328007:=0
def tw17785901978066229215:=0
def tw16008262422862522383:=0
def tw7397047357057316406:=0
def tw18364556524768635360:=0
def tw7064628484786792082:=0
def tw952942842696060546:=0
def tw7673156787273688210:=0
def tw12075454079356931606:=0
def tw7415185339726242455:=0
def tw13215931426283705011:=0
def tw3217274060405554996:=0
def tw4914340911105204204:=0
def tw16505217943579478801:=0
def tw9122231977586636779:=0
def tw8521599621640691145:=0
def tw6583540645261467577:=0
def tw5570616368580619884:=0
def tw16559291298088011513:=0
def tw17650428490199483161:=0
def tw2363144243879303952:=0
def tw11474440349356179735:=0
def tw4409352762123029402:=0
def tw11193173857697407740:=0
def tw14059791996004102978:=0
def tw6460235337670955179:=0
def tw5509777948976436569:=0
def tw6406379868456944556:=0
def tw17896350231593736513:=0
def tw11798498524811428037:=0
def tw17829072247766140019:=0
def tw15376229046471050909:=0
def tw232224236933054266:=0
def tw10576040033962159517:=0
def tw8566331942305191814:=0
def tw11422191797805059529:=0
def tw6318761803201329773:=0
def tw1833955280898176680:=0
def tw3074245402782878809:=0
def tw11749525567497773084:=0
def tw1042632869217237558:=0
def tw3184456502745893346:=0
def tw3167983302175495591:=0
def tw9860933278460697507:=0
def tw23948018967341151:=0
def tw2402908494804883931:=0
def tw8895257628008456116:=0
def tw16338506211303610221:=0
def tw6642846043473221803:=0
def tw9241128078517352178:=0
def tw12216828139998950127:=0
def tw8235685869622494175:=0
def tw9119974648923250487:=0
def tw2169282988717769921:=0
def tw17091505885951877182:=0
def tw9230333380585967047:=0
def tw689329888272234911:=0
def tw13642291090201461866:=0
def tw17010328109364005483:=0
def tw15930769491758427321:=0
def tw3902414227578416397:=0
def tw11878742645978420021:=0
def tw17059941974340793616:=0
def tw9928270499167363479:=0
def tw2732082751188024537:=0
def tw9376378836681081380:=0
def tw10556725206916204091:=0
def tw13121715943832264234:=0
def tw366304242588386355:=0
def tw15038046052862546862:=0
def tw6204469405135337439:=0
def tw2678472215225330698:=0
def tw10002333709223186985:=0
def tw3684681667994470765:=0
def tw10172575308437013676:=0
def tw8200786858343151544:=0
def tw10329337665995795867:=0
def tw15415510955812858151:=0
def tw16520589755276128701:=0
def tw2471216883763792319:=0
def tw8360679688178025867:=0
def tw4745763096767858532:=0
def tw14506259413199647528:=0
def tw11453419752122833280:=0
def tw1124172524533486441:=0
def tw13948935053655678766:=0
def tw31353962407875489:=0
def tw12176994966897711422:=0
def tw13034242535012007492:=0
def tw12546348863037327797:=0
def tw2661771619478046676:=0
def tw7602305435669431874:=0
def tw8423102546828347843:=0
def tw16417721891092974704:=0
def tw17927451974834637633:=0
def tw11700261027260320068:=0
def tw13892653417037428759:=0
def tw4327222108559873749:=0
def tw6441635805390781333:=0
def tw6157246836104559021:=0
def tw7800980186802169061:=0
def tw16096445302797044157:=0
def tw6415307313855525224:=0
def tw16255404327761099519:=0
def tw10206591533635212470:=0
def tw14438264179396729756:=0
end PySem.W.Fast
set_option maxRecDepth 100000 in
set_option maxHeartbeats 0 in
theorem PySem.Challenge.cw_halfask_k04_whole_stamps_holds : PySem.Challenge.rw_halfask_k04_whole_stamps.Holds := by
 w_on;o_law;k_head;(case hw=>w_witness2)
 k_fill
 refine LK.walk (l:=PySem.Challenge.rw_halfask_k04_whole_stamps) rfl rfl (fun w h Y=>PySem.W.kIn_of Y) KS.zF ?F
 case F=>
  intro w mg fa h KX G hmg
  refine' LK.all_mk KX G hmg ?g_BEGINNING ?aC0 ?cC0 ?mk0 ?kc0 ?na0 ?aC1 ?cC1 ?mk1 ?kc1 ?na1 ?aC2 ?cC2 ?mk2 ?kc2 ?na2 ?aC3 ?cC3 ?mk3 ?kc3 ?na3 ?aC4 ?cC4 ?mk4 ?kc4 ?na4 ?aX0 ?ei0 ?aX1 ?ei1 ?aX2 ?ei2 ?aX3 ?ei3 ?aX4 ?ei4 ?aX5 ?ei5 ?em1 ?em2 ?em3 ?em4 ?em5 ?a0 ?p0 ?a1 ?p1 ?a2 ?p2 ?a3 ?p3 ?i3 ?a4 ?p4 ?i4 ?a5 ?p5 ?i5 ?a6 ?p6 ?i6 ?a7 ?p7 ?i7 ?a8 ?p8 ?i8 ?a9 ?p9 ?i9 ?a10 ?p10 ?i10 ?a11 ?p11 ?i11 ?a12 ?p12 ?i12 ?a13 ?p13 ?i13 ?a14 ?p14 ?i14 ?a15 ?p15 ?i15 ?a16 ?p16 ?i16 ?a17 ?p17 ?i17 ?a18 ?p18 ?i18 ?a19 ?p19 ?i19 ?a20 ?p20 ?i20 ?a21 ?p21 ?i21 ?a22 ?p22 ?i22 ?a23 ?p23 ?i23 ?a24 ?p24 ?i24 ?a25 ?p25 ?i25 ?a26 ?p26 ?i26 ?a27 ?p27 ?i27 ?a28 ?p28 ?i28 ?a29 ?p29 ?i29 ?a30 ?p30 ?i30 ?a31 ?p31 ?i31 ?a32 ?p32 ?i32 ?a33 ?p33 ?i33 ?a34 ?p34 ?i34 ?a35 ?p35 ?i35 ?a36 ?p36 ?i36 ?a37 ?p37 ?i37 ?a38 ?p38 ?i38 ?a39 ?p39 ?i39 ?a40 ?p40 ?i40 ?a41 ?p41 ?i41 ?a42 ?p42 ?i42 ?a43 ?p43 ?i43 ?a44 ?p44 ?i44 ?a45 ?p45 ?i45 ?a46 ?p46 ?a47 ?p47 ?a48 ?p48 ?a49 ?p49 ?a50 ?p50 ?a51 ?p51 ?a52 ?p52 ?a53 ?p53 ?a54 ?p54 ?a55 ?p55 ?a56 ?p56 ?a57 ?p57 ?a58 ?p58 ?a59 ?p59 ?a60 ?p60 ?a61 ?p61 ?z_max ?z_range ?z_list ?z_len ?z_enumerate ?z_int ?z_isinstance ?z_bool ?z_tuple ?z_str ?l_BEGINNING_1 ?l_BEGINNING
  (case g_BEGINNING |l_BEGINNING |l_BEGINNING_1 |aC0 |aC1 |aC2 |aC3 |aC4 |aX0 |aX1 |aX2 |aX3 |aX4 |aX5=>k_is)
  (case na0 |na1 |na2 |na3 |na4 |ei0 |ei1 |ei2 |ei3 |ei4 |ei5 |em1 |em2 |em3 |em4 |em5=>kernel_rfl)
  (case cC0 |cC1 |cC2 |cC3 |cC4=>(refine⟨?_,?_,?_,?_⟩ <;> k_is))
  (case a0 |a1 |a2 |a3 |a4 |a5 |a6 |a7 |a8 |a9 |a10 |a11 |a12 |a13 |a14 |a15 |a16 |a17 |a18 |a19 |a20 |a21 |a22 |a23 |a24 |a25 |a26 |a27 |a28 |a29 |a30 |a31 |a32 |a33 |a34 |a35 |a36 |a37 |a38 |a39 |a40 |a41 |a42 |a43 |a44 |a45 |a46 |a47 |a48 |a49 |a50 |a51 |a52 |a53 |a54 |a55 |a56 |a57 |a58 |a59 |a60 |a61=>k_is)
  (case p0 |p1 |p2 |p3 |p4 |p5 |p6 |p7 |p8 |p9 |p10 |p11 |p12 |p13 |p14 |p15 |p16 |p17 |p18 |p19 |p20 |p21 |p22 |p23 |p24 |p25 |p26 |p27 |p28 |p29 |p30 |p31 |p32 |p33 |p34 |p35 |p36 |p37 |p38 |p39 |p40 |p41 |p42 |p43 |p44 |p45 |p46 |p47 |p48 |p49 |p50 |p51 |p52 |p53 |p54 |p55 |p56 |p57 |p58 |p59 |p60 |p61=>(refine' L2.D9 ?l ?c ?k;(case l=>k_is);(case c=>k_is);(case k=>k_is)))
  (case mk0 |kc0 |mk1 |kc1 |mk2 |kc2 |mk3 |kc3 |mk4 |kc4 |i3 |i4 |i5 |i6 |i7 |i8 |i9 |i10 |i11 |i12 |i13 |i14 |i15 |i16 |i17 |i18 |i19 |i20 |i21 |i22 |i23 |i24 |i25 |i26 |i27 |i28 |i29 |i30 |i31 |i32 |i33 |i34 |i35 |i36 |i37 |i38 |i39 |i40 |i41 |i42 |i43 |i44 |i45 |z_max |z_range |z_list |z_len |z_enumerate |z_int |z_isinstance |z_bool |z_tuple |z_str=>k_is)

