import PyProof.Rows.All
import Wide.All
import OpenK.AllK
import Wide.FinOn
import Lean
import PyProof.EqAt
import PyProof.EqKinds
import PyProof.NeKinds
import PyProof.TupleCall
import PyProof.ExcBaseAll.ValueError
import KE.KDictList
import KE.KTryMore
import PyProof.EnumMake
import PyProof.Rows.EnumRows
import PyProof.Rows.FactsT2
import KE.KRevIter
import PyProof.DictItems
import PyProof.FactsAll.dict_3
import PyProof.FactsAll.dict_itemiterator_1
import OpenK.KOwn
import PyProof.StrBlock2
import KE.IntText
import PyProof.Rows.TupDisplay
import PySem.Challenge.RW_halfask_k09_whole_late_letters
set_option Elab.async false
set_option linter.all false
set_option maxRecDepth 100000
set_option maxHeartbeats 4000000
def qA_:=@List.getElem?_eq_getElem
def qB_:=@List.getElem?_eq_some_iff
def qC_:=@Bool.false_ne_true
def qD_:=@List.mem_of_getElem?
def qE_:=@List.mem_append_right
def qF_:=@List.mem_append_left
def qG_:=@List.mem_append
def qH_:=@List.mem_map
def qI_:=@List.mem_cons_self
def qJ_:=@List.getElem?_set
def qK_:=@List.getElem?_append_left
def qL_:=@List.getElem?_append_right
def qM_:=@List.length_map
def qN_:=@List.length_append
def qO_:=@Nat.le_refl
def qP_:=@Nat.le_of_ble_eq_true
def qQ_:=@List.getElem?_map
def qR_:=@List.mem_cons_of_mem
def qS_:=@List.mem_cons
def qT_:=@List.map_append
def qU_:=@List.getElem?_set_self
def qV_:=@List.getElem?_set_ne
def qW_:=@List.size_toArray
def qX_:=@List.length_set
def qY_:=@List.append_nil
def qZ_:=@decide_eq_true
def qa_:=@decide_eq_false
def qb_:=@List.map_map
def qc_:=@List.nil_append
def qd_:=@Nat.lt_of_lt_of_le
def qe_:=@Nat.lt_irrefl
def qf_:=@Nat.zero_le
namespace L2
open PySem PySem.Spec PyProof.Rows
abbrev Key:=Sum Int Str
def qB:Key->Value->Bool
 | .inl k,v=>Value.isInt k v
 | .inr x,v=>Value.isStrOf x v
def Ko(w:World):Key->Int
 | .inl k=>hashInt k
 | .inr x=>hashStr w x
theorem bQ:∀{k:Key} {v:Value},qB k v=true->(∃i t,k=Sum.inl i/\v=Value.int i t)\/(∃x t,k=Sum.inr x/\v=Value.str x t)
 | .inl i,v,h=>by
   obtain⟨t,e⟩:=Value.isInt_shape (k:=i) (v:=v) h
   exact .inl ⟨i,t,rfl,e⟩
 | .inr x,v,h=>by
   obtain⟨t,e⟩:=Value.isStrOf_shape (x:=x) (v:=v) h
   exact .inr ⟨x,t,rfl,e⟩
theorem yZ(i:Int)(t:Tok):qB (.inl i) (.int i t)=true:=by simp [qB,Value.isInt]
theorem zH(x:Str)(t:Tok):qB (.inr x) (.str x t)=true:=by simp [qB,Value.isStrOf]
theorem GR(a b:Int):decide ((Sum.inl a:Key)=Sum.inl b)=(a==b):=by
 by_cases e:a=b
 · subst e;simp
 · have h:¬(Sum.inl a:Key)=Sum.inl b:=fun q=>e (Sum.inl.inj q)
   rw[qa_ h]
   exact(beq_eq_false_iff_ne.mpr e).symm
theorem FL(a b:Str):decide ((Sum.inr a:Key)=Sum.inr b)=decide (a=b):=by
 by_cases e:a=b
 · subst e;simp
 · have h:¬(Sum.inr a:Key)=Sum.inr b:=fun q=>e (Sum.inr.inj q)
   rw[qa_ h,qa_ e]
theorem FN(a:Int)(b:Str):decide ((Sum.inl a:Key)=Sum.inr b)=false:=qa_ (fun q=>nomatch q)
theorem Fx(a:Str)(b:Int):decide ((Sum.inr a:Key)=Sum.inl b)=false:=qa_ (fun q=>nomatch q)
def bN(prog:Program)(w:World):PySem.KeyKind prog w Key where
 is:=qB
 hash:=Ko w
 inj:=fun v a b ha hb=>by
  rcases bQ ha with ⟨i,t,rfl,rfl⟩ |⟨x,t,rfl,rfl⟩
  · rcases bQ hb with ⟨j,u,rfl,e⟩ |⟨y,u,rfl,e⟩
    · injection e with e1 _;rw[e1]
    · exact nomatch e
  · rcases bQ hb with ⟨j,u,rfl,e⟩ |⟨y,u,rfl,e⟩
    · exact nomatch e
    · injection e with e1 _;rw[e1]
 byValue:=fun k v h=>by
  rcases bQ h with ⟨i,t,rfl,rfl⟩ |⟨x,t,rfl,rfl⟩ <;> rfl
 pyHash:=fun hv h=>by
  rcases bQ hv with ⟨i,t,rfl,rfl⟩ |⟨x,t,rfl,rfl⟩
  · exact wpAny_pyHash_int h
  · exact wpAny_pyHash_str h
 eqBool:=fun hu hv h=>by
  rcases bQ hu with ⟨i,t,rfl,rfl⟩ |⟨x,t,rfl,rfl⟩
  · rcases bQ hv with ⟨j,u,rfl,rfl⟩ |⟨y,u,rfl,rfl⟩
    · rw[GR]at h;exact wpAny_eqBool_int h
    · rw[FN]at h;exact SeqAt.EqAt.int_str i t y u _ _ _ _ h
  · rcases bQ hv with ⟨j,u,rfl,rfl⟩ |⟨y,u,rfl,rfl⟩
    · rw[Fx]at h;exact SeqAt.EqAt.str_int x t j u _ _ _ _ h
    · rw[FL]at h;exact wpAny_eqBool_str h
 «strs»:=fun k x t v h=>by
  rcases bQ h with ⟨i,u,rfl,e⟩ |⟨y,u,rfl,e⟩
  · exact nomatch e
  · injection e with e1 _
    subst e1
    cases v <;> rfl
theorem uQ(prog:Program)(w:World)(i:Int)(t:Tok):(bN prog w).is (.inl i) (.int i t)=true:=yZ i t
theorem vQ(prog:Program)(w:World)(x:Str)(t:Tok):(bN prog w).is (.inr x) (.str x t)=true:=zH x t
inductive V where
 |non |bl (b:Bool) |int (i:Int) |str (x:Str) |byt (b:Array UInt8) |flt (b:UInt64) |ref (a:Addr) |ty (n:String)
 deriving DecidableEq
def RelV:V->Value->Prop
 | .non,u=>u=Value.none
 | .bl b,u=>u=Value.bool b
 | .int i,u=>∃t,u=Value.int i t
 | .str x,u=>∃t,u=Value.str x t
 | .byt b,u=>∃t,u=Value.bytes b t
 | .flt b,u=>∃t,u=Value.float b t
 | .ref a,u=>u=Value.ref a
 | .ty n,u=>u=Value.type n
abbrev Vals:List V->List Value->Prop:=Paired RelV
theorem Vals.length{xs:List V}{us:List Value}(r:Vals xs us):xs.length=us.length:=Paired.length r
theorem Vals.get:∀{xs:List V} {us:List Value} {i:Nat} {x:V},Vals xs us->xs[i]? =some x->∃u,us[i]? =some u/\RelV x u
 |_,_,_,_,.nil,e=>by simp at e
 |_,_,0,_,.cons r _,e=>by simp at e;subst e;exact⟨_,rfl,r⟩
 |_,_,i+1,x,.cons _ t,e=>by
  obtain⟨u,h1,h2⟩:=Vals.get (i:=i) (x:=x) t (by simpa using e)
  exact⟨u,by simpa using h1,h2⟩
theorem Vals.set{x:V}{u:Value}(r:RelV x u):∀{xs:List V} {us:List Value} (i:Nat),Vals xs us->Vals (xs.set i x) (us.set i u)
 |_,_,_,.nil=>.nil
 |_,_,0,.cons _ t=>.cons r t
 |_,_,i+1,.cons q t=>.cons q (Vals.set r i t)
theorem Vals.append:∀{xs ys:List V} {us ws:List Value},Vals xs us->Vals ys ws->Vals (xs++ys) (us++ws)
 |_,_,_,_,.nil,s=>s
 |_,_,_,_,.cons r t,s=>.cons r (Vals.append t s)
theorem Vals.take:∀{xs:List V} {us:List Value} (n:Nat),Vals xs us->Vals (xs.take n) (us.take n)
 |_,_,0,_=>.nil
 |_,_,_+1,.nil=>.nil
 |_,_,n+1,.cons r t=>.cons r (Vals.take n t)
theorem Vals.drop:∀{xs:List V} {us:List Value} (n:Nat),Vals xs us->Vals (xs.drop n) (us.drop n)
 |_,_,0,r=>r
 |_,_,_+1,.nil=>.nil
 |_,_,n+1,.cons _ t=>Vals.drop n t
def lu:Option V->Option Value->Prop
 |some v,some u=>RelV v u
 |none,none=>True
 |_,_=>False
def KV{κ:Type}:List (κ×V)->List (κ×Value)->Prop:=Paired fun(p:κ×V) (q:κ×Value)=>p.1=q.1/\RelV p.2 q.2
def kV:Key->V
 | .inl i=>.int i
 | .inr x=>.str x
inductive HO where
 /-- a list -/
 |lst (xs:List V)
 /-- a tuple (never changes) -/
 |tup (xs:List V)
 /-- a dict whose keys are ints and texts;one whose keys are tuples of ints and texts (the empty one is both) -/
 |dK (kvs:List (Key×V)) |dT (kvs:List (List Key×V))
 /-- a set of ints:its members,its size -/
 |set (S:Int->Bool) (n:Nat)
 /-- an instance of the class at C,its dict at dx,its attributes -/
 |ins (C dx:Addr) (fs:List (Str×V))
 /-- the dict of the instance at x -/
 |own (x:Addr)
 /-- the dict of an exception -/
 |xd (fs:List (Str×V))
 /-- a bound method,f of x -/
 |met (f x:Addr)
 /-- a range object lo,lo+1,.. below hi -/
 |rng (lo hi:Int)
 /-- a thing that is known to the object (the script;a dict while a loop walks it):read,never written while it is so -/
 |frz (o:Obj) (u:HO)
 /-- a code object's table -/
 |tbl (ps:Array Value)
 /-- any other thing,by what is true of its one object (a def of one's own:SetO a S n:=HO.ext fun h=>..) -/
 |ext (φ:Heap->Prop)
abbrev Hp:=Addr->Option HO
def upd(H:Hp)(a:Addr)(o:HO):Hp:=fun b=>if b=a then some o else H b
theorem aF{H:Hp}{a:Addr}{o:HO}:upd H a o a=some o:=by unfold upd;rw[if_pos rfl]
theorem aE{H:Hp}{a b:Addr}{o:HO}(h:b≠a):upd H a o b=H b:=by unfold upd;rw[if_neg h]
theorem Bg{H:Hp}{a b:Addr}{o u:HO}(h:H a=some o)(h':H b=some u)(d:o≠u):a≠b:=by
 intro e;subst e;rw[h]at h';exact d (Option.some.inj h')
theorem cj{H:Hp}{a b:Addr}{o:HO}(h:H a=some o)(h':H b=none):a≠b:=by
 intro e;subst e;rw[h]at h';cases h'
section
variable(P:Program)(w:World)
def bJ(H:Hp)(h:Heap)(a:Addr):HO->Prop
 | .lst xs=>xs.length<=sizeLine/\∃(its:List Value) (n:Nat),Vals xs its/\h.get? a=some {cls:= .type "list",data:= .seq its.toArray n}
 | .tup xs=>xs.length<=sizeLine/\∃its:List Value,Vals xs its/\IsTup h a its.toArray
 | .dK kvs=>kvs.length<=sizeLine/\(a==sysModules)=false/\∃vs,KV kvs vs/\h.DictOf (bN P w) a vs
 | .dT kvs=>kvs.length<=sizeLine/\(a==sysModules)=false/\∃xs:List (List Key×Addr×Value),
    Paired (fun(p:List Key×V) (q:List Key×Addr×Value)=>p.1=q.1/\H q.2.1=some (.tup (p.1.map kV))/\RelV p.2 q.2.2) kvs xs/\
    ∃o es ep,h.get? a=some o/\o.ExactDict/\o.data= .dict es ep/\es.toList=xs.map (entryOfKey (tupleKind (bN P w)))/\(xs.map (·.1)).Nodup
 | .set S n=>h.SetOf (intKind P w) a S n
 | .ins C dx fs=>H dx=some (.own a)/\fs.length<=1000/\dx≠a/\h.get? a=some (PySem.W.instObj C dx)/\
    ∃mA,h.Ns1 dx mA/\(∀f,lu (fs.lookup f) (mA f))/\PySem.Within mA (fs.map (·.1))
 | .own _=>∃o,h.get? a=some o
 | .xd fs=>∃mA,h.Ns1 a mA/\∀f,lu (fs.lookup f) (mA f)
 | .rng lo hi=>∃t u v,h.get? a=some {cls:= .type "range",data:= .fields #[.int lo t,.int hi u,.int 1 v]}
 | .frz o u=>h.get? a=some o/\bJ H h a u
 | .tbl ps=>h.get? a=some {cls:= .none,data:= .fields ps}
 | .met f x=>h.get? a=some (PySem.W.methodObj (.ref f) (.ref x))
 | .ext φ=>φ h/\(∃o,h.get? a=some o)/\∀h1 h2:Heap,φ h1->(∀o,h1.get? a=some o->h2.get? a=some o)->φ h2
def HOk(H:Hp)(h:Heap):Prop:=∀a o,H a=some o->bJ P w H h a o
end
section
variable{P:Program}{w:World}{H H':Hp}{h h':Heap}{a:Addr}{o:HO}
theorem bJ.lt(x:bJ P w H h a o):a < h.objs.size:=by
 cases o with
 |lst xs=>obtain⟨_,_,_,_,e⟩:=x;exact Heap.lt_size e
 |tup xs=>obtain⟨_,_,_,p⟩:=x;exact p.lt
 |dK kvs=>obtain⟨_,_,_,_,o,_,_,e,_⟩:=x;exact Heap.lt_size e
 |dT kvs=>obtain⟨_,_,_,_,o,_,_,e,_⟩:=x;exact Heap.lt_size e
 |set S n=>obtain⟨o,_,_,_,e,_⟩:=x;exact Heap.lt_size e
 |ins C dx fs=>obtain⟨_,_,_,e,_⟩:=x;exact Heap.lt_size e
 |own y=>obtain⟨_,e⟩:=x;exact Heap.lt_size e
 |xd fs=>obtain⟨_,⟨_,_,_,e,_⟩,_⟩:=x;exact Heap.lt_size e
 |rng lo hi=>obtain⟨_,_,_,e⟩:=x;exact Heap.lt_size e
 |frz ob u=>obtain⟨e,_⟩:=x;exact Heap.lt_size e
 |tbl ps=>exact Heap.lt_size (show h.get? a=some _ from x)
 |met f y=>exact Heap.lt_size (show h.get? a=some _ from x)
 |ext φ=>obtain⟨_,⟨_,e⟩,_⟩:=x;exact Heap.lt_size e
theorem Paired.CI{α β:Type}{F G:α->β->Prop}:∀{l₁:List α} {l₂:List β},Paired F l₁ l₂->(∀a b,F a b->G a b)->Paired G l₁ l₂
 |_,_,.nil,_=>.nil
 |_,_,.cons r t,f=>.cons (f _ _ r) (Paired.CI t f)
theorem Paired.imp'{α β:Type}{F G:α->β->Prop}(f:∀a b,F a b->G a b){l₁:List α}{l₂:List β}(r:Paired F l₁ l₂):Paired G l₁ l₂:=Paired.CI r f
theorem bJ.gO(x:bJ P w H h a o)(k:∀b u,(b=a\/H b=some (.own a))->h.get? b=some u->h'.get? b=some u)
 (ho:∀b,H b=some (.own a)->H' b=some (.own a)) (ht:∀b xs,H b=some (.tup xs)->H' b=some (.tup xs)):bJ P w H' h' a o:=by
 induction o with
 |lst xs=>obtain⟨z,its,n,r,e⟩:=x;exact⟨z,its,n,r,k _ _ (.inl rfl) e⟩
 |tup xs=>obtain⟨z,its,r,ob,e,c⟩:=x;exact⟨z,its,r,ob,k _ _ (.inl rfl) e,c⟩
 |dK kvs=>obtain⟨z,y,vs,r,ob,es,ep,e,c⟩:=x;exact⟨z,y,vs,r,ob,es,ep,k _ _ (.inl rfl) e,c⟩
 |dT kvs=>
  obtain⟨z,y,xs,r,ob,es,ep,e,c⟩:=x
  exact⟨z,y,xs,Paired.CI r fun p q z=>⟨z.1,ht _ _ z.2.1,z.2.2⟩,ob,es,ep,k _ _ (.inl rfl) e,c⟩
 |set S n=>obtain⟨ob,es,ep,t,e,c⟩:=x;exact⟨ob,es,ep,t,k _ _ (.inl rfl) e,c⟩
 |ins C dx fs=>
  obtain⟨d,z,ne,e,mA,⟨od,es,ep,e2,c⟩,r⟩:=x
  exact⟨ho _ d,z,ne,k _ _ (.inl rfl) e,mA,⟨od,es,ep,k _ _ (.inr d) e2,c⟩,r⟩
 |own y=>obtain⟨ob,e⟩:=x;exact⟨ob,k _ _ (.inl rfl) e⟩
 |xd fs=>obtain⟨mA,⟨od,es,ep,e,c⟩,r⟩:=x;exact⟨mA,⟨od,es,ep,k _ _ (.inl rfl) e,c⟩,r⟩
 |rng lo hi=>obtain⟨t,u,v,e⟩:=x;exact⟨t,u,v,k _ _ (.inl rfl) e⟩
 |frz ob u ih=>obtain⟨e,q⟩:=x;exact⟨k _ _ (.inl rfl) e,ih q⟩
 |tbl ps=>
  have e:h.get? a=some {cls:= .none,data:= .fields ps}:=x
  show h'.get? a=some {cls:= .none,data:= .fields ps}
  exact k a _ (.inl rfl) e
 |met f y=>
  have e:h.get? a=some (PySem.W.methodObj (.ref f) (.ref y)):=x
  show h'.get? a=some (PySem.W.methodObj (.ref f) (.ref y))
  exact k a _ (.inl rfl) e
 |ext φ=>obtain⟨p,⟨o,e⟩,st⟩:=x;exact⟨st _ _ p fun o q=>k _ _ (.inl rfl) q,⟨o,k _ _ (.inl rfl) e⟩,st⟩
theorem HOk.lt(x:HOk P w H h)(e:H a=some o):a < h.objs.size:=(x a o e).lt
theorem HOk.fresh(x:HOk P w H h)(e:h.objs.size<=a):H a=none:=by
 cases q:H a with
 |none=>rfl
 |some u=>exact absurd (qd_ (x.lt q) e) (qe_ _)
theorem HOk.kept(x:HOk P w H h)(k:∀b u,h.get? b=some u->h'.get? b=some u):HOk P w H h':=fun a o e=>
 (x a o e).gO (fun b u _ q=>k b u q) (fun _ q=>q) fun _ _ q=>q
theorem HOk.laid(x:HOk P w H h)(k:∀b u,h.get? b=some u->h'.get? b=some u)(hp:h.objs.size<=a)(new:bJ P w (upd H a o) h' a o):HOk P w (upd H a o) h':=fun b u e=>by
 have hn:=x.fresh hp
 by_cases hb:b=a
 · subst hb;rw[aF]at e;cases e;exact new
 · rw[aE hb]at e
   exact(x b u e).gO (fun c v _ q=>k c v q) (fun c q=>by rw[aE (cj q hn)];exact q) fun c xs q=>by rw[aE (cj q hn)];exact q
end
def Rd(H:Hp)(a:Addr)(u:HO):Prop:=H a=some u\/∃o,H a=some (.frz o u)
theorem Rd.ok{P:Program}{w:World}{H:Hp}{h:Heap}{a:Addr}{u:HO}(r:Rd H a u)(x:HOk P w H h):bJ P w H h a u:=by
 rcases r with r |⟨o,r⟩
 · exact x a u r
 · obtain⟨_,q⟩:=x a _ r
   exact q
def Mut:Option HO->Prop
 |some (.lst _)=>True
 |some (.dK _)=>True
 |some (.dT _)=>True
 |some (.set _ _)=>True
 |some (.ins _ _ _)=>True
 |some (.ext _)=>True
 |_=>False
section
variable{P:Program}{w:World}{H:Hp}{h h':Heap}{x e:Addr}{o':HO}
theorem HOk.write(ok:HOk P w H h)(mu:Mut (H x))(he:e=x\/H e=some (.own x))(k:∀b u,b≠e->h.get? b=some u->h'.get? b=some u)(heo:∃u,h'.get? e=some u)
 (new:bJ P w (upd H x o') h' x o'):HOk P w (upd H x o') h':=fun b u q=>by
 have nown:∀c y,H c=some (.own y)->c≠x:=fun c y r z=>by subst z;rw[r]at mu;exact mu
 have ntup:∀c xs,H c=some (.tup xs)->c≠x:=fun c xs r z=>by subst z;rw[r]at mu;exact mu
 by_cases hb:b=x
 · subst hb;rw[aF]at q;cases q;exact new
 · rw[aE hb]at q
   by_cases hbe:b=e
   · have q':H b=some (.own x):=by
      rcases he with z |z
      · exact absurd (hbe.trans z) hb
      · rw[hbe];exact z
     rw[q]at q';cases q'
     obtain⟨v,hv⟩:=heo
     exact⟨v,by rw[hbe];exact hv⟩
   · refine(ok b u q).gO (fun c v hc r=>k c v ?_ r) (fun c r=>by rw[aE (nown c b r)];exact r) fun c xs r=>by rw[aE (ntup c xs r)];exact r
     rcases hc with rfl |hc
     · exact hbe
     · rintro rfl
       rcases he with z |z
       · exact nown c b hc z
       · rw[hc]at z;cases z;exact hb rfl
end
structure Un (fs ex:List Addr) (H H':Hp) (h h':Heap):Prop where
 keep:∀b o,h.get? b=some o->H b=none->b∉fs->b∉ex->h'.get? b=some o
 slot:∀b o,h.get? b=some o->H b=none->b∈fs->b∉ex->∃sl,h'.get? b=some {o with slots:=sl}
 free:∀b o,h.get? b=some o->H b=none->b∉ex->H' b=none
 there:∀b o,h.get? b=some o->b∉ex->∃o',h'.get? b=some o'
 pX:∀b xs,H b=some (.tup xs)->H' b=some (.tup xs)
 oa:∀b o u,H b=some (.frz o u)->H' b=some (.frz o u)
 qA:∀b ps,H b=some (.tbl ps)->∃more,H' b=some (.tbl (ps++more))
section
variable{fs fs' ex ex':List Addr}{H H1 H2:Hp}{h h1 h2 h':Heap}{a x e:Addr}{o:HO}
theorem Un.any(u:Un fs ex H H1 h h1){b:Addr}{ob:Obj}(q:h.get? b=some ob)(n:H b=none)(hx:b∉ex):∃sl,h1.get? b=some {ob with slots:=sl}:=by
 by_cases hb:b∈fs
 · exact u.slot b ob q n hb hx
 · exact⟨ob.slots,u.keep b ob q n hb hx⟩
theorem Un.kept(k:∀b u,h.get? b=some u->h'.get? b=some u):Un fs ex H H h h':=
 ⟨fun b ob q _ _ _=>k b ob q,fun b ob q _ _ _=>⟨ob.slots,k b ob q⟩,fun _ _ _ n _=>n,fun b ob q _=>⟨ob,k b ob q⟩,fun _ _ q=>q,fun _ _ _ q=>q,fun _ ps q=>⟨#[],by rw[q];simp⟩⟩
theorem Un.refl:Un fs ex H H h h:=Un.kept fun _ _ q=>q
theorem Un.laid(k:∀b u,h.get? b=some u->h'.get? b=some u)(hp:h.objs.size<=a)(hn:H a=none):Un fs ex H (upd H a o) h h' where
 keep:=fun b u q _ _ _=>k b u q
 slot:=fun b u q _ _ _=>⟨u.slots,k b u q⟩
 free:=fun b u q n _=>by rw[aE (Nat.ne_of_lt (qd_ (Heap.lt_size q) hp))];exact n
 there:=fun b u q _=>⟨u,k b u q⟩
 pX:=fun b xs q=>by rw[aE (cj q hn)];exact q
 oa:=fun b u xs q=>by rw[aE (cj q hn)];exact q
 qA:=fun b ps q=>⟨#[],by rw[aE (cj q hn),q];simp⟩
theorem Un.write(mu:Mut (H x))(he:e=x\/H e=some (.own x))(k:∀b u,b≠e->h.get? b=some u->h'.get? b=some u)(heo:∃u,h'.get? e=some u):Un fs ex H (upd H x o) h h':=by
 have hx:∀b,H b=none->b≠x:=fun b n z=>by subst z;rw[n]at mu;exact mu
 have hb:∀b,H b=none->b≠e:=fun b n z=>by
  subst z
  rcases he with r |r
  · exact hx b n r
  · rw[n]at r;cases r
 have hm:∀b u,H b=some u->¬Mut (some u)->b≠x:=fun b u q nm z=>by subst z;rw[q]at mu;exact nm mu
 refine⟨fun b u q n _ _=>k b u (hb b n) q,fun b u q n _ _=>⟨u.slots,k b u (hb b n) q⟩,fun b u q n _=>by rw[aE (hx b n)];exact n,fun b u q _=>?_,
  fun b xs q=>by rw[aE (hm b _ q fun z=>z)];exact q,fun b u xs q=>by rw[aE (hm b _ q fun z=>z)];exact q,fun b ps q=>⟨#[],by rw[aE (hm b _ q fun z=>z),q];simp⟩⟩
 by_cases hbe:b=e
 · subst hbe;exact heo
 · exact⟨u,k b u hbe q⟩
end
def trk(h:Heap)(H:Hp):List Addr:=(List.range h.objs.size).filter fun a=>(H a).isSome
def tx(h:Heap)(H:Hp):Heap:=PySem.W.hideAll h (trk h H)
theorem zq(h:Heap)(H:Hp):(tx h H).objs.size=h.objs.size:=PySem.W.hideAll_size _ _
theorem BS{h:Heap}{H:Hp}{b:Addr}{o:Obj}(e:h.get? b=some o)(n:H b=none):(tx h H).get? b=some o:=
 PySem.W.hideAll_get _ e fun hm=>by
  have q:(H b).isSome=true:=(List.mem_filter.mp hm).2
  rw[n]at q;simp at q
theorem C9{h:Heap}{H:Hp}{b:Addr}{o:Obj}(e:(tx h H).get? b=some o):h.get? b=some o/\H b=none:=by
 have e':h.get? b=some o:=PySem.W.of_hideAll (trk h H) e
 refine⟨e',?_⟩
 cases q:H b with
 |none=>rfl
 |some x=>
  have hm:b∈trk h H:=List.mem_filter.mpr ⟨List.mem_range.mpr (Heap.lt_size e'),by simp [q]⟩
  have z:(tx h H).get? b=none:=PySem.W.hideAll_none (trk h H) hm
  rw[z]at e;cases e
structure Mod (K:PySem.W.Frag) (mg:Str->Option Value) (base:Heap):Prop where
 kin:K.In base
 glob:base.Ns mainGlobals mg
 blt:∃mb,base.Ns builtinsNs mb/\∀x:Str,x≠"__name__"->mb x=bootBuiltins x
 nolimit:base.NoLimit
structure Cx where
 prog:Program
 w:World
 K:PySem.W.Frag
 mg:Str->Option Value
 base:Heap
 A:Around
 N:List Str
 s₀:Shared
 H₀:Hp
 env:Env
 outer:List Env
 stack:List Env
 ex:List Addr
 fn:Str->Bool
 calm:Bool
 pn:List (Addr×Obj)
 xe:Value->Shared->Prop
def frs(l:List Env):List Addr:=l.filterMap (·.frame)
abbrev Cx.fs(X:Cx):List Addr:=frs X.outer
def Vis(sc:Scope)(x:Str):Prop:=sc.names.lookup x=some .local\/sc.names.lookup x=some .cell\/sc.names.lookup x=some .free
def Loc(sc:Scope)(x:Str):Prop:=sc.names.lookup x=some .local\/sc.names.lookup x=some .cell
def Look(env:Env)(h:Heap)(m:Str->Option Value)(x:Str)(u:Value):Prop:=
 (env.kindOf x=some .local/\m x=some u)\/((env.kindOf x=some .cell\/env.kindOf x=some .free)/\∃c,env.cells.lookup x=some c/\h.IsCell c (some u))
structure Cx.Ok (X:Cx):Prop where
 mod:Mod X.K X.mg X.base
 kind:X.env.scope.kind= .function
 glob:X.env.globals=mainGlobals
 blt:X.env.builtins=builtinsNs
 above:X.s₀.heap.objs.size<=X.env.locals
 inj:∀x y c,X.env.cells.lookup x=some c->X.env.cells.lookup y=some c->x=y
 has:∀x,(X.env.kindOf x=some .cell\/X.env.kindOf x=some .free)->∃c,X.env.cells.lookup x=some c
 cab:∀x c,X.fn x=true->X.env.cells.lookup x=some c->X.s₀.heap.objs.size<=c
 hd:X.calm=true->X.A.handled=none
 frames:X.A.frames=some X.stack
 stk:X.stack=X.outer\/(X.stack=X.env :: X.outer/\X.env.frame=some X.env.locals)
 exf:∀b∈X.ex,b≠X.env.locals/\∀x c,X.env.cells.lookup x=some c->c≠b
 bs:∀b o,X.base.get? b=some o->X.s₀.heap.get? b=some o/\X.H₀ b=none
 bsz:X.base.objs.size<=X.s₀.heap.objs.size
 w6:∀b o,X.base.get? b=some o->b∉X.ex
 zd:∀b∈X.ex,b∉X.fs
 m7:X.s₀.heap.FunFrames X.base X.outer
 frf:∀b∈X.fs,X.H₀ b=none
structure Inv (X:Cx) (pins:List (Addr×Obj)) (σ:List (Option V)) (H:Hp) (s:Shared):Prop where
 ok:X.Ok
 os:s.os=X.s₀.os
 bare:AllBare s.gens
 base:Un X.fs X.ex X.H₀ H X.s₀.heap s.heap
 loc:∃m,s.heap.Ns X.env.locals m/\∀(i:Nat) (x:Str) (v:V),X.N[i]? =some x->σ[i]? =some (some v)->Vis X.env.scope x->∃u,RelV v u/\Look X.env s.heap m x u
 cell:∀x c,X.env.cells.lookup x=some c->∃v,s.heap.IsCell c v
 free:H X.env.locals=none
 fS:∀x c,X.env.cells.lookup x=some c->H c=none
 pin:∀p∈X.pn++pins,s.heap.get? p.1=some p.2/\H p.1=none/\p.1≠X.env.locals/\p.1∉X.fs/\∀v,p.2.data≠.cell v
 hok:HOk X.prog X.w H s.heap
 len:σ.length=X.N.length
section
variable{X:Cx}{pins:List (Addr×Obj)}{σ:List (Option V)}{H H':Hp}{s:Shared}{h':Heap}
theorem Cx.Ok.J7(ok:X.Ok){b:Addr}{o:Obj}(e:X.base.get? b=some o):b∉X.fs:=fun hb=>by
 have:=(ok.m7.mem hb).1
 rw[e]at this;cases this
theorem Inv.bs(I:Inv X pins σ H s):∀b o,X.base.get? b=some o->s.heap.get? b=some o/\H b=none:=fun b o e=>
 ⟨I.base.keep b o (I.ok.bs b o e).1 (I.ok.bs b o e).2 (I.ok.J7 e) (I.ok.w6 b o e),I.base.free b o (I.ok.bs b o e).1 (I.ok.bs b o e).2 (I.ok.w6 b o e)⟩
theorem Inv.bk(I:Inv X pins σ H s):∀b o,X.base.get? b=some o->s.heap.get? b=some o:=fun b o e=>(I.bs b o e).1
theorem Inv.mod(I:Inv X pins σ H s):Mod X.K X.mg X.base:=I.ok.mod
theorem Inv.kIn(I:Inv X pins σ H s):X.K.In s.heap:=I.ok.mod.kin.keeps I.bk
theorem Inv.lt(I:Inv X pins σ H s):X.env.locals < s.heap.objs.size:=let ⟨_,hn,_⟩:=I.loc;hn.lt
theorem Inv.sz(I:Inv X pins σ H s):X.s₀.heap.objs.size<=s.heap.objs.size:=Nat.le_trans I.ok.above (Nat.le_of_lt I.lt)
theorem Inv.J8(I:Inv X pins σ H s){a:Addr}(h:s.heap.objs.size<=a):a∉X.fs:=fun hb=>by
 obtain⟨_,o,ho,_⟩:=I.ok.m7.mem hb
 exact absurd (qd_ (Heap.lt_size ho) (Nat.le_trans I.sz h)) (qe_ _)
theorem Inv.cne(I:Inv X pins σ H s):∀x c,X.env.cells.lookup x=some c->c≠X.env.locals:=fun x c e z=>by
 obtain⟨v,o,ho,hd⟩:=I.cell x c e
 obtain⟨m,⟨o',es,ep,ho',hd',_⟩,_⟩:=I.loc
 rw[z,ho']at ho;cases ho;rw[hd']at hd;cases hd
theorem Inv.m7(I:Inv X pins σ H s):s.heap.FunFrames X.base X.outer:=by
 have all:∀(l:List Env),(∀b∈frs l,b∈X.fs)->X.s₀.heap.FunFrames X.base l->s.heap.FunFrames X.base l:=by
  intro l
  induction l with
  |nil=>intro _ _;trivial
  |cons env r ih=>
   intro hs hl
   obtain⟨hk,⟨L,o,hf,hn,ho,hd⟩,hr⟩:=hl
   have hL:L∈X.fs:=hs L (by unfold frs;rw[List.filterMap_cons,hf];exact qI_)
   obtain⟨sl,e⟩:=I.base.slot L o ho (I.ok.frf L hL) hL fun z=>I.ok.zd L z hL
   exact⟨hk,⟨L,_,hf,hn,e,hd⟩,ih (fun b hb=>hs b (by unfold frs;rw[List.filterMap_cons,hf];exact qR_ _ hb)) hr⟩
 exact all X.outer (fun _ hb=>hb) I.ok.m7
theorem Inv.stack(I:Inv X pins σ H s):s.heap.FunFrames X.base X.stack:=by
 rcases I.ok.stk with e |⟨e,hf⟩
 · rw[e];exact I.m7
 · rw[e]
   obtain⟨m,hn,_⟩:=I.loc
   refine .cons (by rw[I.ok.kind];decide) hf hn ?_ I.m7
   exact Heap.get?_none_of_le (Nat.le_trans I.ok.bsz I.ok.above)
theorem Inv.jG(I:Inv X pins σ H s):∀b∈frs X.stack,b∈X.env.locals :: X.fs:=fun b hb=>by
 rcases I.ok.stk with e |⟨e,hf⟩
 · rw[e]at hb;exact qR_ _ hb
 · rw[e]at hb
   unfold frs at hb
   rw[List.filterMap_cons,hf]at hb
   exact hb
theorem Inv.o7(I:Inv X pins σ H s):∀b∈frs X.stack,H b=none:=fun b hb=>by
 rcases qS_.mp (I.jG b hb)with e |hb
 · rw[e];exact I.free
 · obtain⟨_,o,ho,_⟩:=I.ok.m7.mem hb
   exact I.base.free b o ho (I.ok.frf b hb) fun z=>I.ok.zd b z hb
theorem Inv.step{g':Array GenState}{t':Nat}{d':Drawn}{ch:List Addr}(I:Inv X pins σ H s)
 (hch:∀b∈ch,(b∈X.ex\/X.s₀.heap.objs.size<=b)/\b≠X.env.locals/\(∀x c,X.env.cells.lookup x=some c->c≠b)/\∀p∈X.pn++pins,p.1≠b)
 (keep:∀b o,b≠X.env.locals->b∉X.fs->b∉ch->s.heap.get? b=some o->H b=none->h'.get? b=some o)
 (slot:∀b o,b≠X.env.locals->b∈X.fs->b∉ch->s.heap.get? b=some o->H b=none->∃sl,h'.get? b=some {o with slots:=sl}) (free:∀b o,b∉ch->s.heap.get? b=some o->H b=none->H' b=none)
 (there:∀b o,b∉ch->s.heap.get? b=some o->∃o',h'.get? b=some o')
 (pX:∀b xs,H b=some (.tup xs)->H' b=some (.tup xs)) (oa:∀b o u,H b=some (.frz o u)->H' b=some (.frz o u)) (qA:∀b ps,H b=some (.tbl ps)->∃more,H' b=some (.tbl (ps++more)))
 (ns:∀m,s.heap.Ns X.env.locals m->h'.Ns X.env.locals m) (hok:HOk X.prog X.w H' h') (hg:AllBare g'):
 Inv X pins σ H' {s with heap:=h',gens:=g',drawn:=d',toks:=t'}:=by
 have neL:∀b o,X.s₀.heap.get? b=some o->b≠X.env.locals:=fun b o e=>Nat.ne_of_lt (qd_ (Heap.lt_size e) I.ok.above)
 have neC:∀b o,X.s₀.heap.get? b=some o->b∉X.ex->b∉ch:=fun b o e hx hb=>by
  rcases (hch b hb).1 with z |z
  · exact hx z
  · exact absurd (qd_ (Heap.lt_size e) z) (qe_ _)
 have cellK:∀x c,X.env.cells.lookup x=some c->∀v,s.heap.IsCell c v->h'.IsCell c v:=fun x c e v ⟨o,ho,hd⟩=>by
  have nch:c∉ch:=fun z=>(hch c z).2.2.1 x c e rfl
  by_cases hc:c∈X.fs
  · obtain⟨sl,q⟩:=slot c o (I.cne x c e) hc nch ho (I.fS x c e)
    exact⟨_,q,hd⟩
  · exact⟨o,keep c o (I.cne x c e) hc nch ho (I.fS x c e),hd⟩
 refine⟨I.ok,I.os,hg,⟨fun b o e n hb hx=>?_,fun b o e n hb hx=>?_,fun b o e n hx=>?_,fun b o e hx=>?_,fun b xs e=>pX b xs (I.base.pX b xs e),fun b o xs e=>oa b o xs (I.base.oa b o xs e),fun b ps e=>?_⟩,?_,fun x c e=>?_,?_,fun x c e=>?_,fun p hp=>?_,hok,I.len⟩
 · exact keep b o (neL b o e) hb (neC b o e hx) (I.base.keep b o e n hb hx) (I.base.free b o e n hx)
 · obtain⟨sl,e1⟩:=I.base.slot b o e n hb hx
   obtain⟨sl',e2⟩:=slot b _ (neL b o e) hb (neC b o e hx) e1 (I.base.free b o e n hx)
   exact⟨sl',e2⟩
 · obtain⟨o',e1⟩:=I.base.there b o e hx
   exact free b o' (neC b o e hx) e1 (I.base.free b o e n hx)
 · obtain⟨o',e1⟩:=I.base.there b o e hx
   exact there b o' (neC b o e hx) e1
 · obtain⟨m1,e1⟩:=I.base.qA b ps e
   obtain⟨m2,e2⟩:=qA b _ e1
   exact⟨m1++m2,by rw[e2,Array.append_assoc]⟩
 · obtain⟨m,hn,hl⟩:=I.loc
   refine⟨m,ns m hn,fun i x v e1 e2 e3=>?_⟩
   obtain⟨u,r,l⟩:=hl i x v e1 e2 e3
   refine⟨u,r,?_⟩
   rcases l with l |⟨k,c,e,z⟩
   · exact .inl l
   · exact .inr ⟨k,c,e,cellK x c e _ z⟩
 · obtain⟨v,z⟩:=I.cell x c e
   exact⟨v,cellK x c e v z⟩
 · obtain⟨m,⟨o,_,_,ho,_⟩,_⟩:=I.loc
   exact free _ o (fun z=>(hch _ z).2.1 rfl) ho I.free
 · obtain⟨v,o,ho,hd⟩:=I.cell x c e
   exact free c o (fun z=>(hch c z).2.2.1 x c e rfl) ho (I.fS x c e)
 · obtain⟨e,n,ne,nf,d⟩:=I.pin p hp
   have nch:p.1∉ch:=fun z=>(hch p.1 z).2.2.2 p hp rfl
   exact⟨keep p.1 p.2 ne nf nch e n,free p.1 p.2 nch e n,ne,nf,d⟩
theorem Inv.un{t':Nat}(I:Inv X pins σ H s)(u:Un X.fs [] H H' s.heap h')(hok:HOk X.prog X.w H' h'):Inv X pins σ H' {s with heap:=h',toks:=t'}:=by
 obtain⟨m,⟨o,es,ep,ho,r⟩,_⟩:=id I.loc
 obtain⟨sl,hL⟩:=u.any ho I.free (by simp)
 exact I.step (g':=s.gens) (d':=s.drawn) (ch:=[]) (fun _ z=>nomatch z) (fun b o _ hb _ e n=>u.keep b o e n hb (by simp)) (fun b o _ hb _ e n=>u.slot b o e n hb (by simp)) (fun b o _ e n=>u.free b o e n (by simp)) (fun b o _ e=>u.there b o e (by simp)) u.pX u.oa u.qA (fun m' hm=>by
  obtain⟨o',es',ep',ho',r'⟩:=hm
  rw[ho]at ho';cases ho'
  exact⟨_,es',ep',hL,r'⟩) hok I.bare
theorem Inv.call{g':Array GenState}{t':Nat}{d':Drawn}{ch:List Addr}(I:Inv X pins σ H s)(u:Un (frs X.stack) ch H H' s.heap h')(hok:HOk X.prog X.w H' h')(hg:AllBare g')
 (hch:∀b∈ch,(b∈X.ex\/X.s₀.heap.objs.size<=b)/\b≠X.env.locals/\(∀x c,X.env.cells.lookup x=some c->c≠b)/\∀p∈X.pn++pins,p.1≠b):
 Inv X pins σ H' {s with heap:=h',gens:=g',drawn:=d',toks:=t'}:=by
 obtain⟨m,⟨o,es,ep,ho,r⟩,_⟩:=id I.loc
 obtain⟨sl,hL⟩:=u.any ho I.free fun z=>(hch _ z).2.1 rfl
 exact I.step (ch:=ch) hch (fun b o hL hb hc e n=>u.keep b o e n (fun z=>(qS_.mp (I.jG b z)).elim hL hb) hc) (fun b o _ _ hc e n=>u.any e n hc) (fun b o hc e n=>u.free b o e n hc) (fun b o hc e=>u.there b o e hc) u.pX u.oa u.qA (fun m' hm=>by
  obtain⟨o',es',ep',ho',r'⟩:=hm
  rw[ho]at ho';cases ho'
  exact⟨_,es',ep',hL,r'⟩) hok hg
theorem Inv.turned{t':Nat}{it:Addr}(I:Inv X pins σ H s)(k:∀b o,b≠it->s.heap.get? b=some o->h'.get? b=some o)(hn:H it=none)(hL:it≠X.env.locals)
 (h1:it∈X.ex\/X.s₀.heap.objs.size<=it) (h2:∀x c,X.env.cells.lookup x=some c->c≠it) (h3:∀p∈X.pn++pins,p.1≠it):Inv X pins σ H {s with heap:=h',toks:=t'}:=by
 have nit:∀b u,H b=some u->b≠it:=fun b u e z=>by rw[z,hn]at e;cases e
 refine I.step (g':=s.gens) (d':=s.drawn) (ch:=[it]) (fun b hb=>?_) (fun b o _ _ hc e _=>k b o (fun z=>hc (by simp [z])) e) (fun b o _ _ hc e _=>⟨o.slots,k b o (fun z=>hc (by simp [z])) e⟩) (fun _ _ _ _ n=>n)
  (fun b o hc e=>⟨o,k b o (fun z=>hc (by simp [z])) e⟩) (fun _ _ e=>e) (fun _ _ _ e=>e) (fun b ps e=>⟨#[],by rw[e];simp⟩) (fun m hm=>?_) (fun b u e=>?_) I.bare
 · have e:b=it:=by simpa using hb
   subst e
   exact⟨h1,hL,h2,h3⟩
 · obtain⟨o,es,ep,ho,r⟩:=hm
   exact⟨o,es,ep,k _ o (Ne.symm hL) ho,r⟩
 · refine(I.hok b u e).gO (fun c v hc q=>k c v ?_ q) (fun _ q=>q) fun _ _ q=>q
   rcases hc with z |z
   · rw[z];exact nit b u e
   · exact nit c _ z
theorem Inv.tok(I:Inv X pins σ H s)(t:Nat):Inv X pins σ H {s with toks:=t}:=I.un (h':=s.heap) (t':=t) Un.refl I.hok
theorem Inv.kept{t':Nat}(I:Inv X pins σ H s)(k:∀b u,s.heap.get? b=some u->h'.get? b=some u):Inv X pins σ H {s with heap:=h',toks:=t'}:=I.un (Un.kept k) (I.hok.kept k)
theorem Inv.laid{a:Addr}{o:HO}{t':Nat}(I:Inv X pins σ H s)(k:∀b u,s.heap.get? b=some u->h'.get? b=some u)(hp:s.heap.objs.size<=a)(new:bJ X.prog X.w (upd H a o) h' a o):
 Inv X pins σ (upd H a o) {s with heap:=h',toks:=t'}:=I.un (Un.laid k hp (I.hok.fresh hp)) (I.hok.laid k hp new)
theorem Inv.write{x e:Addr}{o:HO}{t':Nat}(I:Inv X pins σ H s)(mu:Mut (H x))(he:e=x\/H e=some (.own x))(k:∀b u,b≠e->s.heap.get? b=some u->h'.get? b=some u)(heo:∃u,h'.get? e=some u)
 (new:bJ X.prog X.w (upd H x o) h' x o):Inv X pins σ (upd H x o) {s with heap:=h',toks:=t'}:=I.un (Un.write mu he k heo) (I.hok.write mu he k heo new)
theorem Inv.o8{pins':List (Addr×Obj)}(I:Inv X pins σ H s)(h:∀p∈pins',s.heap.get? p.1=some p.2/\H p.1=none/\p.1≠X.env.locals/\p.1∉X.fs/\∀v,p.2.data≠.cell v):Inv X pins' σ H s:=
 ⟨I.ok,I.os,I.bare,I.base,I.loc,I.cell,I.free,I.fS,fun p hp=>(qG_.mp hp).elim (fun z=>I.pin p (qF_ _ z)) (h p),I.hok,I.len⟩
theorem vP{N:List Str}(hN:N.Nodup){i j:Nat}{x:Str}(a:N[i]? =some x)(b:N[j]? =some x):i=j:=by
 obtain⟨h1,e1⟩:=qB_.mp a
 obtain⟨h2,e2⟩:=qB_.mp b
 exact(List.getElem_inj hN).mp (e1.trans e2.symm)
theorem rR{M:Model}{A:Around}{E:Value->Shared->Prop}{i:Nat}{x:Str}{v:V}{u:Value}{Q:Unit->Shared->Prop}(I:Inv X pins σ H s)(hN:X.N.Nodup)(hi:X.N[i]? =some x)(hx:Loc X.env.scope x)(r:RelV v u)
 (h:∀s',Inv X pins (σ.set i (some v)) H s'->(∃a,Heap.SameBut a s.heap s'.heap/\(a=X.env.locals\/X.env.cells.lookup x=some a))->Q () s') (hf:X.fn x=true\/X.env.scope.names.lookup x=some .local:=by first |exact .inl rfl |exact .inr rfl |assumption):wpAny M A (storeName X.env x u) Q E s:=by
 obtain⟨m,hn,hl⟩:=id I.loc
 have hcls:(X.env.scope.kind== .class||(X.env.scope.kind== .module&&X.env.locals !=X.env.globals))=false:=by rw[I.ok.kind];rfl
 have hiσ:i < σ.length:=by rw[I.len];exact(qB_.mp hi).1
 have cne:=I.cne
 have tracked:∀{a:Addr} {h':Heap},(∃o,s.heap.get? a=some o/\H a=none)->Heap.SameBut a s.heap h'->HOk X.prog X.w H h':=fun {a h'} ha hs b ob e=>by
  obtain⟨_,_,hfree⟩:=ha
  refine(I.hok b ob e).gO (fun c w' hc q=>(hs.2 c ?_).trans q) (fun _ q=>q) fun _ _ q=>q
  rintro rfl
  rcases hc with rfl |hc
  · rw[hfree]at e;cases e
  · rw[hfree]at hc;cases hc
 rcases hx with hk |hk
 · refine wpAny_storeName_local hk hn (fun h' hn' hs=>?_) hcls
   obtain⟨oL,_,_,hoL,_⟩:=id hn
   refine h _ ⟨I.ok,I.os,I.bare,⟨fun b o e n hb hx=>?_,fun b o e n hb hx=>?_,I.base.free,fun b o e hx=>?_,I.base.pX,I.base.oa,I.base.qA⟩,⟨_,hn',fun j y v' e1 e2 e3=>?_⟩,fun y c e=>?_,I.free,I.fS,fun p hp=>?_,tracked ⟨oL,hoL,I.free⟩ hs,by simpa using I.len⟩ ⟨_,hs,.inl rfl⟩
   · exact(hs.2 b (Nat.ne_of_lt (qd_ (Heap.lt_size e) I.ok.above))).trans (I.base.keep b o e n hb hx)
   · obtain⟨sl,e1⟩:=I.base.slot b o e n hb hx
     exact⟨sl,(hs.2 b (Nat.ne_of_lt (qd_ (Heap.lt_size e) I.ok.above))).trans e1⟩
   · obtain⟨o',e1⟩:=I.base.there b o e hx
     exact⟨o',(hs.2 b (Nat.ne_of_lt (qd_ (Heap.lt_size e) I.ok.above))).trans e1⟩
   · by_cases hj:j=i
     · subst hj
       rw[hi]at e1;cases e1
       rw[qU_ hiσ]at e2
       cases e2
       exact⟨u,r,.inl ⟨hk,by simp⟩⟩
     · rw[qV_ (Ne.symm hj)]at e2
       obtain⟨u',r',q⟩:=hl j y v' e1 e2 e3
       refine⟨u',r',?_⟩
       rcases q with ⟨k,e⟩ |⟨k,c,e,z⟩
       · refine .inl ⟨k,?_⟩
         have:y≠x:=fun e=>hj (vP hN e1 (e ▸ hi))
         simp [this,e]
       · exact .inr ⟨k,c,e,z.sameBut hs (cne y c e)⟩
   · obtain⟨w',z⟩:=I.cell y c e
     exact⟨w',z.sameBut hs (cne y c e)⟩
   · obtain⟨e,n,ne,nf,d⟩:=I.pin p hp
     exact⟨(hs.2 p.1 ne).trans e,n,ne,nf,d⟩
 · have hfn:X.fn x=true:=by
    rcases hf with z |z
    · exact z
    · rw[z]at hk;cases hk
   obtain⟨c,hc⟩:=I.ok.has x (.inl hk)
   obtain⟨w',z⟩:=I.cell x c hc
   refine wpAny_storeName_cell I.ok.kind hk hc z (fun h' hc' hs=>?_)
   obtain⟨oc,hoc,hocd⟩:=id z
   refine h {s with heap:=h'} ⟨I.ok,I.os,I.bare,⟨fun b o e n hb hx=>?_,fun b o e n hb hx=>?_,I.base.free,fun b o e hx=>?_,I.base.pX,I.base.oa,I.base.qA⟩,⟨m,hn.sameBut hs (Ne.symm (cne x c hc)),fun j y v' e1 e2 e3=>?_⟩,fun y c' e=>?_,I.free,I.fS,fun p hp=>?_,tracked ⟨oc,hoc,I.fS x c hc⟩ hs,by simpa using I.len⟩ ⟨c,hs,.inr hc⟩
   · exact(hs.2 b (Nat.ne_of_lt (qd_ (Heap.lt_size e) (I.ok.cab x c hfn hc)))).trans (I.base.keep b o e n hb hx)
   · obtain⟨sl,e1⟩:=I.base.slot b o e n hb hx
     exact⟨sl,(hs.2 b (Nat.ne_of_lt (qd_ (Heap.lt_size e) (I.ok.cab x c hfn hc)))).trans e1⟩
   · obtain⟨o',e1⟩:=I.base.there b o e hx
     exact⟨o',(hs.2 b (Nat.ne_of_lt (qd_ (Heap.lt_size e) (I.ok.cab x c hfn hc)))).trans e1⟩
   · by_cases hj:j=i
     · subst hj
       rw[hi]at e1;cases e1
       rw[qU_ hiσ]at e2
       cases e2
       exact⟨u,r,.inr ⟨.inl hk,c,hc,hc'⟩⟩
     · rw[qV_ (Ne.symm hj)]at e2
       obtain⟨u',r',q⟩:=hl j y v' e1 e2 e3
       refine⟨u',r',?_⟩
       rcases q with q |⟨k,c',e,z'⟩
       · exact .inl q
       · refine .inr ⟨k,c',e,z'.sameBut hs ?_⟩
         rintro rfl
         exact hj (vP hN e1 (I.ok.inj _ _ _ e hc ▸ hi))
   · by_cases hcc:c'=c
     · subst hcc;exact⟨_,hc'⟩
     · obtain⟨w2,z2⟩:=I.cell y c' e
       exact⟨w2,z2.sameBut hs hcc⟩
   · obtain⟨e,n,ne,nf,d⟩:=I.pin p hp
     refine⟨(hs.2 p.1 ?_).trans e,n,ne,nf,d⟩
     intro q
     rw[q,hoc]at e
     have q':oc=p.2:=Option.some.inj e
     exact d w' (by rw[<-q'];exact hocd)
theorem vt{M:Model}{A:Around}{E:Value->Shared->Prop}{i:Nat}{x:Str}{v:V}{u:Value}{Q:Unit->Shared->Prop}(I:Inv X pins σ H s)(hN:X.N.Nodup)(hi:X.N[i]? =some x)(hx:Loc X.env.scope x)(r:RelV v u)
 (h:∀s',Inv X pins (σ.set i (some v)) H s'->Q () s') (hf:X.fn x=true\/X.env.scope.names.lookup x=some .local:=by first |exact .inl rfl |exact .inr rfl |assumption):wpAny M A (storeName X.env x u) Q E s:=
 rR I hN hi hx r (fun s' I' _=>h s' I') hf
theorem Inv.Bs{s':Shared}{ch:List Addr}(I:Inv X pins σ H s)(ho:s'.os=s.os)(u:Un (frs X.stack) ch H H' s.heap s'.heap)(hok:HOk X.prog X.w H' s'.heap)(hg:AllBare s'.gens)
 (hch:∀b∈ch,(b∈X.ex\/X.s₀.heap.objs.size<=b)/\b≠X.env.locals/\(∀x c,X.env.cells.lookup x=some c->c≠b)/\∀p∈X.pn++pins,p.1≠b):Inv X pins σ H' s':=by
 obtain⟨h',g',d',t',o'⟩:=s'
 have e:o'=s.os:=ho
 subst e
 exact I.call (g':=g') (t':=t') (d':=d') u hok hg hch
end
abbrev XK:=Value->Option Addr->Hp->Prop
abbrev St:=List (Option V)
abbrev VK:=V->Hp->Prop
abbrev TE:=St->Hp->VK->Prop
abbrev TT:=St->Hp->(Bool->Hp->Prop)->Prop
abbrev TA:=St->Hp->(List V->Hp->Prop)->Prop
structure Ends where
 nx:St->Hp->Prop
 rt:VK
 bk:St->Hp->Prop:=fun _ _=>False
 ct:St->Hp->Prop:=fun _ _=>False
abbrev TS:=Ends->St->Hp->Prop
def EP(X:Cx)(pins:List (Addr×Obj))(σ:St)(Q:VK)(u:Value)(s':Shared):Prop:=∃v H',Inv X pins σ H' s'/\RelV v u/\Q v H'
def TP(X:Cx)(pins:List (Addr×Obj))(σ:St)(Q:Bool->Hp->Prop)(b:Bool)(s':Shared):Prop:=∃H',Inv X pins σ H' s'/\Q b H'
def AP(X:Cx)(pins:List (Addr×Obj))(σ:St)(Q:List V->Hp->Prop)(us:List Value)(s':Shared):Prop:=∃vs H',Inv X pins σ H' s'/\Vals vs us/\Q vs H'
def SP(X:Cx)(pins:List (Addr×Obj))(D:Ends)(f:Flow)(s':Shared):Prop:=
 match f with
 | .next=>∃σ' H',Inv X pins σ' H' s'/\D.nx σ' H'
 | .brk=>∃σ' H',Inv X pins σ' H' s'/\D.bk σ' H'
 | .cont=>∃σ' H',Inv X pins σ' H' s'/\D.ct σ' H'
 | .ret u=>∃v σ' H',Inv X pins σ' H' s'/\RelV v u/\D.rt v H'
def PE(X:Cx)(e:Expr)(t:TE):Prop:=
 ∀(pins:List (Addr×Obj)) (s:Shared) (σ:St) (H:Hp) (Q:VK),Inv X pins σ H s->t σ H Q->wpAny (model X.prog X.w) X.A (eval e X.env) (EP X pins σ Q) X.xe s
def PT(X:Cx)(e:Expr)(t:TT):Prop:=
 ∀(pins:List (Addr×Obj)) (s:Shared) (σ:St) (H:Hp) (Q:Bool->Hp->Prop),Inv X pins σ H s->t σ H Q->wpAny (model X.prog X.w) X.A (isTrue e X.env (eval e X.env)) (TP X pins σ Q) X.xe s
def PW(X:Cx)(e:Expr)(t:TT):Prop:=
 ∀(whole:Sem Value) (pins:List (Addr×Obj)) (s:Shared) (σ:St) (H:Hp) (Q:Bool->Hp->Prop),Inv X pins σ H s->t σ H Q->wpAny (model X.prog X.w) X.A (isTrue e X.env whole) (TP X pins σ Q) X.xe s
theorem PW.pt{X:Cx}{e:Expr}{t:TT}(h:PW X e t):PT X e t:=h _
def PA(X:Cx)(es:List Expr)(t:TA):Prop:=
 ∀(pos:Pos) (pins:List (Addr×Obj)) (s:Shared) (σ:St) (H:Hp) (Q:List V->Hp->Prop),Inv X pins σ H s->t σ H Q->wpAny (model X.prog X.w) X.A (spliced (backTo pos (starEach es X.env))) (AP X pins σ Q) X.xe s
def PS(X:Cx)(st:Stmt)(t:TS):Prop:=
 ∀(pins:List (Addr×Obj)) (s:Shared) (σ:St) (H:Hp) (D:Ends),Inv X pins σ H s->t D σ H->wpAny (model X.prog X.w) X.A (exec st X.env) (SP X pins D) X.xe s
def PSs(X:Cx)(st:List Stmt)(t:TS):Prop:=
 ∀(pins:List (Addr×Obj)) (s:Shared) (σ:St) (H:Hp) (D:Ends),Inv X pins σ H s->t D σ H->wpAny (model X.prog X.w) X.A (execs st X.env) (SP X pins D) X.xe s
theorem thn{α:Type}{t:Sem α}{Q Q':α->Shared->Prop}{M:Model}{A:Around}{E:Value->Shared->Prop}{s:Shared}(h:wpAny M A t Q E s)(hQ:∀a s,Q a s->Q' a s):wpAny M A t Q' E s:=wpAny_mono h hQ fun _ _ x=>x
section
variable{X:Cx}
def Kf(i:Nat):TE:=fun σ H Q=>∃v,σ[i]? =some (some v)/\Q v H
def tC(v:V):TE:=fun _ H Q=>Q v H
theorem GG{i:Nat}{x:Str}{pos:Pos}(hN:X.N[i]? =some x)(hv:Vis X.env.scope x)(hd:(x==("__debug__":Str))=false:=by decide)(hcd:(x==("__classdict__":Str))=false:=by decide):PE X (.Name x pos) (Kf i):=by
 intro pins s σ H Q I h
 obtain⟨v,e,h⟩:=h
 obtain⟨m,hn,hl⟩:=I.loc
 obtain⟨u,r,l⟩:=hl i x v hN e hv
 have fin:EP X pins σ Q u s:=⟨v,H,I,r,h⟩
 rcases l with ⟨hk,hm⟩ |⟨hk,c,hc,hcell⟩
 · exact wpAny_Name (wpAny_loadName_local I.ok.kind hk hn hm fin) hd
 · rcases hk with hk |hk
   · exact wpAny_Name (wpAny_loadName_cell I.ok.kind hk hc hcell fin) hd
   · exact wpAny_Name (wpAny_loadName_free I.ok.kind hk hc hcell fin hcd) hd
theorem Fh{i j pos}:PE X (.Constant (.int i) j pos) (tC (.int i)):=fun _ _ _ H _ I h=>wpAny_Constant_int ⟨.int i,H,I.tok _,⟨_,rfl⟩,h⟩
theorem IR{b j pos}:PE X (.Constant (.bool b) j pos) (tC (.bl b)):=fun _ _ _ H _ I h=>Constant_bool ⟨.bl b,H,I,rfl,h⟩
theorem HN{j pos}:PE X (.Constant .none j pos) (tC .non):=fun _ _ _ H _ I h=>Constant_none ⟨.non,H,I,rfl,h⟩
theorem FR{x j pos}:PE X (.Constant (.str x) j pos) (tC (.str x)):=fun _ _ _ H _ I h=>Calls.Constant_str ⟨.str x,H,I.tok _,⟨_,rfl⟩,h⟩
def Gl(X:Cx)(x:Str):Prop:=X.env.kindOf x=some .globalImplicit
theorem kY{E:Value->Shared->Prop}{pins:List (Addr×Obj)}{s:Shared}{σ:St}{H:Hp}{x:Str}{u:Value}{pos:Pos}{Q:Value->Shared->Prop}(I:Inv X pins σ H s)(hg:Gl X x)(hm:X.mg x=some u)(h:Q u s)
 (hd:(x==("__debug__":Str))=false:=by decide):wpAny (model X.prog X.w) X.A (eval (.Name x pos) X.env) Q E s:=
 Calls.Name_function_global I.ok.kind hg (Calls.loadGlobal_global (by rw[I.ok.glob];exact I.mod.glob.keeps I.bk) hm h) hd
theorem nE{E:Value->Shared->Prop}{pins:List (Addr×Obj)}{s:Shared}{σ:St}{H:Hp}{x:Str}{u:Value}{pos:Pos}{Q:Value->Shared->Prop}(I:Inv X pins σ H s)(hg:Gl X x)(hm:X.mg x=none)(hv:bootBuiltins x=some u)(h:Q u s)
 (hn:x≠"__name__":=by decide) (hd:(x==("__debug__":Str))=false:=by decide):wpAny (model X.prog X.w) X.A (eval (.Name x pos) X.env) Q E s:=by
 obtain⟨mb,h1,h2⟩:=I.mod.blt
 exact Calls.Name_function_global I.ok.kind hg (Calls.loadGlobal_builtin (by rw[I.ok.glob];exact I.mod.glob.keeps I.bk) hm (by rw[I.ok.blt];exact h1.keeps I.bk) ((h2 x hn).trans hv) h) hd
theorem Eg{x:Str}{v:V}{u:Value}{pos:Pos}(hg:Gl X x)(hm:X.mg x=some u)(r:RelV v u)(hd:(x==("__debug__":Str))=false:=by decide):PE X (.Name x pos) (tC v):=
 fun _ _ _ H _ I h=>kY I hg hm ⟨v,H,I,r,h⟩ hd
theorem sQ{x:Str}{v:V}{u:Value}{pos:Pos}(hg:Gl X x)(hm:X.mg x=none)(hv:bootBuiltins x=some u)(r:RelV v u)(hn:x≠"__name__":=by decide)(hd:(x==("__debug__":Str))=false:=by decide):PE X (.Name x pos) (tC v):=
 fun _ _ _ H _ I h=>nE I hg hm hv ⟨v,H,I,r,h⟩ hn hd
variable{a b:Expr}{ta tb:TE}{pos:Pos}
def PC(X:Cx)(op:CmpOp)(a b:Expr)(t:TE):Prop:=
 ∀(pins:List (Addr×Obj)) (s:Shared) (σ:St) (H:Hp) (Q:VK),Inv X pins σ H s->t σ H Q->
  wpAny (model X.prog X.w) X.A (eval a X.env) (fun v s₁=>wpAny (model X.prog X.w) X.A (eval b X.env) (fun u s₂=>wpAny (model X.prog X.w) X.A (compareOp op v u) (EP X pins σ Q) X.xe s₂) X.xe s₁) X.xe s
theorem uU(b:Expr){op:CmpOp}(h:op≠.In)(h2:op≠.NotIn):behindInMarks op b=false:=by
 have e1:(op==CmpOp.In)=false:=by cases op <;> first |rfl |exact absurd rfl h
 have e2:(op==CmpOp.NotIn)=false:=by cases op <;> first |rfl |exact absurd rfl h2
 cases b <;> simp [behindInMarks,e1,e2]
def Ki(ta:TE):TE:=fun σ H Q=>ta σ H fun x H1=>Q (.bl (decide (x= .non))) H1
def Jy(ta:TE):TE:=fun σ H Q=>ta σ H fun x H1=>Q (.bl (!decide (x= .non))) H1
theorem RelV.vF{x:V}{v:Value}(r:RelV x v):(v==Value.none)=decide (x= .non):=by
 cases x with
 |non=>cases r;rfl
 |bl _=>cases r;rfl
 |int _=>obtain⟨t,rfl⟩:=r;rfl
 |str _=>obtain⟨t,rfl⟩:=r;rfl
 |byt _=>obtain⟨t,rfl⟩:=r;rfl
 |flt _=>obtain⟨t,rfl⟩:=r;rfl
 |ref _=>cases r;rfl
 |ty _=>cases r;rfl
theorem AX{j pos'}(ha:PE X a ta):PC X .Is a (.Constant .none j pos') (Ki ta):=by
 intro pins s σ H Q I h
 refine thn (ha pins s σ H _ I h) fun v s1 ⟨x,H1,I1,r1,q1⟩=>?_
 exact Constant_none (is_none_gen ⟨.bl _,H1,I1,by rw[r1.vF];rfl,q1⟩)
theorem D1{j pos'}(ha:PE X a ta):PC X .IsNot a (.Constant .none j pos') (Jy ta):=by
 intro pins s σ H Q I h
 refine thn (ha pins s σ H _ I h) fun v s1 ⟨x,H1,I1,r1,q1⟩=>?_
 exact Constant_none (isnot_none_gen ⟨.bl _,H1,I1,by rw[r1.vF];rfl,q1⟩)
def tB(t:TE):TT:=fun σ H Q=>t σ H fun x H1=>∃c,x= .bl c/\Q c H1
theorem HS{op:CmpOp}{t:TE}(h:PC X op a b t)(h1:behindInMarks op b=false:=by first |exact uU _ (by decide) (by decide) |rfl):PE X (.Compare a [op] [b] pos) t:=fun pins s σ H Q I hw=>wpAny_Compare1 (h pins s σ H Q I hw) h1
theorem Bw{op:CmpOp}{t:TE}(h:PC X op a b t)(h1:behindInMarks op b=false:=by first |exact uU _ (by decide) (by decide) |rfl):PT X (.Compare a [op] [b] pos) (tB t):=by
 intro pins s σ H Q I hw
 refine wpAny_isTrue_Compare1 (thn (h pins s σ H _ I hw) fun v s1 h1=>thn h1 fun u s2 h2=>thn h2 fun c s3 ⟨x,H1,I1,r1,q1⟩=>?_) h1
 obtain⟨d,rfl,q⟩:=q1
 cases r1
 exact wpAny_truthy_bool ⟨H1,I1,q⟩
variable{tA tB':TT}{rest:List Expr}
def rk(t u:TT):TT:=fun σ H Q=>t σ H fun c H1=>if c=true then u σ H1 Q else Q false H1
def tOr(t u:TT):TT:=fun σ H Q=>t σ H fun c H1=>if c=true then Q true H1 else u σ H1 Q
def eX(t:TT):TT:=fun σ H Q=>t σ H fun c H1=>Q (!c) H1
theorem DN(ha:PT X a tA):PW X (.BoolOp .And [a] pos) tA:=by
 intro wh pins s σ H Q I h
 refine isTrue_and (thn (ha pins s σ H Q I h) fun c s1 e=>?_)
 cases c with
 |true=>exact isTrue_and_nil e
 |false=>exact e
theorem Ht(ha:PT X a tA):PW X (.BoolOp .Or [a] pos) tA:=by
 intro wh pins s σ H Q I h
 refine isTrue_or (thn (ha pins s σ H Q I h) fun c s1 e=>?_)
 cases c with
 |false=>exact isTrue_or_nil e
 |true=>exact e
theorem F0(ha:PT X a tA)(hb:PW X (.BoolOp .And (b :: rest) pos) tB'):PW X (.BoolOp .And (a :: b :: rest) pos) (rk tA tB'):=by
 intro wh pins s σ H Q I h
 refine isTrue_and (thn (ha pins s σ H _ I h) fun c s1 ⟨H1,I1,q1⟩=>?_)
 cases c with
 |true=>exact hb wh pins s1 σ H1 Q I1 q1
 |false=>exact⟨H1,I1,q1⟩
theorem II(ha:PT X a tA)(hb:PW X (.BoolOp .Or (b :: rest) pos) tB'):PW X (.BoolOp .Or (a :: b :: rest) pos) (tOr tA tB'):=by
 intro wh pins s σ H Q I h
 refine isTrue_or (thn (ha pins s σ H _ I h) fun c s1 ⟨H1,I1,q1⟩=>?_)
 cases c with
 |true=>exact⟨H1,I1,q1⟩
 |false=>exact hb wh pins s1 σ H1 Q I1 q1
theorem Gw(ha:PT X a tA):PT X (.UnaryOp .Not a pos) (eX tA):=by
 intro pins s σ H Q I h
 exact isTrue_not (ha pins s σ H (fun c H1=>Q (!c) H1) I h)
def Jv(ta tb:TE):TE:=fun σ H Q=>ta σ H fun x H1=>∃c,x= .bl c/\if c=true then tb σ H1 Q else Q (.bl false) H1
def JN(ta tb:TE):TE:=fun σ H Q=>ta σ H fun x H1=>∃c,x= .bl c/\if c=true then Q (.bl true) H1 else tb σ H1 Q
def IM(ta:TE):TE:=fun σ H Q=>ta σ H fun x H1=>∃c,x= .bl c/\Q (.bl (!c)) H1
theorem Fz{op}{t:TE}(h:PE X a t):PE X (.BoolOp op [a] pos) t:=fun pins s σ H Q I hw=>BoolOp_one (h pins s σ H Q I hw)
theorem Ia(ha:PE X a ta)(hb:PE X (.BoolOp .And (b :: rest) pos) tb):PE X (.BoolOp .And (a :: b :: rest) pos) (Jv ta tb):=by
 intro pins s σ H Q I h
 refine BoolOp_and (thn (ha pins s σ H _ I h) fun v s1 ⟨x,H1,I1,r1,q1⟩=>?_)
 obtain⟨c,rfl,q1⟩:=q1
 cases r1
 refine wpAny_truthy_bool ?_
 cases c with
 |true=>exact hb pins s1 σ H1 Q I1 q1
 |false=>exact⟨.bl false,H1,I1,rfl,q1⟩
theorem Jb(ha:PE X a ta)(hb:PE X (.BoolOp .Or (b :: rest) pos) tb):PE X (.BoolOp .Or (a :: b :: rest) pos) (JN ta tb):=by
 intro pins s σ H Q I h
 refine BoolOp_or (thn (ha pins s σ H _ I h) fun v s1 ⟨x,H1,I1,r1,q1⟩=>?_)
 obtain⟨c,rfl,q1⟩:=q1
 cases r1
 refine wpAny_truthy_bool ?_
 cases c with
 |false=>exact hb pins s1 σ H1 Q I1 q1
 |true=>exact⟨.bl true,H1,I1,rfl,q1⟩
theorem Fo(ha:PE X a ta):PE X (.UnaryOp .Not a pos) (IM ta):=by
 intro pins s σ H Q I h
 refine UnaryOp_ (thn (ha pins s σ H _ I h) fun v s1 ⟨x,H1,I1,r1,q1⟩=>?_)
 obtain⟨c,rfl,q1⟩:=q1
 cases r1
 exact not_of (wpAny_truthy_bool ⟨.bl (!c),H1,I1,rfl,q1⟩)
def tIf(t:TT)(ta tb:TE):TE:=fun σ H Q=>t σ H fun c H1=>if c=true then ta σ H1 Q else tb σ H1 Q
theorem Al{c:Expr}(hc:PT X c tA)(ha:PE X a ta)(hb:PE X b tb):PE X (.IfExp c a b pos) (tIf tA ta tb):=by
 intro pins s σ H Q I h
 refine wpAny_IfExp (thn (hc pins s σ H _ I h) fun d s1 ⟨H1,I1,q1⟩=>?_)
 cases d with
 |true=>exact ha pins s1 σ H1 Q I1 q1
 |false=>exact hb pins s1 σ H1 Q I1 q1
end
def SqL(K:PySem.W.Frag)(H:Hp)(a:Addr)(xs:List V):Prop:=
 Rd H a (.lst xs)\/
  ∃(o:Obj) (its:Array Value) (n:Nat),K.lookup a=some o/\o.cls= .type "list"/\o.dict=none/\o.data= .seq its n/\its.size<=sizeLine/\Vals xs its.toList
def SqT(K:PySem.W.Frag)(H:Hp)(a:Addr)(xs:List V):Prop:=
 Rd H a (.tup xs)\/
  ∃(o:Obj) (its:Array Value) (n:Nat),K.lookup a=some o/\o.cls= .type "tuple"/\o.data= .seq its n/\its.size<=sizeLine/\Vals xs its.toList
def Kl:Value->Option V
 | .none=>some .non
 | .bool b=>some (.bl b)
 | .int i _=>some (.int i)
 | .str x _=>some (.str x)
 | .bytes b _=>some (.byt b)
 | .float b _=>some (.flt b)
 | .ref a=>some (.ref a)
 | .type n=>some (.ty n)
 |_=>none
theorem RelV.abs{x:V}{u:Value}(r:RelV x u):Kl u=some x:=by
 cases x with
 |non=>cases r;rfl
 |bl _=>cases r;rfl
 |int _=>obtain⟨t,rfl⟩:=r;rfl
 |str _=>obtain⟨t,rfl⟩:=r;rfl
 |byt _=>obtain⟨t,rfl⟩:=r;rfl
 |flt _=>obtain⟨t,rfl⟩:=r;rfl
 |ref _=>cases r;rfl
 |ty _=>cases r;rfl
theorem RelV.inj{x y:V}{u:Value}(r:RelV x u)(q:RelV y u):x=y:=Option.some.inj (r.abs.symm.trans q.abs)
theorem Vals.inj:∀{xs ys:List V} {us:List Value},Vals xs us->Vals ys us->xs=ys
 |_,_,_,.nil,.nil=>rfl
 |_,_,_,.cons r t,.cons r' t'=>by rw[r.inj r',Vals.inj t t']
section
variable{X:Cx}{pins:List (Addr×Obj)}{σ:St}{H:Hp}{s:Shared}{a:Addr}{xs ys:List V}
theorem SqL.of{K:PySem.W.Frag}(h:H a=some (.lst xs)):SqL K H a xs:= .inl (.inl h)
theorem SqT.of{K:PySem.W.Frag}(h:H a=some (.tup xs)):SqT K H a xs:= .inl (.inl h)
theorem Inv.list(I:Inv X pins σ H s)(h:SqL X.K H a xs):∃its:List Value,Vals xs its/\PlainL s.heap a its.toArray/\xs.length<=sizeLine:=by
 rcases h with h |⟨o,its,n,hk,hc,hd,hs,hz,r⟩
 · obtain⟨z,its,n,r,e⟩:=h.ok I.hok
   exact⟨its,r,⟨_,n,e,rfl,rfl,rfl⟩,z⟩
 · refine⟨its.toList,r,⟨o,n,I.kIn a o hk,hc,hd,by simpa using hs⟩,?_⟩
   have e:=r.length
   simp only[Array.length_toList]at e
   omega
theorem Inv.tuple(I:Inv X pins σ H s)(h:SqT X.K H a xs):∃its:List Value,Vals xs its/\IsTup s.heap a its.toArray/\xs.length<=sizeLine:=by
 rcases h with h |⟨o,its,n,hk,hc,hs,hz,r⟩
 · obtain⟨z,its,r,p⟩:=h.ok I.hok
   exact⟨its,r,p,z⟩
 · refine⟨its.toList,r,⟨o,I.kIn a o hk,hc,n,by simpa using hs⟩,?_⟩
   have e:=r.length
   simp only[Array.length_toList]at e
   omega
theorem Inv.kA(I:Inv X pins σ H s)(h:SqL X.K H a xs)(h':SqL X.K H a ys):xs=ys:=by
 obtain⟨its,r,⟨o,n,e,_,_,d⟩,_⟩:=I.list h
 obtain⟨its',r',⟨o',n',e',_,_,d'⟩,_⟩:=I.list h'
 rw[e]at e';cases e'
 rw[d]at d'
 injection d' with d1 _
 have:its=its':=by simpa using congrArg Array.toList d1
 subst this
 exact r.inj r'
theorem Inv.kO(I:Inv X pins σ H s)(h:SqT X.K H a xs)(h':SqT X.K H a ys):xs=ys:=by
 obtain⟨its,r,⟨o,e,_,n,d⟩,_⟩:=I.tuple h
 obtain⟨its',r',⟨o',e',_,n',d'⟩,_⟩:=I.tuple h'
 rw[e]at e';cases e'
 rw[d]at d'
 injection d' with d1 _
 have:its=its':=by simpa using congrArg Array.toList d1
 subst this
 exact r.inj r'
end
abbrev Cx.qW(X:Cx)(E:Value->Shared->Prop):Cx:={X with xe:=E}
abbrev Cx.nox(X:Cx):Cx:=X.qW fun _ _=>False
theorem Cx.Ok.qW{X:Cx}(ok:X.Ok)(E:Value->Shared->Prop):(X.qW E).Ok:=
 ⟨ok.mod,ok.kind,ok.glob,ok.blt,ok.above,ok.inj,ok.has,ok.cab,ok.hd,ok.frames,ok.stk,ok.exf,ok.bs,ok.bsz,ok.w6,ok.zd,ok.m7,ok.frf⟩
theorem Cx.Ok.gq{X:Cx}{E:Value->Shared->Prop}(ok:(X.qW E).Ok):X.Ok:=
 ⟨ok.mod,ok.kind,ok.glob,ok.blt,ok.above,ok.inj,ok.has,ok.cab,ok.hd,ok.frames,ok.stk,ok.exf,ok.bs,ok.bsz,ok.w6,ok.zd,ok.m7,ok.frf⟩
section
variable{X:Cx}{pins:List (Addr×Obj)}{σ:St}{H:Hp}{s:Shared}{E:Value->Shared->Prop}
theorem Inv.qW(I:Inv X pins σ H s)(E:Value->Shared->Prop):Inv (X.qW E) pins σ H s:=⟨I.ok.qW E,I.os,I.bare,I.base,I.loc,I.cell,I.free,I.fS,I.pin,I.hok,I.len⟩
theorem Inv.gq(I:Inv (X.qW E) pins σ H s):Inv X pins σ H s:=⟨I.ok.gq,I.os,I.bare,I.base,I.loc,I.cell,I.free,I.fS,I.pin,I.hok,I.len⟩
theorem SP.gq{D:Ends}{f:Flow}{s':Shared}(h:SP (X.qW E) pins D f s'):SP X pins D f s':=by
 cases f with
 |next=>obtain⟨σ',H',I,q⟩:=h;exact⟨σ',H',I.gq,q⟩
 |brk=>obtain⟨σ',H',I,q⟩:=h;exact⟨σ',H',I.gq,q⟩
 |cont=>obtain⟨σ',H',I,q⟩:=h;exact⟨σ',H',I.gq,q⟩
 |ret u=>obtain⟨v,σ',H',I,r,q⟩:=h;exact⟨v,σ',H',I.gq,r,q⟩
theorem PSs.nox{st:List Stmt}{t:TS}(h:PSs X.nox st t):PSs X st t:=fun pins s σ H D I hw=>
 wpAny_mono (h pins s σ H D (I.qW _) hw) (fun _ _ q=>q.gq) fun _ _ z=>False.elim z
end
section
variable{X:Cx}{st:Stmt}{rest:List Stmt}{t u:TS}{e:Expr}{te:TE}{pos:Pos}
def ID:TS:=fun D σ H=>D.nx σ H
def Kh(t u:TS):TS:=fun D σ H=>t {D with nx:=u D} σ H
theorem DI:PSs X [] ID:=fun _ _ σ H _ I h=>wpAny_execs_nil ⟨σ,H,I,h⟩
theorem Cv(h1:PS X st t)(h2:PSs X rest u):PSs X (st :: rest) (Kh t u):=by
 intro pins s σ H D I h
 refine wpAny_execs_cons (thn (h1 pins s σ H {D with nx:=u D} I h) fun f s1 q=>?_)
 cases f with
 |next=>
  obtain⟨σ',H',I',q⟩:=q
  exact h2 pins s1 σ' H' D I' q
 |ret v=>exact q
 |brk=>exact q
 |cont=>exact q
theorem CM(h1:PS X st t):PSs X [st] t:=by
 intro pins s σ H D I h
 refine wpAny_execs_cons (thn (h1 pins s σ H D I h) fun f s1 q=>?_)
 cases f with
 |next=>exact wpAny_execs_nil q
 |ret v=>exact q
 |brk=>exact q
 |cont=>exact q
theorem Inv.quiet{pins:List (Addr×Obj)}{σ:St}{H:Hp}{s:Shared}(I:Inv X pins σ H s):interactive X.env=false:=by simp [interactive,I.ok.kind]
def JH(te:TE):TS:=fun D σ H=>te σ H fun _ H1=>D.nx σ H1
theorem Ei(he:PE X e te)(hs:swapsWith e none pos.line X.env=pure false:=by rfl):PS X (.Expr e pos) (JH te):=by
 intro pins s σ H D I h
 exact wpAny_Expr_any (thn (he pins s σ H _ I h) fun v s1 ⟨x,H1,I1,r1,q1⟩=>⟨σ,H1,I1,q1⟩) I.quiet hs
def J6(te:TE):TS:=fun D σ H=>te σ H D.rt
theorem GV(he:PE X e te):PS X (.Return (some e) pos) (J6 te):=by
 intro pins s σ H D I h
 exact wpAny_Return_some (thn (he pins s σ H _ I h) fun v s1 ⟨x,H1,I1,r1,q1⟩=>⟨x,σ,H1,I1,r1,q1⟩)
def JR(c:TT)(t u:TS):TS:=fun D σ H=>c σ H fun b H1=>if b=true then t D σ H1 else u D σ H1
theorem Jn{c:Expr}{a b:List Stmt}{tc:TT}(hc:PT X c tc)(ha:PSs X a t)(hb:PSs X b u):PS X (.If c a b pos) (JR tc t u):=by
 intro pins s σ H D I h
 refine wpAny_If (thn (hc pins s σ H _ I h) fun d s1 ⟨H1,I1,q1⟩=>?_)
 cases d with
 |true=>exact ha pins s1 σ H1 D I1 q1
 |false=>exact hb pins s1 σ H1 D I1 q1
end
abbrev TG:=V->St->Hp->(St->Hp->Prop)->Prop
abbrev TGs:=List V->St->Hp->(St->Hp->Prop)->Prop
def PG(X:Cx)(target:Expr)(t:TG):Prop:=
 ∀(pins:List (Addr×Obj)) (s:Shared) (σ:St) (H:Hp) (v:V) (u:Value) (Q:St->Hp->Prop),Inv X pins σ H s->RelV v u->t v σ H Q->
  wpAny (model X.prog X.w) X.A (assign target X.env u) (fun _ s'=>∃σ' H',Inv X pins σ' H' s'/\Q σ' H') X.xe s
def PGs(X:Cx)(ts:List Expr)(t:TGs):Prop:=
 ∀(pins:List (Addr×Obj)) (s:Shared) (σ:St) (H:Hp) (vs:List V) (us:List Value) (Q:St->Hp->Prop),Inv X pins σ H s->Vals vs us->t vs σ H Q->
  wpAny (model X.prog X.w) X.A (assignInOrder ((assignEach ts X.env).map (·.2)) us) (fun _ s'=>∃σ' H',Inv X pins σ' H' s'/\Q σ' H') X.xe s
abbrev Ba:=V->V->V->Hp->(Hp->Prop)->Prop
def uv(X:Cx)(t:Ba):Prop:=
 ∀(pins:List (Addr×Obj)) (s:Shared) (σ:St) (H:Hp) (o i v:V) (ov iv u:Value) (Q:Hp->Prop),Inv X pins σ H s->RelV o ov->RelV i iv->RelV v u->t o i v H Q->
  wpAny (model X.prog X.w) X.A (setItem ov iv u) (fun _ s'=>∃H',Inv X pins σ H' s'/\Q H') X.xe s
section
variable{X:Cx}{pos:Pos}
def Ep(i:Nat):TG:=fun v σ H Q=>Q (σ.set i (some v)) H
theorem ur{i:Nat}{x:Str}(hN:X.N.Nodup)(hi:X.N[i]? =some x)(hx:Loc X.env.scope x)(hf:X.fn x=true\/X.env.scope.names.lookup x=some .local:=by first |exact .inl rfl |exact .inr rfl |assumption):PG X (.Name x pos) (Ep i):=by
 intro pins s σ H v u Q I r h
 exact wpAny_assign_Name (vt I hN hi hx r (fun s' I'=>⟨_,H,I',h⟩) hf)
def JX:TGs:=fun vs σ H Q=>vs=[]/\Q σ H
def Ij(t:TG)(u:TGs):TGs:=fun vs σ H Q=>∃v r,vs=v :: r/\t v σ H fun σ' H'=>u r σ' H' Q
theorem De:PGs X [] JX:=by
 intro pins s σ H vs us Q I r h
 obtain⟨e,h⟩:=h
 subst e
 cases r
 exact assignInOrder_nil ⟨σ,H,I,h⟩
theorem AN{e:Expr}{es:List Expr}{t:TG}{u:TGs}(h1:PG X e t)(h2:PGs X es u)
 (hs:(assignEach (e :: es) X.env).map (·.2)=assign e X.env :: (assignEach es X.env).map (·.2):=by rfl):PGs X (e :: es) (Ij t u):=by
 intro pins s σ H vs us Q I r h
 obtain⟨v,vr,e1,h⟩:=h
 subst e1
 cases r with
 |cons r rr=>
  rw[hs]
  refine assignInOrder_cons (thn (h1 pins s σ H _ _ _ I r h) fun _ s1 ⟨σ1,H1,I1,q1⟩=>?_)
  exact h2 pins s1 σ1 H1 _ _ Q I1 rr q1
def Kc(K:PySem.W.Frag)(n:Nat)(t:TGs):TG:=fun v σ H Q=>∃a xs,v= .ref a/\SqT K H a xs/\xs.length=n/\t xs σ H Q
theorem GJ{es:List Expr}{k:Nat}{t:TGs}{n:Nat}(hc:X.calm=true)(h:PGs X es t)
 (hn:(assignEach es X.env).length=n:=by rfl) (hst:(assignEach es X.env).findIdx? (·.1)=none:=by rfl):PG X (.Tuple es k pos) (Kc X.K n t):=by
 intro pins s σ H v u Q I r hw
 obtain⟨a,xs,e1,hq,hl,hw⟩:=hw
 subst e1
 cases r
 obtain⟨its,rv,ht,hz⟩:=I.tuple hq
 refine assign_Tuple_tuple (I.ok.hd hc) ht (by simp [hn,<-hl,rv.length]) hst fun h' hx=>?_
 have I1:Inv X pins σ H {s with heap:=h'}:=I.kept (t':=s.toks) fun b o e=>hx b o (Nat.ne_of_lt (Heap.lt_size e)) e
 exact h pins _ σ H xs _ Q I1 (by simpa using rv) hw
def JM(to ti:TE)(t:Ba):TG:=fun v σ H Q=>to σ H fun o H1=>ti σ H1 fun i H2=>t o i v H2 fun H3=>Q σ H3
theorem BH{o i:Expr}{to ti:TE}{t:Ba}(ho:PE X o to)(hi:PE X i ti)(hs:uv X t)
 (ha:∀v,assign (.Subscript o i pos) X.env v=(do
   let ov <-holding [v] (eval o X.env)
   let iv <-holding [v,ov] (eval i X.env)
   standAt pos
   holding [v,ov,iv] (setItem ov iv v)
   release [v,ov,iv] []):=by intro _;rfl):PG X (.Subscript o i pos) (JM to ti t):=by
 intro pins s σ H v u Q I r h
 rw[ha]
 refine wpAny_bind (wpAny_holding (thn (ho pins s σ H _ I h) fun ov s1 ⟨x,H1,I1,r1,q1⟩=>?_))
 refine wpAny_bind (wpAny_holding (thn (hi pins s1 σ H1 _ I1 q1) fun iv s2 ⟨y,H2,I2,r2,q2⟩=>?_))
 refine wpAny_bind (wpAny_standAt (wpAny_bind (wpAny_holding (thn (hs pins s2 σ H2 x y v ov iv u _ I2 r1 r2 r q2) fun _ s3 ⟨H3,I3,q3⟩=>?_))))
 exact wpAny_release ⟨σ,H3,I3,q3⟩
def IP(te:TE)(g:TG):TS:=fun D σ H=>te σ H fun x H1=>g x σ H1 D.nx
theorem xJ{tg e:Expr}{te:TE}{g:TG}(he:PE X e te)(hg:PG X tg g)(hs:swapsWithSole [tg] e pos.line X.env=pure false:=by rfl)(hw:swappedStores [tg] e X.env=pure none:=by rfl)
 (h1:(assignEach [tg] X.env).map (·.2)=[assign tg X.env]:=by rfl):PS X (.Assign [tg] e pos) (IP te g):=by
 intro pins s σ H D I h
 refine wpAny_Assign_stores (thn (he pins s σ H _ I h) fun v s1 ⟨x,H1,I1,r1,q1⟩=>?_) hs hw
 rw[h1]
 exact thn (hg pins s1 σ H1 x v _ I1 r1 q1) fun _ s2 q=>q
theorem Fn{i:Nat}{x:Str}{e:Expr}{te:TE}{pos':Pos}(hN:X.N.Nodup)(hi:X.N[i]? =some x)(hx:Loc X.env.scope x)(he:PE X e te)(hs:swapsWith e (some (.Name x pos')) pos.line X.env=pure false:=by rfl)(hf:X.fn x=true\/X.env.scope.names.lookup x=some .local:=by first |exact .inl rfl |exact .inr rfl |assumption):
 PS X (.Assign [.Name x pos'] e pos) (IP te (Ep i)):=by
 intro pins s σ H D I h
 refine wpAny_Assign_Name (thn (he pins s σ H _ I h) fun v s1 ⟨y,H1,I1,r1,q1⟩=>?_) hs
 exact vt I1 hN hi hx r1 (fun s2 I2=>⟨_,H1,I2,q1⟩) hf
def Fj(c:TT)(tb:TS):TS:=fun D σ H=>∃W:Nat->St->Hp->Prop,(∃m,W m σ H)/\∀m σ H,W m σ H->
 c σ H fun b H1=>if b=true then ∃N:St->Hp->Prop,(∀σ' H',N σ' H'->∃m',m' < m/\W m' σ' H')/\tb {D with nx:=N,ct:=N,bk:=D.nx} σ H1 else D.nx σ H1
theorem Bt{c:Expr}{body:List Stmt}{tc:TT}{tb:TS}(hp:PassesOwn (model X.prog X.w) X.A X.env X.xe)(hc:PT X c tc)(hb:PSs X body tb):PS X (.While c body [] pos) (Fj tc tb):=by
 intro pins s σ H D I h
 obtain⟨W,⟨m0,w0⟩,turn⟩:=h
 refine wpAny_While (codeAny_whileLoop (fun n s'=>∃σ' H',Inv X pins σ' H' s'/\W n σ' H') ?_ m0 ⟨σ,H,I,w0⟩)
 rintro n s1 ⟨σ1,H1,I1,w1⟩
 refine wpAny_passesOwn hp (thn (hc pins s1 σ1 H1 _ I1 (turn n σ1 H1 w1)) fun b s2 ⟨H2,I2,q2⟩=>?_)
 cases b with
 |true=>
  obtain⟨N,hN,q2⟩:=q2
  rw[if_pos rfl]
  refine wpAny_passesOwn hp (thn (hb pins s2 σ1 H2 _ I2 q2) fun f s3 q3=>?_)
  cases f with
  |next=>
   obtain⟨σ3,H3,I3,n3⟩:=q3
   obtain⟨m',hm,w3⟩:=hN σ3 H3 n3
   exact⟨m',hm,σ3,H3,I3,w3⟩
  |cont=>
   obtain⟨σ3,H3,I3,n3⟩:=q3
   obtain⟨m',hm,w3⟩:=hN σ3 H3 n3
   exact⟨m',hm,σ3,H3,I3,w3⟩
  |brk=>exact q3
  |ret v=>exact q3
 |false=>
  rw[if_neg qC_]
  exact wpAny_execs_nil ⟨σ1,H2,I2,q2⟩
end
structure It where
 go:Nat->Hp->Prop
 yld:Nat->Hp->V->Hp->Prop
 stop:Nat->Hp->Prop
def nJ(X:Cx)(pins:List (Addr×Obj))(H:Hp)(b:Addr):Prop:=
 H b=none/\b≠X.env.locals/\b∉X.fs/\(b∈X.ex\/X.s₀.heap.objs.size<=b)/\(∀x c,X.env.cells.lookup x=some c->c≠b)/\∀p∈X.pn++pins,p.1≠b
theorem Inv.AA{X:Cx}{pins:List (Addr×Obj)}{σ:St}{H H':Hp}{s:Shared}{b:Addr}(I:Inv X pins σ H s)(hb:s.heap.objs.size<=b)(hn:H' b=none):nJ X pins H' b:=by
 refine⟨hn,Nat.ne_of_gt (qd_ I.lt hb),I.J8 hb,.inr (Nat.le_trans I.sz hb),fun x c e z=>?_,fun p hp z=>?_⟩
 · obtain⟨v,q⟩:=I.cell x c e
   exact absurd (qd_ q.lt (by rw[z];exact hb)) (qe_ _)
 · exact absurd (qd_ (Heap.lt_size (I.pin p hp).1) (by rw[z];exact hb)) (qe_ _)
structure Turn (P:Program) (w:World) (K:PySem.W.Frag) (tg:Expr) (J:It) (fp:List Addr) (it:Addr) (tn:Nat->Heap->Prop):Prop where
 mem:it∈fp
 obj:∀i h,tn i h->∀b∈fp,∃o,h.get? b=some o/\∀v,o.data≠.cell v
 keep:∀i h h',tn i h->(∀b∈fp,∀o,h.get? b=some o->h'.get? b=some o)->tn i h'
 item:∀(X:Cx),X.prog=P->X.w=w->X.K=K->X.calm=true->∀(i:Nat) (pins:List (Addr×Obj)) (s:Shared) (σ:St) (H:Hp) (E:Value->Shared->Prop),Inv X pins σ H s->(∀b∈fp,nJ X pins H b)->tn i s.heap->J.go i H->
  wpAny (model P w) X.A (pyNext (.ref it)) (fun r s1=>∃u,r=some u/\
   wpAny (model P w) X.A (letOwnedTupleGo tg (.ref it) u) (fun _ s2=>∃x H',Inv X pins σ H' s2/\RelV x u/\J.yld i H x H'/\tn (i+1) s2.heap/\∀b∈fp,H' b=none) E s1) E s
 done:∀(X:Cx),X.prog=P->X.w=w->X.K=K->X.calm=true->∀(i:Nat) (pins:List (Addr×Obj)) (s:Shared) (σ:St) (H:Hp) (E:Value->Shared->Prop),Inv X pins σ H s->(∀b∈fp,nJ X pins H b)->tn i s.heap->J.stop i H->
  wpAny (model P w) X.A (pyNext (.ref it)) (fun r s1=>r=none/\Inv X pins σ H s1) E s
 self:∀(A:Around) (i:Nat) (s:Shared) (Q:Value->Shared->Prop) (E:Value->Shared->Prop),tn i s.heap->Q (.ref it) s->wpAny (model P w) A (pyIter (.ref it)) Q E s
abbrev TI:=St->Hp->(It->Hp->Prop)->Prop
def PIE(X:Cx)(pins:List (Addr×Obj))(σ:St)(tg:Expr)(R:It->Hp->Prop)(itv:Value)(s2:Shared):Prop:=
 ∃(it:Addr) (fp:List Addr) (tn:Nat->Heap->Prop) (J:It) (H':Hp),itv= .ref it/\Inv X pins σ H' s2/\Turn X.prog X.w X.K tg J fp it tn/\tn 0 s2.heap/\(∀b∈fp,nJ X pins H' b)/\R J H'
def PI(X:Cx)(tg iter:Expr)(wi:TI):Prop:=
 ∀(pins:List (Addr×Obj)) (s:Shared) (σ:St) (H:Hp) (R:It->Hp->Prop),Inv X pins σ H s->wi σ H R->
  wpAny (model X.prog X.w) X.A (eval iter X.env) (fun v s1=>wpAny (model X.prog X.w) X.A (pyIter v) (PIE X pins σ tg R) X.xe s1) X.xe s
theorem Cz{M:Model}{A:Around}{E:Value->Shared->Prop}{s:Shared}{tg:Expr}{it:Addr}{u:Value}{o:Obj}{n:String}{vs:Array Value}{Q:Unit->Shared->Prop}(ho:s.heap.get? it=some o)(hc:o.cls= .type n)(hd:o.data= .fields vs)
 (hn:["enumerate","zip","dict_itemiterator","dict_reverseitemiterator","odict_iterator","itertools.zip_longest","itertools.pairwise"].contains n=false) (hQ:Q () s):wpAny M A (letOwnedTupleGo tg (.ref it) u) Q E s:=by
 unfold letOwnedTupleGo
 cases tg <;> first
  |exact wpAny_pure hQ
  |(cases u <;> first
     |exact wpAny_pure hQ
     |(refine wpAny_bind (wpAny_load ho ?_)
       rw[hc,hd]
       show wpAny M A (if (["enumerate","zip","dict_itemiterator","dict_reverseitemiterator","odict_iterator","itertools.zip_longest","itertools.pairwise"].contains n&&vs[0]? ==some (rawInt _))=true then _ else _) Q E s
       rw[if_neg (by intro h;rw[hn,Bool.false_and]at h;cases h)]
       exact wpAny_pure hQ))
def Itl(K:PySem.W.Frag)(a:Addr):It:=
 ⟨fun i H=>∃xs x,SqL K H a xs/\xs[i]? =some x,fun i H x H'=>H'=H/\∀xs,SqL K H a xs->xs[i]? =some x,fun i H=>∃xs,SqL K H a xs/\xs.length<=i⟩
def Itt(K:PySem.W.Frag)(a:Addr):It:=
 ⟨fun i H=>∃xs x,SqT K H a xs/\xs[i]? =some x,fun i H x H'=>H'=H/\∀xs,SqT K H a xs->xs[i]? =some x,fun i H=>∃xs,SqT K H a xs/\xs.length<=i⟩
def Itr(lo:Int)(n:Nat):It:=⟨fun i _=>i < n,fun i H x H'=>H'=H/\x= .int (lo+i),fun i _=>n<=i⟩
theorem zf{P:Program}{w:World}{K:PySem.W.Frag}{tg:Expr}(a it:Addr):Turn P w K tg (Itl K a) [it] it (fun i h=>h.IsListIter it a i) where
 mem:=by simp
 obj:=fun i h st b hb=>by
  have e:b=it:=by simpa using hb
  subst e
  obtain⟨o,e,c,d⟩:=st
  exact⟨o,e,fun v z=>by rw[d]at z;cases z⟩
 keep:=fun i h h' st k=>st.at fun o e=>k it (by simp) o e
 item:=by
  intro X hP hw hK hc i pins s σ H E I hf st hg
  subst hP hw hK
  obtain⟨xs,x,hq,hx⟩:=hg
  obtain⟨its,rv,p,hz⟩:=I.list hq
  obtain⟨u,hu,ru⟩:=rv.get hx
  obtain⟨f0,f1,f2,f3,f4,f5⟩:=hf it (by simp)
  refine wpAny_pyNext_list_item st p.isList (x:=u) (by simpa using hu) fun h' st' sb=>?_
  have I1:Inv X pins σ H {s with heap:=h'}:=I.turned (t':=s.toks) (fun b o hb e=>(sb.2 b hb).trans e) f0 f1 f3 f4 f5
  obtain⟨o,e,c,d⟩:=id st'
  exact⟨u,rfl,Cz (s:={s with heap:=h'}) e c d (by decide) ⟨x,H,I1,ru,⟨rfl,fun ys hy=>by rw[I.kA hy hq];exact hx⟩,st',fun b hb=>(hf b hb).1⟩⟩
 done:=by
  intro X hP hw hK hc i pins s σ H E I hf st hg
  subst hP hw hK
  obtain⟨xs,hq,hx⟩:=hg
  obtain⟨its,rv,p,hz⟩:=I.list hq
  obtain⟨f0,f1,f2,f3,f4,f5⟩:=hf it (by simp)
  have hl:=rv.length
  exact wpAny_pyNext_list_end (I.ok.hd hc) st p.isList (by simp;omega) fun h' eb=>⟨rfl,I.turned (t':=s.toks) (fun b o hb e=>eb b o hb e) f0 f1 f3 f4 f5⟩
 self:=fun _ _ _ _ _ st h=>wpAny_pyIter_listiter st h
theorem xK{P:Program}{w:World}{K:PySem.W.Frag}{tg:Expr}(a it:Addr):Turn P w K tg (Itt K a) [it] it (fun i h=>h.IsTupleIter it a i) where
 mem:=by simp
 obj:=fun i h st b hb=>by
  have e:b=it:=by simpa using hb
  subst e
  obtain⟨o,e,c,d⟩:=st
  exact⟨o,e,fun v z=>by rw[d]at z;cases z⟩
 keep:=fun i h h' st k=>st.at fun o e=>k it (by simp) o e
 item:=by
  intro X hP hw hK hc i pins s σ H E I hf st hg
  subst hP hw hK
  obtain⟨xs,x,hq,hx⟩:=hg
  obtain⟨its,rv,p,hz⟩:=I.tuple hq
  obtain⟨u,hu,ru⟩:=rv.get hx
  obtain⟨f0,f1,f2,f3,f4,f5⟩:=hf it (by simp)
  refine wpAny_pyNext_tuple_item st (show s.heap.IsTuple a its.toArray from p) (x:=u) (by simpa using hu) fun h' st' sb=>?_
  have I1:Inv X pins σ H {s with heap:=h'}:=I.turned (t':=s.toks) (fun b o hb e=>(sb.2 b hb).trans e) f0 f1 f3 f4 f5
  obtain⟨o,e,c,d⟩:=id st'
  exact⟨u,rfl,Cz (s:={s with heap:=h'}) e c d (by decide) ⟨x,H,I1,ru,⟨rfl,fun ys hy=>by rw[I.kO hy hq];exact hx⟩,st',fun b hb=>(hf b hb).1⟩⟩
 done:=by
  intro X hP hw hK hc i pins s σ H E I hf st hg
  subst hP hw hK
  obtain⟨xs,hq,hx⟩:=hg
  obtain⟨its,rv,p,hz⟩:=I.tuple hq
  obtain⟨f0,f1,f2,f3,f4,f5⟩:=hf it (by simp)
  have hl:=rv.length
  exact wpAny_pyNext_tuple_end (I.ok.hd hc) st (show s.heap.IsTuple a its.toArray from p) (by simp;omega) fun h' eb=>⟨rfl,I.turned (t':=s.toks) (fun b o hb e=>eb b o hb e) f0 f1 f3 f4 f5⟩
 self:=fun _ _ _ _ _ st h=>wpAny_pyIter_tupleiter st h
theorem xo{P:Program}{w:World}{K:PySem.W.Frag}{tg:Expr}(it:Addr)(lo:Int)(n:Nat):Turn P w K tg (Itr lo n) [it] it (fun i h=>IsRangeIter h it (lo+(i:Nat)*1) ((n:Int) - (i:Nat)) 1) where
 mem:=by simp
 obj:=fun i h st b hb=>by
  have e:b=it:=by simpa using hb
  subst e
  exact⟨_,st,fun v z=>by
   have z':Data.fields _=Data.cell v:=z
   cases z'⟩
 keep:=fun i h h' st k=>k it (by simp) _ st
 item:=by
  intro X hP hw hK hc i pins s σ H E I hf st hg
  subst hP hw hK
  obtain⟨f0,f1,f2,f3,f4,f5⟩:=hf it (by simp)
  have W:=Walks.range (prog:=X.prog) (w:=X.w) (I.ok.hd hc) it lo 1 n
  refine W.item i s _ _ hg st fun v h' tk hv st' kk=>?_
  obtain⟨t,rfl⟩:=hv
  have I1:Inv X pins σ H {s with heap:=h',toks:=tk}:=I.turned (fun b o hb e=>kk b o (by simpa using hb) e) f0 f1 f3 f4 f5
  refine⟨_,rfl,Cz (s:={s with heap:=h',toks:=tk}) (n:="range_iterator") st' rfl rfl (by decide) ⟨.int (lo+i),H,I1,⟨t,?_⟩,⟨rfl,rfl⟩,st',fun b hb=>(hf b hb).1⟩⟩
  rw[Int.mul_one]
 done:=by
  intro X hP hw hK hc i pins s σ H E I hf st hg
  subst hP hw hK
  obtain⟨f0,f1,f2,f3,f4,f5⟩:=hf it (by simp)
  exact wpAny_pyNext_range_end (I.ok.hd hc) st (by have:n<=i:=hg;omega) fun h' eb=>⟨rfl,I.turned (t':=s.toks) (fun b o hb e=>eb b o hb e) f0 f1 f3 f4 f5⟩
 self:=fun _ _ _ _ _ st h=>wpAny_pyIter_rangeiter st h
section
variable{X:Cx}{tg:Expr}
theorem Aw{pins:List (Addr×Obj)}{σ:St}{H:Hp}{s:Shared}{R:It->Hp->Prop}{E:Value->Shared->Prop}{lo hi:Int}{t u v:Tok}{tk:Nat}(I:Inv X pins σ H s)(h1:-(2 ^ 62)<=lo)(h2:lo < 2 ^ 62)(h3:-(2 ^ 62)<=hi)(h4:hi < 2 ^ 62)
 (q:R (Itr lo (hi - lo).toNat) H):wpAny (model X.prog X.w) X.A (pyIter (.ref s.heap.objs.size)) (PIE X pins σ tg R) E {s with heap:=s.heap.push {cls:= .type "range",data:= .fields #[.int lo t,.int hi u,.int 1 v]},toks:=tk}:=by
 refine wpAny_pyIter_range (IsRange.new ..) (small_one h1 h2 h3 h4) ?_
 have I1:Inv X pins σ H {s with heap:=s.heap.push {cls:= .type "range",data:= .fields #[.int lo t,.int hi u,.int 1 v]},toks:=tk}:=I.kept fun b o e=>Heap.get?_push_of_some _ e
 refine⟨(s.heap.push {cls:= .type "range",data:= .fields #[.int lo t,.int hi u,.int 1 v]}).objs.size,[(s.heap.push {cls:= .type "range",data:= .fields #[.int lo t,.int hi u,.int 1 v]}).objs.size],_,_,H,rfl,
  I1.kept (t':=tk) fun b o e=>Heap.get?_push_of_some _ e,xo _ lo (hi - lo).toNat,?_,fun b hb=>?_,q⟩
 · have e1:lo+((0:Nat):Int)*1=lo:=by simp
   have e2:(((hi - lo).toNat:Nat):Int) - ((0:Nat):Int)=Builtin.Range.rangeSize lo hi 1:=by rw[rangeSize_one];split <;> omega
   show IsRangeIter _ _ (lo+((0:Nat):Int)*1) ((((hi - lo).toNat:Nat):Int) - ((0:Nat):Int)) 1
   rw[e1,e2]
   exact Heap.get?_push_size _ rfl
 · have e:b=(s.heap.push {cls:= .type "range",data:= .fields #[.int lo t,.int hi u,.int 1 v]}).objs.size:=by simpa using hb
   subst e
   exact I1.AA (qO_ _) (I1.hok.fresh (qO_ _))
def gs(ta:TA):TI:=fun σ H R=>ta σ H fun vs H1=>∃j:Int,vs=[.int j]/\-(2 ^ 62)<=j/\j < 2 ^ 62/\R (Itr 0 j.toNat) H1
theorem yU{a:Expr}{ta:TA}{p pos:Pos}(hg:Gl X "range")(hm:X.mg "range"=none)(ha:PA X [a] ta)(hs:starEach [a] X.env=[(false,eval a X.env)]:=by rfl):PI X tg (.Call (.Name "range" p) [a] [] pos) (gs ta):=by
 intro pins s σ H R I h
 refine Call_ (nE I hg hm boot_range (PyProof.Rows.callWith_type1 (thn (ha pos pins s σ H _ I h) fun us s1 ⟨vs,H1,I1,r1,q1⟩=>?_) hs rfl))
 obtain⟨j,e,q1,q2,q⟩:=q1
 subst e
 cases r1 with
 |cons r rr=>
  cases rr
  obtain⟨t,rfl⟩:=r
  exact call_range_1 (Aw I1 (by omega) (by omega) q1 q2 (by simpa using q))
def J9(wi:TI)(g:TG)(tb:TS):TS:=fun D σ H=>wi σ H fun J H1=>∃W:Nat->Nat->St->Hp->Prop,(∃m,W 0 m σ H1)/\∀i m σ H,W i m σ H->
 (J.stop i H/\D.nx σ H)\/(J.go i H/\∃N:St->Hp->Prop,(∀σ' H',N σ' H'->∃m',m' < m/\W (i+1) m' σ' H')/\∀x H',J.yld i H x H'->g x σ H' fun σ2 H2=>tb {D with nx:=N,ct:=N,bk:=D.nx} σ2 H2)
def qG(fp:List Addr)(h:Heap):List (Addr×Obj):=fp.filterMap fun b=>(h.get? b).map fun o=>(b,o)
theorem iP{fp:List Addr}{h:Heap}{b:Addr}{o:Obj}(hb:b∈fp)(e:h.get? b=some o):(b,o)∈qG fp h:=List.mem_filterMap.mpr ⟨b,hb,by rw[e];rfl⟩
theorem zI{fp:List Addr}{h:Heap}{p:Addr×Obj}(hp:p∈qG fp h):p.1∈fp/\h.get? p.1=some p.2:=by
 obtain⟨b,hb,e⟩:=List.mem_filterMap.mp hp
 cases q:h.get? b with
 |none=>rw[q]at e;cases e
 |some o=>
  rw[q]at e
  have e':(b,o)=p:=Option.some.inj e
  subst e'
  exact⟨hb,q⟩
theorem Inv.pinned{pins:List (Addr×Obj)}{σ:St}{H:Hp}{s:Shared}{fp:List Addr}(I:Inv X pins σ H s)(hf:∀b∈fp,nJ X pins H b)(ho:∀b∈fp,∃o,s.heap.get? b=some o/\∀v,o.data≠.cell v):Inv X (pins++qG fp s.heap) σ H s:=
 I.o8 fun p hp=>(qG_.mp hp).elim (fun z=>I.pin p (qE_ _ z)) fun z=>by
   obtain⟨hb,e⟩:=zI z
   obtain⟨f0,f1,f2,_⟩:=hf p.1 hb
   obtain⟨o,e',d⟩:=ho p.1 hb
   rw[e]at e';cases e'
   exact⟨e,f0,f1,f2,d⟩
theorem Inv.jK{pins pl:List (Addr×Obj)}{σ:St}{H:Hp}{s:Shared}(I:Inv X (pins++pl) σ H s):Inv X pins σ H s:=I.o8 fun p hp=>I.pin p (qE_ _ (qF_ _ hp))
theorem Av{iter:Expr}{body:List Stmt}{wi:TI}{g:TG}{tb:TS}{pos:Pos}(hp:PassesOwn (model X.prog X.w) X.A X.env X.xe)(hc:X.calm=true)(hi:PI X tg iter wi)(hg:PG X tg g)(hb:PSs X body tb)
 (hs:∀x,foldedSetIterable iter X.env x=pure x:=by intro _;rfl):PS X (.For tg iter body [] pos) (J9 wi g tb):=by
 intro pins s σ H D I h
 refine wpAny_For (thn (hi pins s σ H _ I h) fun v s1 h1=>thn h1 fun itv s2 h2=>?_) hs
 obtain⟨it,fp,tn,J,H2,e,I2,T,st2,f2,W,⟨m0,w0⟩,turn⟩:=h2
 subst e
 have stat:∀{H':Hp},(∀b∈fp,H' b=none)->∀b∈fp,nJ X pins H' b:=fun hn b hb=>⟨hn b hb,(f2 b hb).2⟩
 refine codeAny_forLoop_any (fun n s'=>∃i σ' H',Inv X pins σ' H' s'/\tn i s'.heap/\(∀b∈fp,H' b=none)/\W i n σ' H') ?_ m0 ⟨0,σ,H2,I2,st2,fun b hb=>(f2 b hb).1,w0⟩
 rintro n s3 ⟨i,σ3,H3,I3,st3,fr3,w3⟩
 rcases turn i n σ3 H3 w3 with ⟨stop,qn⟩ |⟨go,N,hN,step⟩
 · refine wpAny_passesOwn hp (thn (T.done X rfl rfl rfl hc i pins s3 σ3 H3 X.xe I3 (stat fr3) st3 stop) fun r s4 ⟨hr,I4⟩=>?_)
   subst hr
   exact wpAny_execs_nil ⟨σ3,H3,I4,qn⟩
 · refine wpAny_passesOwn hp (thn (T.item X rfl rfl rfl hc i pins s3 σ3 H3 X.xe I3 (stat fr3) st3 go) fun r s4 ⟨u,hr,h4⟩=>?_)
   subst hr
   refine wpAny_passesOwn hp (thn h4 fun _ s5 ⟨x,H5,I5,r5,y5,st5,fr5⟩=>?_)
   have I5':=I5.pinned (stat fr5) (T.obj _ _ st5)
   refine wpAny_passesOwn hp (thn (hg _ s5 σ3 H5 x u _ I5' r5 (step x H5 y5)) fun _ s6 ⟨σ6,H6,I6,q6⟩=>?_)
   refine wpAny_passesOwn hp (thn (hb _ s6 σ6 H6 _ I6 q6) fun f s7 q7=>?_)
   have again:∀{σ7:St} {H7:Hp},Inv X (pins++qG fp s5.heap) σ7 H7 s7->N σ7 H7->∃m,m < n/\∃i σ' H',Inv X pins σ' H' s7/\tn i s7.heap/\(∀b∈fp,H' b=none)/\W i m σ' H':=fun {σ7 H7} I7 n7=>by
    obtain⟨m',hm,w7⟩:=hN σ7 H7 n7
    refine⟨m',hm,i+1,σ7,H7,I7.jK,T.keep _ _ _ st5 fun b hb o e=>(I7.pin (b,o) (qE_ _ (qE_ _ (iP hb e)))).1,fun b hb=>?_,w7⟩
    obtain⟨o,e,d⟩:=T.obj _ _ st5 b hb
    exact(I7.pin (b,o) (qE_ _ (qE_ _ (iP hb e)))).2.1
   cases f with
   |next=>obtain⟨σ7,H7,I7,n7⟩:=q7;exact again I7 n7
   |cont=>obtain⟨σ7,H7,I7,n7⟩:=q7;exact again I7 n7
   |brk=>obtain⟨σ7,H7,I7,q7⟩:=q7;exact⟨σ7,H7,I7.jK,q7⟩
   |ret v=>obtain⟨x7,σ7,H7,I7,r7,q7⟩:=q7;exact⟨x7,σ7,H7,I7.jK,r7,q7⟩
end
abbrev R2:=V->V->Hp->VK->Prop
def OpR(X:Cx)(f:Value->Value->Sem Value)(r:R2):Prop:=
 ∀(pins:List (Addr×Obj)) (s:Shared) (σ:St) (H:Hp) (x y:V) (v u:Value) (Q:VK),Inv X pins σ H s->RelV x v->RelV y u->r x y H Q->
  wpAny (model X.prog X.w) X.A (f v u) (EP X pins σ Q) X.xe s
def UnR(X:Cx)(f:Value->Sem Value)(r:V->Hp->VK->Prop):Prop:=
 ∀(pins:List (Addr×Obj)) (s:Shared) (σ:St) (H:Hp) (x:V) (v:Value) (Q:VK),Inv X pins σ H s->RelV x v->r x H Q->
  wpAny (model X.prog X.w) X.A (f v) (EP X pins σ Q) X.xe s
def fL(X:Cx)(f:Value)(r:List V->Hp->VK->Prop):Prop:=
 ∀(pins:List (Addr×Obj)) (s:Shared) (σ:St) (H:Hp) (xs:List V) (us:List Value) (Q:VK),Inv X pins σ H s->Vals xs us->r xs H Q->
  wpAny (model X.prog X.w) X.A (call f us) (EP X pins σ Q) X.xe s
def Kp(X:Cx)(r:V->Hp->(Bool->Hp->Prop)->Prop):Prop:=
 ∀(pins:List (Addr×Obj)) (s:Shared) (σ:St) (H:Hp) (x:V) (v:Value) (Q:Bool->Hp->Prop),Inv X pins σ H s->RelV x v->r x H Q->
  wpAny (model X.prog X.w) X.A (truthy v) (TP X pins σ Q) X.xe s
def tOp(r:R2)(ta tb:TE):TE:=fun σ H Q=>ta σ H fun x H1=>tb σ H1 fun y H2=>r x y H2 Q
def tUn(r:V->Hp->VK->Prop)(ta:TE):TE:=fun σ H Q=>ta σ H fun x H1=>r x H1 Q
def rI(C:Int->Int->Prop)(g:Int->Int->V):R2:=fun x y H Q=>∃i j,x= .int i/\y= .int j/\C i j/\Q (g i j) H
def rI0(g:Int->Int->V):R2:=fun x y H Q=>∃i j,x= .int i/\y= .int j/\Q (g i j) H
def rU(g:Int->V):V->Hp->VK->Prop:=fun x H Q=>∃i,x= .int i/\Q (g i) H
section
variable{X:Cx}{a b c:Expr}{ta tb tc:TE}{pos:Pos}
theorem FQ(ha:PE X a ta)(hb:PE X b tb){pins:List (Addr×Obj)}{s:Shared}{σ:St}{H:Hp}{R:V->V->Hp->Prop}(I:Inv X pins σ H s)
 (h:ta σ H fun x H1=>tb σ H1 fun y H2=>R x y H2) {Q:Value->Shared->Prop} {f:Value->Value->Sem Value}
 (hf:∀v u s2 x y H2,Inv X pins σ H2 s2->RelV x v->RelV y u->R x y H2->wpAny (model X.prog X.w) X.A (f v u) Q X.xe s2):
 wpAny (model X.prog X.w) X.A (eval a X.env) (fun v s₁=>wpAny (model X.prog X.w) X.A (eval b X.env) (fun u s₂=>wpAny (model X.prog X.w) X.A (f v u) Q X.xe s₂) X.xe s₁) X.xe s:=by
 refine thn (ha pins s σ H _ I h) fun v s1 ⟨x,H1,I1,r1,q1⟩=>?_
 refine thn (hb pins s1 σ H1 _ I1 q1) fun u s2 ⟨y,H2,I2,r2,q2⟩=>?_
 exact hf v u s2 x y H2 I2 r1 r2 q2
theorem IS{op:Operator}{r:R2}(ho:OpR X (binaryOp op) r)(ha:PE X a ta)(hb:PE X b tb):PE X (.BinOp a op b pos) (tOp r ta tb):=by
 intro pins s σ H Q I h
 exact wpAny_BinOp (FQ ha hb I h fun v u s2 x y H2 I2 rx ry q=>ho pins s2 σ H2 x y v u Q I2 rx ry q)
theorem Ik{op:UnaryOp}{r:V->Hp->VK->Prop}(ho:UnR X (unaryOp op) r)(ha:PE X a ta):PE X (.UnaryOp op a pos) (tUn r ta):=by
 intro pins s σ H Q I h
 exact UnaryOp_ (thn (ha pins s σ H _ I h) fun v s1 ⟨x,H1,I1,r1,q1⟩=>ho pins s1 σ H1 x v Q I1 r1 q1)
theorem opI{f:Value->Value->Sem Value}{C:Int->Int->Prop}{g:Int->Int->Int}
 (rule:∀(i j:Int) (t u:Tok) (s:Shared) (Q:Value->Shared->Prop) (E:Value->Shared->Prop),C i j->Q (.int (g i j) s.toks) {s with toks:=s.toks+1}->wpAny (model X.prog X.w) X.A (f (.int i t) (.int j u)) Q E s):
 OpR X f (rI C fun i j=>.int (g i j)):=by
 intro pins s σ H x y v u Q I rx ry h
 obtain⟨i,j,rfl,rfl,hc,q⟩:=h
 obtain⟨t,rfl⟩:=rx
 obtain⟨t',rfl⟩:=ry
 exact rule i j t t' s _ _ hc ⟨.int (g i j),H,I.tok _,⟨_,rfl⟩,q⟩
theorem Ie{f:Value->Value->Sem Value}{g:Int->Int->Int}
 (rule:∀(i j:Int) (t u:Tok) (s:Shared) (Q:Value->Shared->Prop) (E:Value->Shared->Prop),Q (.int (g i j) s.toks) {s with toks:=s.toks+1}->wpAny (model X.prog X.w) X.A (f (.int i t) (.int j u)) Q E s):
 OpR X f (rI0 fun i j=>.int (g i j)):=by
 intro pins s σ H x y v u Q I rx ry h
 obtain⟨i,j,rfl,rfl,q⟩:=h
 obtain⟨t,rfl⟩:=rx
 obtain⟨t',rfl⟩:=ry
 exact rule i j t t' s _ _ ⟨.int (g i j),H,I.tok _,⟨_,rfl⟩,q⟩
theorem Hw{f:Value->Value->Sem Value}{g:Int->Int->Bool}
 (rule:∀(i j:Int) (t u:Tok) (s:Shared) (Q:Value->Shared->Prop) (E:Value->Shared->Prop),Q (.bool (g i j)) s->wpAny (model X.prog X.w) X.A (f (.int i t) (.int j u)) Q E s):
 OpR X f (rI0 fun i j=>.bl (g i j)):=by
 intro pins s σ H x y v u Q I rx ry h
 obtain⟨i,j,rfl,rfl,q⟩:=h
 obtain⟨t,rfl⟩:=rx
 obtain⟨t',rfl⟩:=ry
 exact rule i j t t' s _ _ ⟨.bl (g i j),H,I,rfl,q⟩
def Dk(i j:Int):Prop:=(-(2 ^ 64) < i/\i < 2 ^ 64)\/(-(2 ^ 64) < j/\j < 2 ^ 64)
theorem Dk.ok{i j:Int}(h:Dk i j):IntMulOk i j:=by
 rcases h with ⟨h1,h2⟩ |⟨h1,h2⟩
 · exact .of_left (intBits_le_64 h1 h2)
 · exact .of_right (intBits_le_64 h1 h2)
theorem HE:OpR X (binaryOp .Add) (rI0 fun i j=>.int (i+j)):=Ie fun _ _ _ _ _ _ _ q=>add_int q
theorem F2:OpR X (binaryOp .Sub) (rI0 fun i j=>.int (i - j)):=Ie fun _ _ _ _ _ _ _ q=>sub_int q
theorem GB:OpR X (binaryOp .Mult) (rI Dk fun i j=>.int (i*j)):=opI fun _ _ _ _ _ _ _ hc q=>mul_int q hc.ok
theorem Fu:OpR X (binaryOp .Mod) (rI (fun _ j=>0 < j) fun i j=>.int (i % j)):=opI fun i j _ _ _ _ _ hc q=>by
 have h1:(0:Int) < j:=hc
 exact mod_int' (by omega) (by rw[Int.fmod_eq_emod_of_nonneg i (by omega)];exact q)
theorem unI{f:Value->Sem Value}{g:Int->Int}
 (rule:∀(i:Int) (t:Tok) (s:Shared) (Q:Value->Shared->Prop) (E:Value->Shared->Prop),Q (.int (g i) s.toks) {s with toks:=s.toks+1}->wpAny (model X.prog X.w) X.A (f (.int i t)) Q E s):
 UnR X f (rU fun i=>.int (g i)):=by
 intro pins s σ H x v Q I rx h
 obtain⟨i,rfl,q⟩:=h
 obtain⟨t,rfl⟩:=rx
 exact rule i t s _ _ ⟨.int (g i),H,I.tok _,⟨_,rfl⟩,q⟩
theorem F6:UnR X (unaryOp .USub) (rU fun i=>.int (-i)):=unI fun _ _ _ _ _ q=>neg_int q
theorem Ip:OpR X (compareOp .Lt) (rI0 fun i j=>.bl (decide (i < j))):=Hw fun _ _ _ _ _ _ _ q=>lt_int q
theorem Jz:OpR X (compareOp .Gt) (rI0 fun i j=>.bl (decide (j < i))):=Hw fun _ _ _ _ _ _ _ q=>gt_int q
theorem IJ:OpR X (compareOp .GtE) (rI0 fun i j=>.bl (decide (j<=i))):=Hw fun _ _ _ _ _ _ _ q=>ge_int q
theorem OpR.or{f:Value->Value->Sem Value}{r r':R2}(h:OpR X f r)(h':OpR X f r'):OpR X f (fun x y H Q=>r x y H Q\/r' x y H Q):=by
 intro pins s σ H x y v u Q I rx ry q
 rcases q with q |q
 · exact h pins s σ H x y v u Q I rx ry q
 · exact h' pins s σ H x y v u Q I rx ry q
theorem my(b:Expr){op:CmpOp}(h:op≠.In:=by decide)(h2:op≠.NotIn:=by decide):behindInMarks op b=false:=by
 have e1:(op==CmpOp.In)=false:=by cases op <;> first |rfl |exact absurd rfl h
 have e2:(op==CmpOp.NotIn)=false:=by cases op <;> first |rfl |exact absurd rfl h2
 cases b <;> simp [behindInMarks,e1,e2]
theorem DY{op:CmpOp}{r:R2}(ho:OpR X (compareOp op) r)(ha:PE X a ta)(hb:PE X b tb)(hm:behindInMarks op b=false):PE X (.Compare a [op] [b] pos) (tOp r ta tb):=by
 intro pins s σ H Q I h
 exact wpAny_Compare1 (FQ ha hb I h fun v u s2 x y H2 I2 rx ry q=>ho pins s2 σ H2 x y v u Q I2 rx ry q) hm
def En(t:TE):TT:=fun σ H Q=>t σ H fun x H'=>∃k,x= .bl k/\Q k H'
theorem DA{op:CmpOp}{r:R2}(ho:OpR X (compareOp op) r)(ha:PE X a ta)(hb:PE X b tb)(hm:behindInMarks op b=false):PT X (.Compare a [op] [b] pos) (En (tOp r ta tb)):=by
 intro pins s σ H Q I h
 refine wpAny_isTrue_Compare1 (thn (ha pins s σ H _ I h) fun v s1 ⟨x,H1,I1,r1,q1⟩=>thn (hb pins s1 σ H1 _ I1 q1) fun u s2 ⟨y,H2,I2,r2,q2⟩=>
  thn (ho pins s2 σ H2 x y v u _ I2 r1 r2 q2) fun c s3 ⟨z,H3,I3,r3,k,e,q3⟩=>?_) hm
 subst e
 cases r3
 exact wpAny_truthy_bool ⟨H3,I3,q3⟩
def FP(K:PySem.W.Frag)(x:V)(H:Hp)(k:Bool):Prop:=
 match x with
 | .non=>k=false
 | .bl b=>k=b
 | .int i=>k=(i !=0)
 | .str y=>y.length<=sizeLine/\k=((y.length:Int)!=0)
 | .byt y=>y.size<=sizeLine/\k=((y.size:Int)!=0)
 | .ref p=>(∃xs,SqL K H p xs/\k= !xs.isEmpty)\/(∃xs,SqT K H p xs/\k= !xs.isEmpty)\/∃kvs,H p=some (.dK kvs)/\k= !kvs.isEmpty
 |_=>False
theorem wH{κ:Type}{kvs:List (κ×V)}{vs:List (κ×Value)}(r:KV kvs vs):(!vs.isEmpty)= !kvs.isEmpty:=by
 cases r <;> rfl
theorem pH{xs:List V}{its:List Value}(r:Vals xs its):(!its.toArray.isEmpty)= !xs.isEmpty:=by
 cases r <;> simp
theorem qM:(sizeLine:Nat) < 2 ^ 63:=by rw[sizeLine_eq];decide
theorem Ho:Kp X (fun x H Q=>∃k,FP X.K x H k/\Q k H):=by
 intro pins s σ H x v Q I rx h
 obtain⟨k,e,q⟩:=h
 have hl:=qM
 have hs:sizeLine=16777216:=sizeLine_eq
 cases x with
 |non=>
  cases rx
  have e':k=false:=e
  subst e'
  exact truthy_none ⟨H,I,q⟩
 |bl b=>
  cases rx
  have e':k=b:=e
  subst e'
  exact wpAny_truthy_bool ⟨H,I,q⟩
 |int i=>
  obtain⟨t,rfl⟩:=rx
  have e':k=(i !=0):=e
  subst e'
  exact PySem.P.truthy_int ⟨H,I,q⟩
 |str y=>
  obtain⟨t,rfl⟩:=rx
  obtain⟨hy,e'⟩:y.length<=sizeLine/\k=((y.length:Int)!=0):=e
  subst e'
  exact PySem.P.truthy_str (by omega) ⟨H,I.tok _,q⟩
 |byt y=>
  obtain⟨t,rfl⟩:=rx
  obtain⟨hy,e'⟩:y.size<=sizeLine/\k=((y.size:Int)!=0):=e
  subst e'
  exact PySem.W.truthy_bytes (by omega) ⟨H,I.tok _,q⟩
 |ref p=>
  cases rx
  have e':(∃xs,SqL X.K H p xs/\k= !xs.isEmpty)\/(∃xs,SqT X.K H p xs/\k= !xs.isEmpty)\/∃kvs,H p=some (.dK kvs)/\k= !kvs.isEmpty:=e
  rcases e' with ⟨xs,hx,e'⟩ |⟨xs,hx,e'⟩ |⟨kvs,hx,e'⟩
  · subst e'
    obtain⟨its,r,pl,hz⟩:=I.list hx
    have hlen:=r.length
    exact wpAny_truthy_list pl.isList (by simp only[qW_];omega) ⟨H,I.tok _,by rw[pH r];exact q⟩
  · subst e'
    obtain⟨its,r,pl,hz⟩:=I.tuple hx
    have hlen:=r.length
    exact truthy_tuple pl (by simp only[qW_];omega) ⟨H,I.tok _,by rw[pH r];exact q⟩
  · subst e'
    obtain⟨hz,hS,vs,r,m⟩:kvs.length<=sizeLine/\(p==sysModules)=false/\∃vs,KV kvs vs/\s.heap.DictOf (bN X.prog X.w) p vs:=I.hok p _ hx
    have hlen:kvs.length=vs.length:=Paired.length r
    exact wpAny_truthy_dict hS m (by omega) ⟨H,I.tok _,by rw[wH r];exact q⟩
 |_=>exact(show False from e).elim
theorem By(ha:PE X a ta)(he:∀whole,isTrue a X.env whole=(do let v <-whole;standAt a.pos;holding [v] (truthy v))):
 PT X a (fun σ H Q=>ta σ H fun x H'=>∃k,FP X.K x H' k/\Q k H'):=by
 intro pins s σ H Q I h
 exact isTrue_plain (thn (ha pins s σ H _ I h) fun v s1 ⟨x,H1,I1,r1,q1⟩=>Ho pins s1 σ H1 x v Q I1 r1 q1) (he _)
theorem wO:OpR X (binaryOp .Add) (fun x y H Q=>∃i j,x= .str i/\y= .str j/\i.length+j.length<=sizeLine/\Q (.str (i++j)) H):=by
 intro pins s σ H x y v u Q I rx ry h
 obtain⟨i,j,rfl,rfl,hz,q⟩:=h
 obtain⟨t,rfl⟩:=rx
 obtain⟨t',rfl⟩:=ry
 exact add_str (fun t' tk=>⟨.str (i++j),H,I.tok _,⟨_,rfl⟩,q⟩) hz
theorem vals1{x:V}{us:List Value}(r:Vals [x] us):∃u,us=[u]/\RelV x u:=by
 cases r with
 |cons r1 r2=>cases r2;exact⟨_,rfl,r1⟩
theorem vals2{x y:V}{us:List Value}(r:Vals [x,y] us):∃u w',us=[u,w']/\RelV x u/\RelV y w':=by
 cases r with
 |cons r1 r2=>
  cases r2 with
  |cons r3 r4=>cases r4;exact⟨_,_,rfl,r1,r3⟩
theorem yQ(hc:X.calm=true):fL X (.builtin "max") (fun xs H Q=>∃i j,xs=[.int i,.int j]/\Q (.int (if j > i then j else i)) H):=by
 intro pins s σ H xs us Q I r h
 obtain⟨i,j,rfl,q⟩:=h
 obtain⟨u,w',rfl,⟨t,rfl⟩,⟨t',rfl⟩⟩:=vals2 r
 refine max_two_ints (I.ok.hd hc) fun h' tk k=>⟨_,H,I.kept k,?_,q⟩
 by_cases hj:j > i
 · rw[if_pos hj,if_pos hj];exact⟨_,rfl⟩
 · rw[if_neg hj,if_neg hj];exact⟨_,rfl⟩
theorem y0:fL X (.type "int") (fun xs H Q=>(∃i,xs=[.int i]/\Q (.int i) H)\/∃k,xs=[.bl k]/\Q (.int (if k then 1 else 0)) H):=by
 intro pins s σ H xs us Q I r h
 rcases h with ⟨i,rfl,q⟩ |⟨k,rfl,q⟩
 · obtain⟨u,rfl,t,rfl⟩:=vals1 r
   exact call_int_int ⟨.int i,H,I,⟨_,rfl⟩,q⟩
 · obtain⟨u,rfl,r1⟩:=vals1 r
   cases r1
   exact call_int_bool ⟨.int (if k then 1 else 0),H,I.tok _,⟨_,rfl⟩,q⟩
def Ih(K:PySem.W.Frag)(x:V)(H:Hp)(n:Nat):Prop:=
 match x with
 | .str y=>y.length<=sizeLine/\n=y.length
 | .byt y=>y.size<=sizeLine/\n=y.size
 | .ref p=>(∃xs,SqL K H p xs/\n=xs.length)\/∃xs,SqT K H p xs/\n=xs.length
 |_=>False
theorem Ce:fL X (.builtin "len") (fun xs H Q=>∃x n,xs=[x]/\Ih X.K x H n/\Q (.int n) H):=by
 intro pins s σ H xs us Q I r h
 obtain⟨x,n,rfl,e,q⟩:=h
 obtain⟨u,rfl,rx⟩:=vals1 r
 have hl:=qM
 have hs:sizeLine=16777216:=sizeLine_eq
 cases x with
 |str y=>
  obtain⟨t,rfl⟩:=rx
  obtain⟨hy,e'⟩:y.length<=sizeLine/\n=y.length:=e
  subst e'
  exact len_str (by omega) ⟨.int _,H,I.tok _,⟨_,rfl⟩,q⟩
 |byt y=>
  obtain⟨t,rfl⟩:=rx
  obtain⟨hy,e'⟩:y.size<=sizeLine/\n=y.size:=e
  subst e'
  exact PySem.W.len_bytes (by omega) ⟨.int _,H,I.tok _,⟨_,rfl⟩,q⟩
 |ref p=>
  cases rx
  have e':(∃xs,SqL X.K H p xs/\n=xs.length)\/∃xs,SqT X.K H p xs/\n=xs.length:=e
  rcases e' with ⟨xs,hx,e'⟩ |⟨xs,hx,e'⟩
  · subst e'
    obtain⟨its,r',pl,hz⟩:=I.list hx
    have hlen:=r'.length
    exact Calls.call_len_list pl.isList (by simp only[qW_];omega) ⟨.int xs.length,H,I.tok _,⟨_,by simp only[qW_];rw[hlen]⟩,q⟩
  · subst e'
    obtain⟨its,r',pl,hz⟩:=I.tuple hx
    have hlen:=r'.length
    exact len_tuple pl (by simp only[qW_];omega) ⟨.int xs.length,H,I.tok _,⟨_,by simp only[qW_];rw[hlen]⟩,q⟩
 |_=>exact(show False from e).elim
end
structure xh (h:Heap) (x dx C:Addr) (mA:Str->Option Value):Prop where
 obj:h.get? x=some (PySem.W.instObj C dx)
 ns:h.Ns1 dx mA
 ne:dx≠x
theorem zA{h:Heap}{dx:Addr}{mA:Str->Option Value}(n:h.Ns1 dx mA):∃od,h.get? dx=some od/\∀name,PySem.W.lookIn name od=some (mA name):=by
 obtain⟨o,es,ep,ho,hd,hk,_,hm⟩:=n
 refine⟨o,ho,fun name=>?_⟩
 have e:=hm name
 unfold nsFind findBy at e
 rw[<-Array.find?_toList]at e
 unfold PySem.W.lookIn
 rw[hd]
 dsimp only
 split
 · rename_i y q
   rw[q]at e
   exact congrArg some e
 · rename_i q
   rw[q]at e
   have a:es.toList.any (·.refKey)=false:=by
    rw[List.any_eq_false]
    intro y hy
    obtain⟨z,t,hkey⟩:=hk y (Array.mem_toList_iff.mp hy)
    simp [DictEntry.refKey,hkey]
   have a':¬es.toList.any (·.refKey)=true:=by rw[a];exact qC_
   rw[if_neg a']
   exact congrArg some e
theorem xh.look{h:Heap}{x dx C:Addr}{mA:Str->Option Value}(I:xh h x dx C mA):∃od,PySem.W.InstAt h x (PySem.W.instObj C dx) C (some od)/\∀name,PySem.W.lookIn name od=some (mA name):=
 let ⟨od,ho,hl⟩:=zA I.ns
 ⟨od,⟨I.obj,rfl,rfl,ho⟩,hl⟩
section
variable{prog:Program}{w:World}{A:Around}{E:Value->Shared->Prop}{s:Shared}{K:PySem.W.Frag}{x dx C f:Addr}{mA:Str->Option Value}{name:Str}{v:Value}
theorem get_map{expr:Bool}{Q:Value->Shared->Prop}(X:K.In s.heap)(I:xh s.heap x dx C mA)(hg:PySem.W.plainGet K C name=true)(hh:PySem.W.hasDictIn K C=true)
 (ha:PySem.W.findIn K (.ref C) name=some none) (hv:mA name=some v) (hv':PySem.W.handedIn v=true) (h:Q v {s with toks:=s.toks+1}):
 wpAny (model prog w) A (getAttr (.ref x) name expr) Q E s:=by
 obtain⟨od,J,hl⟩:=I.look
 exact PySem.W.get_value X J (PySem.W.plainGet_of hg).1 (PySem.W.findObj_own hh ha rfl (by rw[hl,hv])) hv' h
theorem AW{pl:Sem Bool}{Q:Value×List Value->Shared->Prop}(X:K.In s.heap)(I:xh s.heap x dx C mA)(hg:PySem.W.plainGet K C name=true)
 (hf:PySem.W.findIn K (.ref C) name=some (some (.ref f))) (ht:PySem.W.isFn K (.ref f)=true) (hv:mA name=none) (h:Q (.ref f,[.ref x]) s):
 wpAny (model prog w) A (getMethod (.ref x) name pl) Q E s:=by
 obtain⟨od,J,hl⟩:=I.look
 exact PySem.W.method_fn X J (PySem.W.plainGet_of hg).1 (PySem.W.plainGet_of hg).2 hf (beq_iff_eq.mp ht) (by show (PySem.W.lookIn name od).map (·.isSome)=some false;rw[hl,hv];rfl) h
theorem CV{ns:List Str}{Q:Unit->Shared->Prop}(X:K.In s.heap)(I:xh s.heap x dx C mA)
 (hs:PySem.W.findIn K (.ref C) "__setattr__"=some (some (.builtin "object.__setattr__"))) (hp:PySem.W.plainOver K C=true) (ht:PySem.W.takerIn K C name=some none) (hh:PySem.W.hasDictIn K C=true)
 (hw:PySem.Within mA ns) (hsz:ns.length<=sizeLine)
 (h:∀h',xh h' x dx C (fun y=>if y=name then some v else mA y)->Heap.SameBut dx s.heap h'->Q () {s with heap:=h',toks:=s.toks+2}):
 wpAny (model prog w) A (setAttr (.ref x) name v) Q E s:=by
 obtain⟨od,J,hl⟩:=I.look
 refine PySem.W.set_plain X J hs (PySem.W.osa_open (s:={s with toks:=s.toks+1}) (r:=none) X J hp ht fun b=>?_)
 obtain⟨cd,hc,hd'⟩:=PySem.W.any_some hh
 have hx:s.heap.get? x=some ⟨.ref C,some dx,.plain,#[]⟩:=I.obj
 refine wpAny_bind (wpAny_pure (wpAny_bind (wpAny_bind (wpAny_loadPart hx (wpAny_bind (PySem.W.Looks.here (s:={s with toks:=s.toks+1}) (PySem.W.looks_clsIn X hc) ?_))))))
 rw[hd']
 refine wpAny_pure (a:=some dx) (wpAny_bind (wpAny_pure (wpAny_bind ?_)))
 refine wpAny_nsSet1 (s:={s with toks:=s.toks+1}) I.ns fun h' hn2 hs2=>?_
 obtain⟨oD,esD,epD,hoD,hdD,hcD⟩:=hn2.count (PySem.Within.cons name v hw)
 refine wpAny_bind (wpAny_lookBehind hoD (by rw[hdD];exact pastItsLine_dict (Nat.le_trans hcD (by rw[List.length_cons];omega))) ?_)
 exact wpAny_pure (h _ ⟨(hs2.2 _ (Ne.symm I.ne)).trans I.obj,hn2,I.ne⟩ hs2)
theorem CB{R:Result->Shared->Prop}{vs:List Value}{kw:List (Str×Value)}(X:K.In s.heap)(hm:PySem.W.makesIn K C=true)
 (hi:PySem.W.findIn K (.ref C) "__init__"=some (some (.ref f))) (hf:PySem.W.typeIn K (.ref f)=some (.type "function"))
 (h:codeAny (model prog w) (A.under (.builtin "type.__call__" ⟨.ref C :: vs,kw⟩)) (.call (.ref f) ⟨.ref (s.heap.objs.size+1) :: vs,kw⟩) (PySem.W.InitBack (s.heap.objs.size+1) R)
   {s with heap:=(s.heap.push PySem.W.emptyDict).push (PySem.W.instObj C s.heap.objs.size)}):
 codeAny (model prog w) A (.call (.ref C) ⟨vs,kw⟩) R s:=by
 obtain⟨hh,g,d,t,os⟩:=s
 exact PySem.W.make_core (PySem.W.makes_of X hm) (PySem.W.looks_findIn X hi) (fun self=>PySem.W.bind_fn X self hf) (.inl rfl) h
end
def iE(f:Str)(v:V):List (Str×V)->List (Str×V)
 | []=>[(f,v)]
 |(g,x) :: r=>if g=f then (g,v) :: r else (g,x) :: iE f v r
theorem oK(f g:Str)(v:V):∀fs:List (Str×V),(iE f v fs).lookup g=if g=f then some v else fs.lookup g
 | []=>by
   show List.lookup g [(f,v)]=_
   by_cases h:g=f
   · have hb:(g==f)=true:=beq_iff_eq.mpr h
     simp only[List.lookup,hb,if_pos h]
   · have hb:(g==f)=false:=beq_eq_false_iff_ne.mpr h
     simp only[List.lookup,hb,if_neg h]
 |(k,x) :: r=>by
  have ih:=oK f g v r
  rw[show iE f v ((k,x) :: r)=(if k=f then (k,v) :: r else (k,x) :: iE f v r)from rfl]
  by_cases hk:k=f
  · rw[if_pos hk]
    by_cases h:g=k
    · have hb:(g==k)=true:=beq_iff_eq.mpr h
      simp only[List.lookup,hb,if_pos (h.trans hk)]
    · have hb:(g==k)=false:=beq_eq_false_iff_ne.mpr h
      simp only[List.lookup,hb,if_neg (fun e:g=f=>h (e.trans hk.symm))]
  · rw[if_neg hk]
    by_cases h:g=k
    · have hb:(g==k)=true:=beq_iff_eq.mpr h
      simp only[List.lookup,hb,if_neg (fun e:g=f=>hk (h.symm.trans e))]
    · have hb:(g==k)=false:=beq_eq_false_iff_ne.mpr h
      simp only[List.lookup,hb]
      exact ih
theorem oj(f:Str)(v:V):∀fs:List (Str×V),f∈(iE f v fs).map (·.1)/\∀g,g∈fs.map (·.1)->g∈(iE f v fs).map (·.1)
 | []=>⟨by simp [iE],fun g h=>by simp at h⟩
 |(k,x) :: r=>by
  obtain⟨i1,i2⟩:=oj f v r
  rw[show iE f v ((k,x) :: r)=(if k=f then (k,v) :: r else (k,x) :: iE f v r)from rfl]
  by_cases hk:k=f
  · rw[if_pos hk]
    subst hk
    exact⟨by simp,fun g h=>by simpa using h⟩
  · rw[if_neg hk]
    refine⟨?_,fun g h=>?_⟩
    · rw[List.map_cons]
      exact qR_ _ i1
    · rw[List.map_cons]at h ⊢
      rcases qS_.mp h with e |e
      · exact qS_.mpr (.inl e)
      · exact qR_ _ (i2 g e)
theorem oz(f:Str)(v:V):∀fs:List (Str×V),(iE f v fs).length<=fs.length+1
 | []=>by simp [iE]
 |(k,x) :: r=>by
  have ih:=oz f v r
  rw[show iE f v ((k,x) :: r)=(if k=f then (k,v) :: r else (k,x) :: iE f v r)from rfl]
  by_cases hk:k=f
  · rw[if_pos hk,List.length_cons,List.length_cons];omega
  · rw[if_neg hk,List.length_cons,List.length_cons];omega
theorem lu.some_of{v:V}{o:Option Value}(r:lu (some v) o):∃u,o=some u/\RelV v u:=by
 cases o with
 |none=>exact(show False from r).elim
 |some u=>exact⟨u,rfl,r⟩
theorem lu.none_of{o:Option Value}(r:lu none o):o=none:=by
 cases o with
 |none=>rfl
 |some u=>exact(show False from r).elim
theorem zy{v:V}{u:Value}(r:RelV v u):PySem.W.handedIn u=true:=by
 cases v with
 |non=>cases (show u=Value.none from r);rfl
 |bl b=>cases (show u=Value.bool b from r);rfl
 |int i=>obtain⟨t,e⟩:=(show ∃t,u=Value.int i t from r);cases e;rfl
 |str x=>obtain⟨t,e⟩:=(show ∃t,u=Value.str x t from r);cases e;rfl
 |byt b=>obtain⟨t,e⟩:=(show ∃t,u=Value.bytes b t from r);cases e;rfl
 |flt b=>obtain⟨t,e⟩:=(show ∃t,u=Value.float b t from r);cases e;rfl
 |ref a=>cases (show u=Value.ref a from r);rfl
 |ty n=>cases (show u=Value.type n from r);rfl
section
variable{P:Program}{w:World}{H H':Hp}{h h':Heap}{a C dx:Addr}{fs fs':List (Str×V)}
theorem um(hok:HOk P w H h)(e:H a=some (.ins C dx fs)):∃mA,xh h a dx C mA/\(∀f,lu (fs.lookup f) (mA f))/\PySem.Within mA (fs.map (·.1))/\fs.length<=1000/\H dx=some (.own a):=by
 obtain⟨d,z,ne,ob,mA,n,r,q⟩:=(show bJ P w H h a (.ins C dx fs)from hok a _ e)
 exact⟨mA,⟨ob,n,ne⟩,r,q,z,d⟩
end
structure Cls (K:PySem.W.Frag) (C:Addr):Prop where
 pg:PySem.W.plainGet K C Str.empty=true
 hd:PySem.W.hasDictIn K C=true
 po:PySem.W.plainOver K C=true
 sa:PySem.W.findIn K (.ref C) "__setattr__"=some (some (.builtin "object.__setattr__"))
theorem Cls.get{K:PySem.W.Frag}{C:Addr}(c:Cls K C)(f:Str):PySem.W.plainGet K C f=true:=c.pg
def jo(K:PySem.W.Frag)(C:Addr)(f:Str):Prop:=PySem.W.findIn K (.ref C) f=some none
theorem jo.Jj{K:PySem.W.Frag}{C:Addr}{f:Str}(n:jo K C f):PySem.W.takerIn K C f=some none:=by
 unfold PySem.W.takerIn
 rw[show PySem.W.findIn K (.ref C) f=some none from n]
 rfl
structure Meth (K:PySem.W.Frag) (C:Addr) (m:Str) (f:Addr):Prop where
 at_:PySem.W.findIn K (.ref C) m=some (some (.ref f))
 fn:PySem.W.isFn K (.ref f)=true
 kp:PySem.W.keepIn K (.ref f)=true
section
variable{X:Cx}{pins:List (Addr×Obj)}{σ:St}{H:Hp}{s:Shared}{a C dx:Addr}{fs:List (Str×V)}{f:Str}{v:V}{A:Around}{E:Value->Shared->Prop}
theorem xy{b:Bool}{Q:Value->Shared->Prop}(I:Inv X pins σ H s)(e:H a=some (.ins C dx fs))(c:Cls X.K C)(n:jo X.K C f)(l:fs.lookup f=some v)
 (h:∀u s',Inv X pins σ H s'->RelV v u->Q u s'):wpAny (model X.prog X.w) A (getAttr (.ref a) f b) Q E s:=by
 obtain⟨mA,O,r,_,_,_⟩:=um I.hok e
 obtain⟨u,hu,ru⟩:=lu.some_of (v:=v) (o:=mA f) (by rw[<-l];exact r f)
 exact get_map I.kIn O (c.get f) c.hd n hu (zy ru) (h u _ (I.tok _) ru)
theorem ml{m:Str}{g:Addr}{pl:Sem Bool}{Q:Value×List Value->Shared->Prop}(I:Inv X pins σ H s)(e:H a=some (.ins C dx fs))(c:Cls X.K C)(k:Meth X.K C m g)(l:fs.lookup m=none)
 (h:Q (.ref g,[.ref a]) s):wpAny (model X.prog X.w) A (getMethod (.ref a) m pl) Q E s:=by
 obtain⟨mA,O,r,_,_,_⟩:=um I.hok e
 have hn:mA m=none:=lu.none_of (by rw[<-l];exact r m)
 exact AW I.kIn O (c.get m) k.at_ k.fn hn h
theorem wu{y:V}{u:Value}{Q:Unit->Shared->Prop}(I:Inv X pins σ H s)(e:H a=some (.ins C dx fs))(c:Cls X.K C)(n:jo X.K C f)(hl:fs.length < 1000)(ry:RelV y u)
 (h:∀s',Inv X pins σ (upd H a (.ins C dx (iE f y fs))) s'->Q () s'):wpAny (model X.prog X.w) A (setAttr (.ref a) f u) Q E s:=by
 obtain⟨mA,O,r,wi,_,ho⟩:=um I.hok e
 have hz:(fs.map (·.1)).length<=sizeLine:=by rw[qM_,sizeLine_eq];omega
 refine CV I.kIn O c.sa c.po n.Jj c.hd wi hz fun h' O' sb=>h _ ?_
 have hd:∃o,h'.get? dx=some o:=let ⟨o,_,_,e',_⟩:=O'.ns;⟨o,e'⟩
 refine I.write (x:=a) (e:=dx) (by rw[e];exact True.intro) (.inr ho) (fun b q hb z=>(sb.2 b hb).trans z) hd ?_
 refine⟨by rw[aE O.ne];exact ho,?_,O.ne,O'.obj,_,O'.ns,fun g=>?_,fun g hg=>?_⟩
 · have:=oz f y fs;omega
 · show lu ((iE f y fs).lookup g) (if g=f then some u else mA g)
   rw[oK]
   by_cases q:g=f
   · rw[if_pos q,if_pos q];exact ry
   · rw[if_neg q,if_neg q];exact r g
 · by_cases q:g=f
   · rw[q];exact(oj f y fs).1
   · refine(oj f y fs).2 g (wi g fun z=>hg ?_)
     show (if g=f then some u else mA g)=none
     rw[if_neg q];exact z
theorem Inv.made(I:Inv X pins σ H s):Inv X pins σ (upd (upd H s.heap.objs.size (.own (s.heap.objs.size+1))) (s.heap.objs.size+1) (.ins C s.heap.objs.size []))
 {s with heap:=(s.heap.push PySem.W.emptyDict).push (PySem.W.instObj C s.heap.objs.size)}:=by
 have e1:(s.heap.push PySem.W.emptyDict).get? s.heap.objs.size=some PySem.W.emptyDict:=Heap.get?_push_size s.heap rfl
 have e2:((s.heap.push PySem.W.emptyDict).push (PySem.W.instObj C s.heap.objs.size)).get? (s.heap.objs.size+1)=some (PySem.W.instObj C s.heap.objs.size):=by
  have:=Heap.get?_push_size (s.heap.push PySem.W.emptyDict) (o:=PySem.W.instObj C s.heap.objs.size) rfl
  rwa [Heap.size_push]at this
 have e3:(s.heap.push PySem.W.emptyDict).Ns s.heap.objs.size (fun _=>none):=⟨PySem.W.emptyDict,#[],_,e1,rfl,(fun e he=>absurd he (by simp)),fun _=>rfl⟩
 have I1:=I.laid (a:=s.heap.objs.size) (o:= .own (s.heap.objs.size+1)) (h':=s.heap.push PySem.W.emptyDict) (t':=s.toks) (fun b u q=>Heap.get?_push_of_some _ q) (qO_ _) ⟨_,e1⟩
 refine I1.laid (a:=s.heap.objs.size+1) (o:= .ins C s.heap.objs.size []) (t':=s.toks) (fun b u q=>Heap.get?_push_of_some _ q) (Nat.le_of_eq (Heap.size_push _ _)) ?_
 have ne:s.heap.objs.size≠s.heap.objs.size+1:=Nat.ne_of_lt (Nat.lt_succ_self _)
 refine⟨by rw[aE ne,aF],qf_ _,ne,e2,fun _=>none,(Heap.Ns1.of_empty e3).at fun o q=>Heap.get?_push_of_some _ q,fun _=>True.intro,fun y hy=>absurd rfl hy⟩
theorem CO{prog:Program}{w:World}{env:Env}{e:Expr}{f:Str}{pos:Pos}{s:Shared}{Q:Value->Shared->Prop}(hb:attributeBase e f env (eval e env)=eval e env)
 (h:wpAny (model prog w) A (eval e env) (fun o s₁=>wpAny (model prog w) A (getAttr o f true) Q E s₁) E s):wpAny (model prog w) A (eval (.Attribute e f pos) env) Q E s:=
 Attribute_any_ h (by rw[arm_eval_Attribute,hb])
end
def JP(K:PySem.W.Frag)(ta:TE)(f:Str):TE:=fun σ H Q=>ta σ H fun x H1=>∃a C dx fs v,x= .ref a/\H1 a=some (.ins C dx fs)/\Cls K C/\jo K C f/\fs.lookup f=some v/\Q v H1
def JT(K:PySem.W.Frag)(ta tv:TE)(f:Str):TS:=fun D σ H=>tv σ H fun y H1=>ta σ H1 fun x H2=>∃a C dx fs,x= .ref a/\H2 a=some (.ins C dx fs)/\Cls K C/\jo K C f/\fs.length < 1000/\
 D.nx σ (upd H2 a (.ins C dx (iE f y fs)))
section
variable{X:Cx}{o e value:Expr}{f:Str}{pos pos' tpos:Pos}{ta tv:TE}
theorem HF(he:PE X e ta)(hb:attributeBase e f X.env (eval e X.env)=eval e X.env):PE X (.Attribute e f pos) (JP X.K ta f):=by
 intro pins s σ H Q I h
 refine CO hb (thn (he pins s σ H _ I h) fun u s1 ⟨x,H1,I1,rx,a,C,dx,fs,v,ex,ea,c,n,l,q⟩=>?_)
 subst ex
 obtain rfl:u=Value.ref a:=rx
 exact xy I1 ea c n l fun u' s2 I2 ru=>⟨v,H1,I2,ru,q⟩
theorem GI(ha:PE X o ta)(hv:PE X value tv)(hs:swapsWith value (some (.Attribute o f pos')) pos.line X.env=pure false):PS X (.Assign [.Attribute o f pos'] value pos) (JT X.K ta tv f):=by
 intro pins s σ H D I h
 refine plainObj_wpAny_Assign_Attribute (thn (hv pins s σ H _ I h) fun u s1 ⟨y,H1,I1,ry,q⟩=>thn (ha pins s1 σ H1 _ I1 q) fun ov s2 ⟨x,H2,I2,rx,a,C,dx,fs,ex,ea,c,n,l,q2⟩=>?_) hs
 subst ex
 obtain rfl:ov=Value.ref a:=rx
 exact wu I2 ea c n l ry fun s3 I3=>⟨σ,_,I3,q2⟩
end
structure cU (k:Nat) (A:Around):Prop where
 hd:A.handled=none
 dp:A.depth+3*k+5 < recursionLimit
 un:A.units+16*k+200 < cLine
theorem cU.mono{j k:Nat}{A:Around}(r:cU k A)(h:j<=k):cU j A:=⟨r.hd,by have:=r.dp;omega,by have:=r.un;omega⟩
theorem cU.deeper{k:Nat}{A:Around}(r:cU (k+1) A)(env:Env):cU k (A.deeper env):=
 ⟨r.hd,by have:=r.dp;show A.depth+1+3*k+5 < _;omega,by have:=r.un;show A.units+3+16*k+200 < _;omega⟩
theorem xx{A:Around}{C:Addr}{us:List Value}{kw:List (Str×Value)}:(A.under (.builtin "type.__call__" ⟨.ref C :: us,kw⟩)).depth=A.depth+1:=by
 first |rfl |simp [Around.under,Code.weight,Code.isCreation,Code.isGuard,Code.isCaller,Code.frames,Code.isFrame,guardIds]
theorem wm{A:Around}{C:Addr}{us:List Value}{kw:List (Str×Value)}:(A.under (.builtin "type.__call__" ⟨.ref C :: us,kw⟩)).units=A.units+1:=by
 first |rfl |simp [Around.under,Code.cUnits,Code.frames,Code.isFrame]
theorem cU.make{k:Nat}{A:Around}(r:cU (k+1) A)(C:Addr)(us:List Value)(kw:List (Str×Value)):cU k (A.under (.builtin "type.__call__" ⟨.ref C :: us,kw⟩)):=
 ⟨r.hd,by have:=r.dp;rw[xx];omega,by have:=r.un;rw[wm];omega⟩
theorem cU.depth{k:Nat}{A:Around}(r:cU k A):A.depth < recursionLimit:=by have:=r.dp;omega
theorem cU.units{k:Nat}{A:Around}(r:cU k A):A.units+64 < cLine:=by have:=r.un;omega
def FT:TA:=fun _ H Q=>Q [] H
def Il(ta:TE)(tr:TA):TA:=fun σ H Q=>ta σ H fun x H1=>tr σ H1 fun xs H2=>Q (x :: xs) H2
section
variable{X:Cx}{e:Expr}{es:List Expr}{te:TE}{t:TA}{pos:Pos}
theorem jm:PA X [] FT:=fun _ _ _ _ H Q I h=>Calls.spliced_nil ⟨[],H,I,.nil,h⟩
theorem dJ(ha:PE X e te)(hr:PA X es t)(hs:starEach (e :: es) X.env=(false,eval e X.env) :: starEach es X.env:=by rfl):PA X (e :: es) (Il te t):=by
 intro pos pins s σ H Q I h
 rw[hs]
 show wpAny _ _ (spliced ((false,eval e X.env) :: backTo pos (starEach es X.env))) _ _ s
 refine Calls.spliced_cons (thn (ha pins s σ H _ I h) fun u s1 ⟨x,H1,I1,r1,q1⟩=>?_)
 exact thn (hr pos pins s1 σ H1 _ I1 q1) fun us s2 ⟨xs,H2,I2,r2,q2⟩=>⟨x :: xs,H2,I2,.cons r1 r2,q2⟩
def JS(t:TA):TE:=fun σ H Q=>t σ H fun xs H1=>xs.length<=sizeLine/\∀p,H1 p=none->Q (.ref p) (upd H1 p (.tup xs))
def J0(t:TA):TE:=fun σ H Q=>t σ H fun xs H1=>xs.length<=sizeLine/\∀p,H1 p=none->Q (.ref p) (upd H1 p (.lst xs))
theorem B7{x1}(h:PA X es t):PE X (.Tuple es x1 pos) (JS t):=by
 intro pins s σ H Q I hq
 refine wpAny_Tuple_spliced (thn (h pos pins s σ H _ I hq) fun us s1 ⟨xs,H1,I1,r,z,q⟩=>⟨by rw[<-r.length];exact z,?_⟩)
 have hf:H1 s1.heap.objs.size=none:=I1.hok.fresh (qO_ _)
 refine⟨.ref s1.heap.objs.size,upd H1 s1.heap.objs.size (.tup xs),I1.laid (t':=s1.toks) (fun b u e=>Heap.get?_push_of_some _ e) (qO_ _) ?_,rfl,q _ hf⟩
 exact⟨z,us,r,⟨_,Heap.get?_push_size _ rfl,rfl,_,rfl⟩⟩
theorem HZ(h:PA X es t):PE X (.List es pos) (J0 t):=by
 intro pins s σ H Q I hq
 refine wpAny_List_spliced (thn (h pos pins s σ H _ I hq) fun us s1 ⟨xs,H1,I1,r,z,q⟩=>⟨by rw[<-r.length];exact z,?_⟩)
 have hf:H1 s1.heap.objs.size=none:=I1.hok.fresh (qO_ _)
 refine⟨.ref s1.heap.objs.size,upd H1 s1.heap.objs.size (.lst xs),I1.laid (t':=s1.toks) (fun b u e=>Heap.get?_push_of_some _ e) (qO_ _) ?_,rfl,q _ hf⟩
 exact⟨z,us,0,r,Heap.get?_push_size _ rfl⟩
end
abbrev Sp:=List V->Hp->VK->XK->Prop
abbrev CXT:=List Env->Hp->Shared->XK->Value->Shared->Prop
structure we (P:Program) (w:World) (K:PySem.W.Frag) (mg:Str->Option Value) (base:Heap) (A:Around) (outer:List Env) (s:Shared) (H:Hp):Prop where
 frames:A.frames=some outer
 mod:Mod K mg base
 bs:∀b o,base.get? b=some o->s.heap.get? b=some o/\H b=none
 bsz:base.objs.size<=s.heap.objs.size
 m7:s.heap.FunFrames base outer
 frf:∀b∈frs outer,H b=none
 hok:HOk P w H s.heap
 bare:AllBare s.gens
def CE(outer:List Env)(P:Program)(w:World)(H:Hp)(s:Shared)(Q:VK)(u:Value)(s':Shared):Prop:=
 ∃v H',s'.os=s.os/\AllBare s'.gens/\Un (frs outer) [] H H' s.heap s'.heap/\HOk P w H' s'.heap/\RelV v u/\Q v H'
def CR(CX:CXT)(outer:List Env)(P:Program)(w:World)(H:Hp)(s:Shared)(Q:VK)(E:XK)(r:Result)(s':Shared):Prop:=
 match r with
 | .ok (.ret u)=>CE outer P w H s Q u s'
 | .ok _=>False
 | .error e=>CX outer H s E e s'
structure aP (P:Program) (w:World) (K:PySem.W.Frag) (mg:Str->Option Value) (base:Heap) (CX:CXT) (k:Nat) (f:Addr) (fd:FuncData) (ps:List Str) (sp:Sp):Prop where
 len:∀vs H Q E,sp vs H Q E->vs.length=ps.length
 run:∀(A:Around) (outer:List Env) (s:Shared) (H:Hp) (args:Args) (us:List Value) (vs:List V) (Q:VK) (E:XK),cU k A->we P w K mg base A outer s H->BindsTo s fd args (ps.zip us)->Vals vs us->sp vs H Q E->
  codeAny (model P w) A (.call (.ref f) args) (CR CX outer P w H s Q E) s
theorem aP.imp{P:Program}{w:World}{K:PySem.W.Frag}{mg:Str->Option Value}{base:Heap}{CX:CXT}{k:Nat}{f:Addr}{fd:FuncData}{ps:List Str}{sp sp':Sp}(F:aP P w K mg base CX k f fd ps sp)
 (h:∀vs H Q E,sp' vs H Q E->sp vs H Q E):aP P w K mg base CX k f fd ps sp':=
 ⟨fun vs H Q E q=>F.len vs H Q E (h _ _ _ _ q),fun A outer s H args us vs Q E hr he hb hv hs=>F.run A outer s H args us vs Q E hr he hb hv (h _ _ _ _ hs)⟩
theorem we.make{P:Program}{w:World}{K:PySem.W.Frag}{mg:Str->Option Value}{base:Heap}{A:Around}{outer:List Env}{s:Shared}{H:Hp}(e:we P w K mg base A outer s H)(C:Addr)(us:List Value)(kw:List (Str×Value)):
 we P w K mg base (A.under (.builtin "type.__call__" ⟨.ref C :: us,kw⟩)) outer s H:=⟨by first |exact e.frames |(simpa [Around.under,Code.envs,Code.isFrame,pushEnvs] using e.frames),e.mod,e.bs,e.bsz,e.m7,e.frf,e.hok,e.bare⟩
section
variable{X:Cx}{pins:List (Addr×Obj)}{σ:St}{H:Hp}{s s':Shared}
theorem Inv.F3(I:Inv X pins σ H s):we X.prog X.w X.K X.mg X.base X.A X.stack s H:=
 ⟨I.ok.frames,I.ok.mod,I.bs,Nat.le_trans I.ok.bsz I.sz,I.stack,I.o7,I.hok,I.bare⟩
theorem Inv.after{Q:VK}{u:Value}(I:Inv X pins σ H s)(h:CE X.stack X.prog X.w H s Q u s'):EP X pins σ Q u s':=by
 obtain⟨v,H',os,bare,un,hok,r,q⟩:=h
 obtain⟨hh,g,d,t,os'⟩:=s'
 obtain rfl:os'=s.os:=os
 exact⟨v,H',I.call (h':=hh) (g':=g) (d':=d) (t':=t) (ch:=[]) un hok bare (fun b z=>absurd z (by simp)),r,q⟩
end
def IC(sp:Sp)(dvs:List V)(E:XK)(t:TA):TE:=fun σ H Q=>t σ H fun vs H1=>sp (vs++dvs) H1 Q E
def BI(C:Addr)(m:Str)(sp:Sp)(dvs:List V)(E:XK)(ta:TE)(t:TA):TE:=fun σ H Q=>ta σ H fun x H1=>∃a dx fs,x= .ref a/\H1 a=some (.ins C dx fs)/\fs.lookup m=none/\
 t σ H1 fun vs H2=>sp (x :: (vs++dvs)) H2 Q E
def EK(C:Addr)(sp:Sp)(dvs:List V)(E:XK)(t:TA):TE:=fun σ H Q=>t σ H fun vs H1=>∀x dx,H1 x=none->H1 dx=none->dx≠x->
 sp (.ref x :: (vs++dvs)) (upd (upd H1 dx (.own x)) x (.ins C dx [])) (fun v H2=>v= .non/\Q (.ref x) H2) E
def Binds(K:PySem.W.Frag)(fd:FuncData)(ps:List Str)(ds:List Value):Prop:=
 ∀(s:Shared) (us:List Value),K.In s.heap->(us++ds).length=ps.length->BindsTo s fd ⟨us,[]⟩ (ps.zip (us++ds))
theorem Binds.all{K:PySem.W.Frag}{fd:FuncData}{ps:List Str}(h:∀us:List Value,us.length=ps.length->bindArgs fd ⟨us,[]⟩=pure (ps.zip us)):Binds K fd ps []:=fun s us _ hl=>by
 rw[qY_]at hl ⊢
 exact .of_eq (h us hl)
def eV(CX:CXT)(X:Cx)(E:XK):Prop:=∀(pins:List (Addr×Obj)) (σ:St) (H:Hp) (s:Shared) (e:Value) (s':Shared),Inv X pins σ H s->CX X.stack H s E e s'->X.xe e s'
section
variable{X:Cx}{CX:CXT}{k:Nat}{f C:Addr}{fd:FuncData}{ps:List Str}{sp:Sp}{dvs:List V}{ds:List Value}{E:XK}{x m:Str}{p pos apos:Pos}{e o:Expr}{es:List Expr}{ta:TE}{t:TA}
theorem wD{pins:List (Addr×Obj)}{σ:St}{H:Hp}{s:Shared}{Q:VK}{us:List Value}{vs:List V}(F:aP X.prog X.w X.K X.mg X.base CX k f fd ps sp)(hr:cU k X.A)(hb:Binds X.K fd ps ds)(hd:Vals dvs ds)(hx:eV CX X E)
 (I:Inv X pins σ H s) (r:Vals vs us) (h:sp (vs++dvs) H Q E):wpAny (model X.prog X.w) X.A (call (.ref f) us) (EP X pins σ Q) X.xe s:=by
 have r2:Vals (vs++dvs) (us++ds):=r.append hd
 have hl:(us++ds).length=ps.length:=by rw[<-r2.length];exact F.len _ _ _ _ h
 refine wpAny_call (codeAny_mono (F.run X.A X.stack s H ⟨us,[]⟩ (us++ds) (vs++dvs) Q E hr I.F3 (hb s us I.kIn hl) r2 h) fun r s' hq=>?_)
 cases r with
 |error e=>exact hx pins σ H s e s' I hq
 |ok fl=>
  cases fl with
  |ret u=>exact I.after hq
  |next=>exact False.elim hq
  |brk=>exact False.elim hq
  |cont=>exact False.elim hq
theorem D8(F:aP X.prog X.w X.K X.mg X.base CX k f fd ps sp)(hr:cU k X.A)(hg:Gl X x)(hm:X.mg x=some (.ref f))(hk:PySem.W.keepIn X.K (.ref f)=true)(hb:Binds X.K fd ps ds)(hd:Vals dvs ds)(hx:eV CX X E)
 (ha:PA X (e :: es) t) (hdb:(x==("__debug__":Str))=false:=by decide) (he:starEach (e :: es) X.env=(false,eval e X.env) :: starEach es X.env:=by rfl) (hpl:(backTo pos (starEach es X.env)).any (·.1)=false:=by rfl):
 PE X (.Call (.Name x p) (e :: es) [] pos) (IC sp dvs E t):=by
 intro pins s σ H Q I h
 refine wpAny_Call_Name_kw (kY I hg hm ?_ hdb)
 refine PySem.W.callWith_K (h₀:=X.base) I.ok.mod.kin hk (thn (ha pos pins s σ H _ I h) fun us s1 ⟨vs,H1,I1,r,q⟩=>⟨I1.kIn,?_⟩) he hpl
 exact wD F hr hb hd hx I1 r q
theorem DO{pl:Sem Bool}(he:PE X o ta)(c:Cls X.K C)(hm:Meth X.K C m f)(F:aP X.prog X.w X.K X.mg X.base CX k f fd ps sp)(hr:cU k X.A)(hb:Binds X.K fd ps ds)(hd:Vals dvs ds)(hx:eV CX X E)(ha:PA X (e :: es) t)
 (hst:starEach (e :: es) X.env=(false,eval e X.env) :: starEach es X.env:=by rfl) (hpl:(backTo pos (starEach es X.env)).any (·.1)=false:=by rfl)
 (ht:eval (.Call (.Attribute o m apos) (e :: es) [] pos) X.env=(do
   let ov <-eval o X.env
   standAt apos.atName
   let (f,first) <-holding [ov] (getMethod ov m pl)
   callWith pos f first (backTo pos (starEach (e :: es) X.env)) (backToKw pos (keywordEach [] X.env))):=by rfl):
 PE X (.Call (.Attribute o m apos) (e :: es) [] pos) (BI C m sp dvs E ta t):=by
 intro pins s σ H Q I h
 refine PySem.W.methodCall_KW (pl:=pl) (thn (he pins s σ H _ I h) fun u s1 ⟨x,H1,I1,rx,a,dx,fs,ex,ea,l,q⟩=>?_) ht
 subst ex
 obtain rfl:u=Value.ref a:=rx
 refine ml I1 ea c hm l ?_
 refine PySem.W.callWith_K (first:=[.ref a]) (h₀:=X.base) I.ok.mod.kin hm.kp (thn (ha pos pins s1 σ H1 _ I1 q) fun us s2 ⟨vs,H2,I2,r,q2⟩=>⟨I2.kIn,?_⟩) hst hpl
 exact wD (us:= .ref a :: us) (vs:= .ref a :: vs) F hr hb hd hx I2 (.cons rfl r) q2
theorem Cg{pl:Sem Bool}(he:PE X o ta)(c:Cls X.K C)(hm:Meth X.K C m f)(F:aP X.prog X.w X.K X.mg X.base CX k f fd ps sp)(hr:cU k X.A)(hb:Binds X.K fd ps ds)(hd:Vals dvs ds)(hx:eV CX X E)
 (ht:eval (.Call (.Attribute o m apos) [] [] pos) X.env=(do
   let ov <-eval o X.env
   standAt apos.atName
   let (f,first) <-holding [ov] (getMethod ov m pl)
   callWith pos f first (backTo pos (starEach [] X.env)) (backToKw pos (keywordEach [] X.env))):=by rfl):
 PE X (.Call (.Attribute o m apos) [] [] pos) (BI C m sp dvs E ta FT):=by
 intro pins s σ H Q I h
 refine PySem.W.methodCall_KW (pl:=pl) (thn (he pins s σ H _ I h) fun u s1 ⟨x,H1,I1,rx,a,dx,fs,ex,ea,l,q⟩=>?_) ht
 subst ex
 obtain rfl:u=Value.ref a:=rx
 refine ml I1 ea c hm l ?_
 exact PySem.W.callWith_K0 (first:=[.ref a]) I1.kIn hm.kp (wD (us:=[.ref a]) (vs:=[.ref a]) F hr hb hd hx I1 (.cons rfl .nil) q)
structure Mk (K:PySem.W.Frag) (C f:Addr):Prop where
 makes:PySem.W.makesIn K C=true
 init:PySem.W.findIn K (.ref C) "__init__"=some (some (.ref f))
 fn:PySem.W.isFn K (.ref f)=true
 kp:PySem.W.keepIn K (.ref C)=true
theorem uP{pins:List (Addr×Obj)}{σ:St}{H:Hp}{s:Shared}{Q:VK}{us:List Value}{vs:List V}(M:Mk X.K C f)(F:aP X.prog X.w X.K X.mg X.base CX k f fd ps sp)(hr:cU (k+1) X.A)(hb:Binds X.K fd ps ds)(hd:Vals dvs ds)
 (hx:eV CX X E) (I:Inv X pins σ H s) (r:Vals vs us)
 (h:∀x dx,H x=none->H dx=none->dx≠x->sp (.ref x :: (vs++dvs)) (upd (upd H dx (.own x)) x (.ins C dx [])) (fun v H2=>v= .non/\Q (.ref x) H2) E):
 wpAny (model X.prog X.w) X.A (call (.ref C) us) (EP X pins σ Q) X.xe s:=by
 have hq:=h (s.heap.objs.size+1) s.heap.objs.size (I.hok.fresh (Nat.le_succ _)) (I.hok.fresh (qO_ _)) (Nat.ne_of_lt (Nat.lt_succ_self _))
 have I2:=Inv.made (C:=C) I
 have r2:Vals (V.ref (s.heap.objs.size+1) :: (vs++dvs)) (Value.ref (s.heap.objs.size+1) :: (us++ds)):= .cons rfl (r.append hd)
 have hl:(Value.ref (s.heap.objs.size+1) :: us++ds).length=ps.length:=by
  have e:=r2.length
  rw[F.len _ _ _ _ hq]at e
  exact e.symm
 refine wpAny_call (CB (f:=f) I.kIn M.makes M.init (beq_iff_eq.mp M.fn) (codeAny_mono (F.run _ X.stack _ _ ⟨Value.ref (s.heap.objs.size+1) :: us,[]⟩ (Value.ref (s.heap.objs.size+1) :: (us++ds)) _ _ E (hr.make C us [])
  (I2.F3.make C us []) (hb _ (Value.ref (s.heap.objs.size+1) :: us) I2.kIn hl) r2 hq) fun r s' hq'=>?_))
 cases r with
 |error e=>exact hx pins σ _ _ e s' I2 hq'
 |ok fl=>
  cases fl with
  |ret u=>
   obtain⟨v,H',I3,rv,ev,q3⟩:=I2.after hq'
   subst ev
   exact⟨rv,⟨V.ref (s.heap.objs.size+1),H',I3,rfl,q3⟩⟩
  |next=>exact False.elim hq'
  |brk=>exact False.elim hq'
  |cont=>exact False.elim hq'
theorem DR(M:Mk X.K C f)(F:aP X.prog X.w X.K X.mg X.base CX k f fd ps sp)(hr:cU (k+1) X.A)(hg:Gl X x)(hm:X.mg x=some (.ref C))(hb:Binds X.K fd ps ds)(hd:Vals dvs ds)(hx:eV CX X E)
 (ha:PA X (e :: es) t) (hdb:(x==("__debug__":Str))=false:=by decide) (he:starEach (e :: es) X.env=(false,eval e X.env) :: starEach es X.env:=by rfl) (hpl:(backTo pos (starEach es X.env)).any (·.1)=false:=by rfl):
 PE X (.Call (.Name x p) (e :: es) [] pos) (EK C sp dvs E t):=by
 intro pins s σ H Q I h
 refine wpAny_Call_Name_kw (kY I hg hm ?_ hdb)
 refine PySem.W.callWith_K (h₀:=X.base) I.ok.mod.kin M.kp (thn (ha pos pins s σ H _ I h) fun us s1 ⟨vs,H1,I1,r,q⟩=>⟨I1.kIn,?_⟩) he hpl
 exact uP M F hr hb hd hx I1 r q
theorem BA(M:Mk X.K C f)(F:aP X.prog X.w X.K X.mg X.base CX k f fd ps sp)(hr:cU (k+1) X.A)(hg:Gl X x)(hm:X.mg x=some (.ref C))(hb:Binds X.K fd ps ds)(hd:Vals dvs ds)(hx:eV CX X E)
 (hdb:(x==("__debug__":Str))=false:=by decide):PE X (.Call (.Name x p) [] [] pos) (EK C sp dvs E FT):=by
 intro pins s σ H Q I h
 refine wpAny_Call_Name_kw (kY I hg hm ?_ hdb)
 exact PySem.W.callWith_K0 I.kIn M.kp (uP (us:=[]) M F hr hb hd hx I .nil h)
end
structure au (N P:List Str) (sc:Scope):Prop where
 kind:sc.kind= .function
 co:sc.isCoroutine=false
 gen:sc.isGenerator=false
 nd:N.Nodup
 pre:N.take P.length=P
 par:∀x∈P,sc.names.lookup x=some .local\/sc.names.lookup x=some .cell
 He:∀y∈sc.names,y.2≠.free
theorem sC{kindOf:Str->Option NameKind}{x:Str}:∀{binds:List (Str×Value)} {m:Str->Option Value},(∀v,(x,v)∉binds)->bindL kindOf binds m x=m x
 | [],_,_=>rfl
 |(n,v) :: r,m,h=>by
  unfold bindL
  rw[sC fun w hw=>h w (qR_ _ hw)]
  split
  · have:x≠n:=by rintro rfl;exact h v qI_
    simp [this]
  · rfl
theorem rN{kindOf:Str->Option NameKind}{x:Str}:∀{binds:List (Str×Value)} {m:Str->Option Value},(∀v,(x,v)∉binds)->bindC kindOf binds m x=m x
 | [],_,_=>rfl
 |(n,v) :: r,m,h=>by
  unfold bindC
  rw[rN fun w hw=>h w (qR_ _ hw)]
  split
  · rfl
  · have:x≠n:=by rintro rfl;exact h v qI_
    simp [this]
theorem sH{kindOf:Str->Option NameKind}{x:Str}{v:Value}:∀{P:List Str} {vs:List Value} {i:Nat} {m:Str->Option Value},P.Nodup->P[i]? =some x->vs[i]? =some v->kindOf x=some .local->
 bindL kindOf (P.zip vs) m x=some v
 | [],_,_,_,_,h,_,_=>by simp at h
 |_ :: _,[],_,_,_,_,h,_=>by simp at h
 |p :: P,w :: vs,0,m,nd,h1,h2,hk=>by
  simp at h1 h2;subst h1;subst h2
  show bindL kindOf ((p,w) :: P.zip vs) m p=_
  unfold bindL
  rw[sC fun v hv=>(List.nodup_cons.mp nd).1 (List.of_mem_zip hv).1,if_pos hk]
  simp
 |p :: P,w :: vs,i+1,m,nd,h1,h2,hk=>by
  show bindL kindOf ((p,w) :: P.zip vs) m x=_
  unfold bindL
  exact sH (i:=i) (List.nodup_cons.mp nd).2 (by simpa using h1) (by simpa using h2) hk
theorem r6{kindOf:Str->Option NameKind}{x:Str}{v:Value}:∀{P:List Str} {vs:List Value} {i:Nat} {m:Str->Option Value},P.Nodup->P[i]? =some x->vs[i]? =some v->kindOf x≠some .local->
 bindC kindOf (P.zip vs) m x=some v
 | [],_,_,_,_,h,_,_=>by simp at h
 |_ :: _,[],_,_,_,_,h,_=>by simp at h
 |p :: P,w :: vs,0,m,nd,h1,h2,hk=>by
  simp at h1 h2;subst h1;subst h2
  show bindC kindOf ((p,w) :: P.zip vs) m p=_
  unfold bindC
  rw[rN fun v hv=>(List.nodup_cons.mp nd).1 (List.of_mem_zip hv).1,if_neg hk]
  simp
 |p :: P,w :: vs,i+1,m,nd,h1,h2,hk=>by
  show bindC kindOf ((p,w) :: P.zip vs) m x=_
  unfold bindC
  exact r6 (i:=i) (List.nodup_cons.mp nd).2 (by simpa using h1) (by simpa using h2) hk
def start(N:List Str)(vs:List V):St:=vs.map some++List.replicate (N.length - vs.length) none
def lj(CX:CXT)(P:Program)(w:World)(K:PySem.W.Frag)(mg:Str->Option Value)(base:Heap)(N:List Str)(qual:Str)(scope:Scope)(f:Addr)(cd:Value)(A:Around)(outer:List Env)(s:Shared)(H:Hp)(E:XK):Cx where
 prog:=P
 w:=w
 K:=K
 mg:=mg
 base:=base
 A:=A.deeper (envOfC qual scope s.heap.objs.size f cd)
 N:=N
 s₀:=s
 H₀:=H
 env:=envOfC qual scope s.heap.objs.size f cd
 outer:=outer
 stack:=envOfC qual scope s.heap.objs.size f cd :: outer
 ex:=[]
 calm:=true
 fn:=fun _=>true
 pn:=[]
 xe:=fun e s'=>wpAny (model P w) (A.deeper (envOfC qual scope s.heap.objs.size f cd)) (leaving (envOfC qual scope s.heap.objs.size f cd) e) (fun _ s''=>CX outer H s E e s'') (fun e' s''=>CX outer H s E e' s'') s'
theorem vb{sc:Scope}{n:Nat}{x:Str}(h:sc.names.lookup x=some .cell):∃c,(cellsFrom n sc.names []).lookup x=some c:=by
 have q:=PySem.W.cellsFrom_some sc.names n [] (.inl h)
 exact Option.isSome_iff_exists.mp q
theorem ze{CX:CXT}{P:Program}{w:World}{K:PySem.W.Frag}{mg:Str->Option Value}{base:Heap}{N ps:List Str}{qual:Str}{scope:Scope}{f:Addr}{cd:Value}{A:Around}{outer:List Env}{s s1:Shared}{H:Hp}{E:XK}{us:List Value}{vs:List V}
 (S:au N ps scope) (hd:A.handled=none) (e0:we P w K mg base A outer s H) (hl:vs.length=ps.length) (r:Vals vs us)
 (x:InCallC s s.heap.objs.size (bindL (envOfC qual scope s.heap.objs.size f cd).kindOf (ps.zip us) fun _=>none) (cellsFrom (s.heap.objs.size+1) scope.names []) (bindC (envOfC qual scope s.heap.objs.size f cd).kindOf (ps.zip us) fun _=>none) s1):
 Inv (lj CX P w K mg base N qual scope f cd A outer s H E) [] (start N vs) H s1:=by
 have hpl:ps.length<=N.length:=by have:=congrArg List.length S.pre;rw[List.length_take]at this;omega
 obtain⟨h1,tk,rfl,hk⟩:=x.done
 have noA:∀b:Addr,b∉(lj CX P w K mg base N qual scope f cd A outer s H E).ex:=fun b z=>absurd (show b∈([]:List Addr)from z) (by simp)
 refine⟨⟨e0.mod,S.kind,rfl,rfl,qO_ _,fun y z c h1 h2=>?_,fun y hy=>?_,fun y c _ h=>?_,fun _=>hd,Around.frames_deeper e0.frames,.inr ⟨rfl,rfl⟩,fun b z=>absurd z (noA b),e0.bs,e0.bsz,fun b _ _=>noA b,fun b z=>absurd z (noA b),e0.m7,e0.frf⟩,
  rfl,e0.bare,Un.kept hk,⟨_,x.toInCall.ns,fun i y v h1 h2 h3=>?_⟩,fun y c h=>⟨_,x.cell y c h⟩,e0.hok.fresh (qO_ _),fun y c h=>?_,fun p hp=>absurd (show p∈([]:List (Addr×Obj))from hp) (by simp),e0.hok.kept hk,?_⟩
 · exact name_of_addr x.apart (PySem.mem_of_lookup h1) (PySem.mem_of_lookup h2)
 · have hy:scope.names.lookup y=some .cell\/scope.names.lookup y=some .free:=hy
   rcases hy with hy |hy
   · exact vb hy
   · exact absurd rfl (S.He _ (PySem.mem_of_lookup hy))
 · exact Nat.le_of_lt (x.above y c (PySem.mem_of_lookup h))
 · have hi:i < vs.length:=by
    unfold start at h2
    by_cases hi:i < vs.length
    · exact hi
    · rw[qL_ (by simpa using hi)]at h2
      rw[List.getElem?_replicate]at h2
      split at h2 <;> cases h2
   have ha:vs[i]? =some v:=by
    unfold start at h2
    rw[qK_ (by simpa using hi),qQ_]at h2
    cases e:vs[i]? with
    |none=>rw[e]at h2;cases h2
    |some a=>rw[e]at h2;cases h2;rfl
   obtain⟨u,hu,rv⟩:=r.get ha
   have hp:ps[i]? =some y:=by
    rw[<-S.pre,List.getElem?_take_of_lt (by omega)];exact h1
   have ndP:ps.Nodup:=by rw[<-S.pre];exact S.nd.sublist (List.take_sublist _ _)
   refine⟨u,rv,?_⟩
   rcases S.par y (qD_ hp)with k |k
   · exact .inl ⟨k,sH ndP hp hu k⟩
   · obtain⟨c,e⟩:=vb (n:=s.heap.objs.size+1) k
     refine .inr ⟨.inl k,c,e,?_⟩
     have q:=x.cell y c e
     rw[r6 ndP hp hu (by show scope.names.lookup y≠_;rw[k];decide)]at q
     exact q
 · exact e0.hok.fresh (Nat.le_of_lt (x.above y c (PySem.mem_of_lookup h)))
 · unfold start
   show _=N.length
   rw[qN_,qM_,List.length_replicate]
   omega
theorem E5{CX:CXT}{P:Program}{w:World}{K:PySem.W.Frag}{mg:Str->Option Value}{base:Heap}{k:Nat}{f:Addr}{name qual:Str}{params:Arguments}{body:List Stmt}{scope:Scope}{dV kV doc pm cdv ct oc:Value}{an od:Option Addr}
 {osl:Array (Option Value)} {N ps:List Str} {sp:Sp} (lk:K.lookup f=some ⟨oc,od,.func (PySem.W.fnOf name qual params body scope dV kV doc pm an cdv ct),osl⟩) (hcd:PySem.W.codeIn K cdv qual=true) (S:au N ps scope)
 (len:∀vs H Q E,sp vs H Q E->vs.length=ps.length)
 (hbody:∀(A:Around) (outer:List Env) (s:Shared) (H:Hp) (vs:List V) (Q:VK) (E:XK),cU k (A.deeper (envOfC qual scope s.heap.objs.size f cdv))->sp vs H Q E->
   ∃t,PSs (lj CX P w K mg base N qual scope f cdv A outer s H E) body t/\t {nx:=fun _ H'=>Q .non H',rt:=Q} (start N vs) H):
 aP P w K mg base CX (k+1) f (PySem.W.fnOf name qual params body scope dV kV doc pm an cdv ct) ps sp:=by
 refine⟨len,fun A outer s H args us vs Q E hr e0 hb r hsp=>?_⟩
 have hl:=len _ _ _ _ hsp
 have KX:K.In s.heap:=e0.mod.kin.keeps fun b o e=>(e0.bs b o e).1
 have lim:s.heap.NoLimit:=e0.mod.nolimit.keeps fun b o e=>(e0.bs b o e).1
 have hkind:∀y∈ps.zip us,scope.names.lookup y.1=some .local\/(scope.names.lookup y.1=some .cell/\((cellsFrom (s.heap.objs.size+1) scope.names []).lookup y.1).isSome=true):=fun⟨n,v⟩ hy=>by
  rcases S.par n (List.of_mem_zip hy).1 with q |q
  · exact .inl q
  · exact .inr ⟨q,PySem.W.cellsFrom_some _ _ _ (.inl q)⟩
 refine codeAny_call_function hr.depth (KX _ _ lk) rfl S.co S.gen rfl (PySem.W.codeRec_of KX hcd) (hb _ _ _ _ ?_)
 refine wpAny_newFunctionEnv_cells S.kind hkind fun env he s1 x=>?_
 subst he
 refine⟨lim.keeps x.toInCall.keep,codeAny_func ?_⟩
 obtain⟨t,ht,hq⟩:=hbody A outer s H vs Q E (hr.deeper _) hsp
 have I:Inv (lj CX P w K mg base N qual scope f cdv A outer s H E) [] (start N vs) H s1:=ze S hr.hd e0 hl r x
 refine wpAny_mono (ht [] s1 (start N vs) H _ I hq) (fun fl s' hs=>?_) fun e s' hs=>hs
 have fin:∀{σ':St} {H':Hp} {v:V} {u:Value},Inv (lj CX P w K mg base N qual scope f cdv A outer s H E) [] σ' H' s'->RelV v u->Q v H'->CE outer P w H s Q u s':=
  fun {σ' H' v u} J rv q=>⟨v,H',J.os,J.bare,J.base,J.hok,rv,q⟩
 cases fl with
 |ret u=>
  obtain⟨v,σ',H',J,rv,q⟩:=hs
  exact fin J rv q
 |next=>
  obtain⟨σ',H',J,q⟩:=hs
  exact fin (v:=V.non) (u:=Value.none) J rfl q
 |brk=>
  obtain⟨_,_,_,q⟩:=hs
  exact False.elim q
 |cont=>
  obtain⟨_,_,_,q⟩:=hs
  exact False.elim q
section
variable{X:Cx}{x:Str}{p pos:Pos}{e:Expr}{es:List Expr}{t:TA}{id T:String}{r:List V->Hp->VK->Prop}
def tCB(r:List V->Hp->VK->Prop)(t:TA):TE:=fun σ H Q=>t σ H fun vs H1=>r vs H1 Q
theorem pL(hc:fL X (.builtin id) r)(hg:Gl X x)(hm:X.mg x=none)(hv:bootBuiltins x=some (.builtin id))(ha:PA X (e :: es) t)(hn:x≠"__name__":=by decide)(hdb:(x==("__debug__":Str))=false:=by decide)
 (he:starEach (e :: es) X.env=(false,eval e X.env) :: starEach es X.env:=by rfl) (hpl:(backTo pos (starEach es X.env)).any (·.1)=false:=by rfl):PE X (.Call (.Name x p) (e :: es) [] pos) (tCB r t):=by
 intro pins s σ H Q I h
 refine wpAny_Call_Name_kw (nE I hg hm hv ?_ hn hdb)
 exact PyProof.Rows.callWith_builtin1 (thn (ha pos pins s σ H _ I h) fun us s1 ⟨vs,H1,I1,r1,q1⟩=>hc pins s1 σ H1 vs us Q I1 r1 q1) he hpl
theorem yS(hc:fL X (.type T) r)(hg:Gl X x)(hm:X.mg x=none)(hv:bootBuiltins x=some (.type T))(ha:PA X (e :: es) t)(hn:x≠"__name__":=by decide)(hdb:(x==("__debug__":Str))=false:=by decide)
 (he:starEach (e :: es) X.env=(false,eval e X.env) :: starEach es X.env:=by rfl) (hpl:(backTo pos (starEach es X.env)).any (·.1)=false:=by rfl):PE X (.Call (.Name x p) (e :: es) [] pos) (tCB r t):=by
 intro pins s σ H Q I h
 refine wpAny_Call_Name_kw (nE I hg hm hv ?_ hn hdb)
 exact PyProof.Rows.callWith_type1 (thn (ha pos pins s σ H _ I h) fun us s1 ⟨vs,H1,I1,r1,q1⟩=>hc pins s1 σ H1 vs us Q I1 r1 q1) he hpl
end
end L2
namespace HT
open PySem PyProof.Rows
def lexLt:List Int->List Int->Bool
 | [],[]=>false
 | [],_ :: _=>true
 |_ :: _,[]=>false
 |x :: xs,y :: ys=>if x=y then lexLt xs ys else decide (x < y)
theorem qR(x y:Int)(xs ys:List Int):lexLt (x :: xs) (y :: ys)=if x=y then lexLt xs ys else decide (x < y):=rfl
theorem lP:lexLt [] []=false:=rfl
theorem kj(y:Int)(ys:List Int):lexLt [] (y :: ys)=true:=rfl
theorem jE(x:Int)(xs:List Int):lexLt (x :: xs) []=false:=rfl
theorem vX(A:Around)(s:Shared)(a:Int)(t:Tok)(c:Int)(u:Tok):∃e,SeqAt.EqAt A s (.int a t) (.int c u) e/\(e=true↔a=c):=
 ⟨(a==c),SeqAt.EqAt.int_int a t c u,by simp⟩
theorem Co(A:Around)(s:Shared)(a:Int)(t:Tok)(c:Int)(u:Tok)(prog:Program)(w:World)(E:Value->Shared->Prop)(Q:Value->Shared->Prop)(h:Q (.bool (decide (a < c))) s):
 wpAny (model prog w) A (richCompare .Lt (.int a t) (.int c u)) Q E s:=
 (PyProof.Rows.lt_int h:wpAny (model prog w) A (compareOp .Lt (.int a t) (.int c u)) Q E s)
section
open PySem.SeqAt
open PySem.AutoSeq1 (wpAny_loadPart')
open PySem.MeetsSeq PySem.MeetsSeq2 PySem.MeetsSeq3
theorem rK(l b:Addr)(items items2:Array Value)(n n2:Nat)(dd dd2:Option Addr)(sl sl2:Array (Option Value))(ns ms:List Int)(hi:IntsAre items.toList ns)(hj:IntsAre items2.toList ms):
 Meets (Builtin.«tuple.__lt__» ⟨[.ref l,.ref b],[]⟩)
  (fun _ R s=>s.heap.get? l=some {cls:= .type "tuple",dict:=dd,data:= .seq items n,slots:=sl}/\s.heap.get? b=some {cls:= .type "tuple",dict:=dd2,data:= .seq items2 n2,slots:=sl2}/\
    R (.ok (.ret (.bool (lexLt ns ms)))) s):=
 .of_wp fun prog w A R s h=>by
  obtain⟨hp,g,d,tk,os⟩:=s;obtain⟨hl,hb,h⟩:=h
  have f2:=AutoSeq1.sub_tuple_tuple
  have z1:items.size=ns.length:=by rw[<-hi.length];simp
  have z2:items2.size=ms.length:=by rw[<-hj.length];simp
  wp_walk using wpAny_loadPart' hl,wpAny_loadPart' hb,wpAny_forIn_list _ (fun rest b s'=>b.1=none/\s'=⟨hp,g,d,tk,os⟩/\∃(vs ws:List Value) (ns' ms':List Int),rest=vs.zip ws/\
   IntsAre vs ns'/\IntsAre ws ms'/\ns'.length+items2.size=ms'.length+items.size/\R (.ok (.ret (.bool (lexLt ns' ms')))) ⟨hp,g,d,tk,os⟩) _
  case turn=>
   rintro⟨y,x⟩ rest b s' ⟨hb',rfl,vs,ws,ns',ms',hz,hvi,hwi,hlen,hR⟩
   cases hvi with
   |nil=>rw[List.zip_nil_left]at hz;cases hz
   |cons a t hvi'=>
    cases hwi with
    |nil=>rw[List.zip_nil_right]at hz;cases hz
    |cons c u hwi'=>
     rw[List.zip_cons_cons]at hz
     injection hz with hyx hrest
     injection hyx with hy hx
     subst hy hx
     rw[qR]at hR
     simp only[List.length_cons]at hlen
     obtain⟨e,he,hiff⟩:=vX A.in1 ⟨hp,g,d,tk,os⟩ a t c u
     refine wpAny_bind (he prog w _ _ ?_)
     cases e with
     |true=>
      rw[if_pos (hiff.mp rfl)]at hR
      wp_walk
      exact⟨rfl,rfl,_,_,_,_,hrest,hvi',hwi',by omega,hR⟩
     |false=>
      rw[if_neg (fun q=>absurd (hiff.mpr q) qC_)]at hR
      have hri:=Co A.in1 ⟨hp,g,d,tk,os⟩ a t c u prog w
      wp_walk using hri
      exact⟨_,rfl,by simpa using hR⟩
  case fin=>
   rintro⟨b1,b2⟩ s' ⟨hb',rfl,vs,ws,ns',ms',hz,hvi,hwi,hlen,hR⟩
   simp only at hb'
   subst hb'
   have hv:lexLt ns' ms'=decide (items.size < items2.size):=by
    cases hvi with
    |nil=>
     cases hwi with
     |nil=>
      simp only[List.length_nil]at hlen
      rw[lP]
      exact(qa_ (by omega)).symm
     |cons c u hw=>
      simp only[List.length_nil,List.length_cons]at hlen
      rw[kj]
      exact(qZ_ (by omega)).symm
    |cons a t hv=>
     cases hwi with
     |nil=>
      simp only[List.length_nil,List.length_cons]at hlen
      rw[jE]
      exact(qa_ (by omega)).symm
     |cons c u hw=>
      rw[List.zip_cons_cons]at hz
      cases hz
   rw[hv]at hR
   wp_walk
   exact⟨_,rfl,by simpa [Builtin.Tuple.tupleCompareSizes] using hR⟩
  case h=>
   exact⟨rfl,rfl,items.toList,items2.toList,ns,ms,rfl,hi,hj,by omega,h⟩
end
section
variable{prog:Program}{w:World}{A:Around}{E:Value->Shared->Prop}{s:Shared}
theorem wQ{l b:Addr}{items items2:Array Value}{ns ms:List Int}{Q:Value->Shared->Prop}(hl:IsTup s.heap l items)(hb:IsTup s.heap b items2)(hi:IntsAre items.toList ns)(hj:IntsAre items2.toList ms)
 (hu:A.units < cLine) (h:Q (.bool (lexLt ns ms)) s):wpAny (model prog w) A (compareOp .Lt (.ref l) (.ref b)) Q E s:=by
 obtain⟨⟨cls,dd,data,sl⟩,ho,hc,n,hd⟩:=id hl
 obtain⟨⟨cls2,dd2,data2,sl2⟩,ho2,hc2,n2,hd2⟩:=id hb
 simp only at hc hd hc2 hd2
 subst hc hd hc2 hd2
 exact richCompare_meets_room (op:= .Lt) ⟨_,ho,rfl⟩ ⟨_,ho2,rfl⟩ PySem.F.slot_tuple_lt PySem.F.entry_tuple_lt (PySem.F.args_tuple_lt_2 _ _) (rK l b items items2 n n2 dd dd2 sl sl2 ns ms hi hj)
  ⟨ho,ho2,show Value.bool (lexLt ns ms)≠Value.notImplemented/\Q (.bool (lexLt ns ms)) s from⟨(fun x=>nomatch x),h⟩⟩ hu
theorem DC{t b:Addr}{vs ws:List Value}{Q:Value->Shared->Prop}(ht:IsTup s.heap t vs.toArray)(hb:IsTup s.heap b ws.toArray)(hv:vs≠ [])
 (h1:ws=[]->Q (.ref t) s) (h2:ws≠ []->Q (.ref s.heap.objs.size) {s with heap:=s.heap.push {cls:= .type "tuple",data:= .seq (vs++ws).toArray}})
 (hsz:vs.length+ws.length<=sizeLine):wpAny (model prog w) A (binaryOp .Add (.ref t) (.ref b)) Q E s:=by
 obtain⟨⟨cls,dd,data,sl⟩,ho,hc,n,hd⟩:=id ht
 obtain⟨⟨cls2,dd2,data2,sl2⟩,ho2,hc2,n2,hd2⟩:=id hb
 simp only at hc hd hc2 hd2
 subst hc hd hc2 hd2
 have e:vs.toArray++ws.toArray=(vs++ws).toArray:=by simp
 by_cases hw:ws=[]
 · exact concat_meets ⟨_,ho,rfl⟩ ⟨_,ho2,rfl⟩ noFill_tuple_add seq_tuple_add PySem.F.slot_tuple_add PySem.F.entry_tuple_add (PySem.F.args_tuple_add_2 _ _)
    (tuple_addW1 t b vs.toArray ws.toArray n n2 dd dd2 sl sl2 (by simpa using hv) (by simp [hw])) ⟨ho,ho2,h1 hw⟩
 · refine concat_meets ⟨_,ho,rfl⟩ ⟨_,ho2,rfl⟩ noFill_tuple_add seq_tuple_add PySem.F.slot_tuple_add PySem.F.entry_tuple_add (PySem.F.args_tuple_add_2 _ _)
    (tuple_addW2 t b vs.toArray ws.toArray n n2 dd dd2 sl sl2 (by simpa using hv) (by simpa using hw) (by rw[qW_,qW_];exact hsz)) ⟨ho,ho2,?_⟩
   rw[e]
   exact h2 hw
def sIx(n d:Nat):Option Int->Nat
 |none=>d
 |some v=>if v < 0 then (v+(n:Int)).toNat else min v.toNat n
theorem Fs(n d:Nat)(hd:d<=n)(o:Option Int):sIx n d o<=n:=by
 cases o with
 |none=>exact hd
 |some v=>
  show (if v < 0 then (v+(n:Int)).toNat else min v.toNat n)<=n
  by_cases hv:v < 0
  · rw[if_pos hv];omega
  · rw[if_neg hv];exact Nat.min_le_right _ _
theorem xN(v:Int)(n d:Nat):(if v < 0 then max (v+(n:Int)) 0 else min v (n:Int))=((sIx n d (some v):Nat):Int):=by
 show (if v < 0 then max (v+(n:Int)) 0 else min v (n:Int))=(((if v < 0 then (v+(n:Int)).toNat else min v.toNat n):Nat):Int)
 by_cases hv:v < 0
 · simp only[if_pos hv];omega
 · simp only[if_neg hv];omega
theorem xF(lo hi:Option Int)(n:Nat):Builtin.Slice.sliceAdjust lo hi 1 (n:Int)=(((sIx n 0 lo:Nat):Int),((sIx n n hi:Nat):Int)):=by
 have h1:¬((1:Int) < 0):=by omega
 unfold Builtin.Slice.sliceAdjust
 simp only[h1,if_false]
 refine Prod.ext ?_ ?_
 · cases lo with
   |none=>rfl
   |some v=>exact xN v n 0
 · cases hi with
   |none=>rfl
   |some v=>exact xN v n n
theorem wR(i j:Nat):Builtin.Slice.slicePlaces (i:Int) (j:Int) 1=j - i:=by
 unfold Builtin.Slice.slicePlaces
 have h1:(1:Int) > 0:=by omega
 simp only[h1,if_true,Int.ediv_one]
 split <;> omega
theorem pU{v:Value}{o:Option Int}{Q:Option Int->Shared->Prop}(p:IsPart v o)(h:Q o s):wpAny (model prog w) A (Builtin.Slice.slicePartIndex v) Q E s:=by
 cases p with
 |none=>exact slicePart_none h
 |int i t=>exact slicePart_int h
theorem n0{sl:Addr}{vl vu:Value}{lo hi:Option Int}{n:Nat}{Q:Int×Int×Nat->Shared->Prop}(hs:s.heap.IsSliceOf sl vl vu .none)(pl:IsPart vl lo)(pu:IsPart vu hi)
 (h:Q (((sIx n 0 lo:Nat):Int),1,sIx n n hi - sIx n 0 lo) s):wpAny (model prog w) A (Builtin.Slice.sliceApplied (.ref sl) (pure (n:Int))) Q E s:=by
 obtain⟨os,hos,hcs,hds⟩:=id hs
 unfold Builtin.Slice.sliceApplied Builtin.Slice.sliceFields
 refine wpAny_bind (wpAny_bind (wpAny_field hos hds (x:=vl) rfl (wpAny_bind (wpAny_field hos hds (x:=vu) rfl (wpAny_bind (wpAny_field hos hds (x:= .none) rfl (wpAny_pure ?_)))))))
 refine wpAny_bind (slicePart_none ?_)
 show wpAny _ _ (if ((1:Int)==0)=true then _ else _) _ _ s
 rw[if_neg (by decide)]
 refine wpAny_bind (pU pl (wpAny_bind (pU pu (wpAny_bind (wpAny_pure ?_)))))
 show wpAny _ _ (match Builtin.Slice.sliceAdjust lo hi 1 (n:Int)with |(lo,hi)=>pure (lo,(1:Int),Builtin.Slice.slicePlaces lo hi 1)) _ _ s
 rw[xF lo hi n]
 show wpAny _ _ (pure (((sIx n 0 lo:Nat):Int),(1:Int),Builtin.Slice.slicePlaces ((sIx n 0 lo:Nat):Int) ((sIx n n hi:Nat):Int) 1)) _ _ s
 rw[wR]
 exact wpAny_pure h
theorem zV(xs:Array Value)(i k:Nat):((List.range k).filterMap fun(m:Nat)=>xs[((i:Int)+(m:Int)*1).toNat]?).toArray=((xs.toList.drop i).take k).toArray:=by
 have e:(fun(m:Nat)=>xs[((i:Int)+(m:Int)*1).toNat]?)=fun m=>xs[i+m]?:=by
  funext m
  have:((i:Int)+(m:Int)*1).toNat=i+m:=by omega
  rw[this]
 rw[e]
 have:=pick_run xs i k
 rw[List.filterMap_map]at this
 have e2:((fun x=>xs[x]?) ∘ fun x=>i+x)=fun m=>xs[i+m]?:=rfl
 rw[e2]at this
 rw[this]
theorem mS{t sl:Addr}{items:Array Value}{vl vu:Value}{lo hi:Option Int}{Q:Value->Shared->Prop}(ht:IsTup s.heap t items)(hs:s.heap.IsSliceOf sl vl vu .none)(pl:IsPart vl lo)(pu:IsPart vu hi)
 (hw:¬(sIx items.size 0 lo=0/\sIx items.size items.size hi=items.size))
 (h:Q (.ref s.heap.objs.size) {s with heap:=s.heap.push {cls:= .type "tuple",data:= .seq ((items.toList.drop (sIx items.size 0 lo)).take (sIx items.size items.size hi - sIx items.size 0 lo)).toArray}})
 (hsz:items.size<=sizeLine):wpAny (model prog w) A (getItem (.ref t) (.ref sl)) Q E s:=by
 have htake:sizeOk (.seq ((items.toList.drop (sIx items.size 0 lo)).take (sIx items.size items.size hi - sIx items.size 0 lo)).toArray):=by
  show ((items.toList.drop (sIx items.size 0 lo)).take (sIx items.size items.size hi - sIx items.size 0 lo)).toArray.size<=sizeLine
  rw[qW_,List.length_take,List.length_drop,Array.length_toList]
  omega
 have hj:sIx items.size items.size hi<=items.size:=Fs _ _ (qO_ _) hi
 obtain⟨os,hos,hcs,hds⟩:=id hs
 have hTs:s.TypeIs (.ref sl) "slice":=⟨os,hos,hcs⟩
 unfold getItem
 try with_reducible refine wpAny_holding ?_
 first |refine wpAny_bind (wpAny_pure ?_) |skip
 refine wpAny_bind (wpAny_sequenceKey ht.typeIs (by decide) ?_)
 refine wpAny_bind (wpAny_callSpecial?_slot (name:=Str.ofString "__getitem__") ht.typeIs PyProof.Rows.slot_tuple_getitem
  (wpAny_call_entry PyProof.Rows.slot_tuple_getitem ht.typeIs entry_tuple_getitem ?_ (args_tuple_getitem _ _)))
 show wpAny _ _ (Builtin.Tuple.tupleItemsOf (.ref t) >>= _) _ _ s
 refine wpAny_bind (tupleItemsOf_ ht ?_)
 refine wpAny_bind (wpAny_typeOf hTs ?_)
 rw[if_pos (by decide)]
 refine wpAny_bind (n0 hs pl pu ?_)
 have hno:¬((((sIx items.size 0 lo:Nat):Int)==0&&(1:Int)==1&&(sIx items.size items.size hi - sIx items.size 0 lo)==items.size)=true):=by
  intro q
  rw[Bool.and_eq_true,Bool.and_eq_true]at q
  have q1:((sIx items.size 0 lo:Nat):Int)=0:=eq_of_beq q.1.1
  have q2:sIx items.size items.size hi - sIx items.size 0 lo=items.size:=eq_of_beq q.2
  exact hw ⟨by omega,by omega⟩
 show wpAny _ _ (if (((sIx items.size 0 lo:Nat):Int)==0&&(1:Int)==1&&(sIx items.size items.size hi - sIx items.size 0 lo)==items.size)=true then _ else _) _ _ s
 rw[if_neg hno,zV]
 first
  |exact wpAny_bind (m:=Builtin.Tuple.tupleExact _) (wpAny_newObj_type (wpAny_pure ⟨_,rfl,wpAny_pure h⟩) htake)
  |exact wpAny_bind (m:=Builtin.Tuple.tupleExact _) (wpAny_newObj_type (wpAny_bind (wpAny_pure (wpAny_pure ⟨_,rfl,wpAny_pure h⟩))) htake)
  |exact wpAny_bind (wpAny_bind (m:=Builtin.Tuple.tupleExact _) (wpAny_newObj_type (wpAny_pure (wpAny_pure ⟨_,rfl,wpAny_pure h⟩)) htake))
  |exact wpAny_bind (wpAny_bind (m:=Builtin.Tuple.tupleExact _) (wpAny_newObj_type (wpAny_pure ⟨_,rfl,wpAny_pure h⟩) htake))
end
end HT
namespace L2
open PySem PySem.Spec PyProof.Rows
abbrev TO:=St->Hp->(Option Int->Hp->Prop)->Prop
def PO(X:Cx)(e:Option Expr)(t:TO):Prop:=
 ∀(pins:List (Addr×Obj)) (s:Shared) (σ:St) (H:Hp) (Q:Option Int->Hp->Prop),Inv X pins σ H s->t σ H Q->
  wpAny (model X.prog X.w) X.A (evalPart e X.env) (fun u s'=>∃o H',Inv X pins σ H' s'/\IsPart u o/\Q o H') X.xe s
def C5:TO:=fun _ H Q=>Q none H
def Ib(t:TE):TO:=fun σ H Q=>t σ H fun x H1=>∃i,x= .int i/\Q (some i) H1
theorem intsAre_of{ns:List Int}:∀{us:List Value},Vals (ns.map V.int) us->IntsAre us ns:=by
 induction ns with
 |nil=>intro us r;rw[List.map_nil]at r;cases r;exact .nil
 |cons n ns ih=>
  intro us r
  rw[List.map_cons]at r
  cases r with
  |cons r1 r2=>
   obtain⟨t,e⟩:=r1
   subst e
   exact .cons n t (ih r2)
section
variable{X:Cx}{e:Expr}{te:TE}{lo hi:Option Expr}{tl th:TO}{pos p2:Pos}
theorem Dv:PO X none C5:=by
 intro pins s σ H Q I h
 rw[evalPart_none]
 exact wpAny_pure ⟨none,H,I,.none,h⟩
theorem DU(h:PE X e te):PO X (some e) (Ib te):=by
 intro pins s σ H Q I hw
 rw[evalPart_some]
 refine thn (h pins s σ H _ I hw) fun u s1 ⟨x,H1,I1,r1,q1⟩=>?_
 obtain⟨i,rfl,q⟩:=q1
 obtain⟨t,rfl⟩:=r1
 exact⟨some i,H1,I1,.int i t,q⟩
def SlR(X:Cx)(r:V->Option Int->Option Int->Hp->VK->Prop):Prop:=
 ∀(pins:List (Addr×Obj)) (s:Shared) (σ:St) (H:Hp) (x:V) (v vl vu:Value) (lo hi:Option Int) (sl:Addr) (Q:VK),Inv X pins σ H s->RelV x v->s.heap.IsSliceOf sl vl vu .none->IsPart vl lo->IsPart vu hi->r x lo hi H Q->
  ∃T id,typeLookup (.type T) "__getitem__"=pure (some (.builtin id))/\s.TypeIs v T/\wpAny (model X.prog X.w) X.A (getItem v (.ref sl)) (EP X pins σ Q) X.xe s
theorem SlR.or{r r':V->Option Int->Option Int->Hp->VK->Prop}(h:SlR X r)(h':SlR X r'):SlR X (fun x lo hi H Q=>r x lo hi H Q\/r' x lo hi H Q):=by
 intro pins s σ H x v vl vu lo hi sl Q I rx hs pl pu q
 rcases q with q |q
 · exact h pins s σ H x v vl vu lo hi sl Q I rx hs pl pu q
 · exact h' pins s σ H x v vl vu lo hi sl Q I rx hs pl pu q
def tSl(r:V->Option Int->Option Int->Hp->VK->Prop)(te:TE)(tl th:TO):TE:=fun σ H Q=>te σ H fun x H1=>tl σ H1 fun l H2=>th σ H2 fun u H3=>r x l u H3 Q
theorem BJ{r:V->Option Int->Option Int->Hp->VK->Prop}(hr:SlR X r)(he:PE X e te)(hl:PO X lo tl)(hu:PO X hi th):PE X (.Subscript e (.Slice lo hi none p2) pos) (tSl r te tl th):=by
 intro pins s σ H Q I h
 refine Subscript_ (thn (he pins s σ H _ I h) fun v s1 ⟨x,H1,I1,r1,q1⟩=>?_)
 refine wpAny_Slice (thn (hl pins s1 σ H1 _ I1 q1) fun vl s2 ⟨l,H2,I2,pl,q2⟩=>thn (hu pins s2 σ H2 _ I2 q2) fun vu s3 ⟨u,H3,I3,pu,q3⟩=>?_)
 rw[evalPart_none]
 refine wpAny_pure ?_
 have I4:Inv X pins σ H3 {s3 with heap:=s3.heap.push {cls:= .type "slice",data:= .fields #[vl,vu,.none]}}:=I3.kept (t':=s3.toks) fun b ob q=>Heap.get?_push_of_some _ q
 obtain⟨T,id,hT,ht,hg⟩:=hr pins {s3 with heap:=s3.heap.push {cls:= .type "slice",data:= .fields #[vl,vu,.none]}} σ H3 x v vl vu l u s3.heap.objs.size Q I4 r1 (Heap.IsSliceOf.new ..) pl pu q3
 show wpAny (model X.prog X.w) X.A (subscriptTail e (.Slice lo hi none p2) v (.ref s3.heap.objs.size)) (EP X pins σ Q) X.xe {s3 with heap:=s3.heap.push {cls:= .type "slice",data:= .fields #[vl,vu,.none]}}
 exact tail_any (ops:=[.ref s3.heap.objs.size,v]) ht hT hg (by with_unfolding_all rfl)
def rm(xs:List V)(lo hi:Option Int):List V:=(xs.drop (HT.sIx xs.length 0 lo)).take (HT.sIx xs.length xs.length hi - HT.sIx xs.length 0 lo)
theorem oC(xs:List V)(lo hi:Option Int):(rm xs lo hi).length<=xs.length:=by
 unfold rm
 rw[List.length_take,List.length_drop]
 omega
def JY(K:PySem.W.Frag):V->Option Int->Option Int->Hp->VK->Prop:=fun x lo hi H Q=>∃a xs,x= .ref a/\SqT K H a xs/\
 ¬(HT.sIx xs.length 0 lo=0/\HT.sIx xs.length xs.length hi=xs.length)/\∀p,H p=none->Q (.ref p) (upd H p (.tup (rm xs lo hi)))
theorem F7:SlR X (JY X.K):=by
 intro pins s σ H x v vl vu lo hi sl Q I rx hs pl pu h
 obtain⟨a,xs,rfl,hx,hw,q⟩:=h
 cases rx
 obtain⟨its,r,ht,hz⟩:=I.tuple hx
 have hlen:its.toArray.size=xs.length:=by rw[qW_];exact r.length.symm
 refine⟨"tuple",_,PyProof.Rows.slot_tuple_getitem.lookup,ht.typeIs,?_⟩
 refine HT.mS ht hs pl pu (by rw[hlen];exact hw) ?_ (by rw[hlen];exact hz)
 rw[hlen]
 refine⟨.ref s.heap.objs.size,_,I.laid (t':=s.toks) (o:= .tup (rm xs lo hi)) (fun b ob q=>Heap.get?_push_of_some _ q) (qO_ _) ?_,rfl,q _ (I.hok.fresh (qO_ _))⟩
 exact⟨Nat.le_trans (oC xs lo hi) hz,_,(r.drop (HT.sIx xs.length 0 lo)).take (HT.sIx xs.length xs.length hi - HT.sIx xs.length 0 lo),IsTup.new _ _⟩
def JD(K:PySem.W.Frag):R2:=fun x y H Q=>∃a b ns ms,x= .ref a/\y= .ref b/\SqT K H a (ns.map V.int)/\SqT K H b (ms.map V.int)/\Q (.bl (HT.lexLt ns ms)) H
theorem GF(hu:X.A.units < cLine):OpR X (compareOp .Lt) (JD X.K):=by
 intro pins s σ H x y v u Q I rx ry h
 obtain⟨a,b,ns,ms,rfl,rfl,ha,hb,q⟩:=h
 cases rx
 cases ry
 obtain⟨its,r1,p1,_⟩:=I.tuple ha
 obtain⟨its2,r2,p2,_⟩:=I.tuple hb
 have i1:IntsAre its.toArray.toList ns:=intsAre_of r1
 have i2:IntsAre its2.toArray.toList ms:=intsAre_of r2
 exact HT.wQ p1 p2 i1 i2 hu ⟨.bl (HT.lexLt ns ms),H,I,rfl,q⟩
def Ew(K:PySem.W.Frag):R2:=fun x y H Q=>∃a b xs ys,x= .ref a/\y= .ref b/\SqT K H a xs/\SqT K H b ys/\xs≠ []/\xs.length+ys.length<=sizeLine/\
 (ys=[]->Q (.ref a) H)/\(ys≠ []->∀p,H p=none->Q (.ref p) (upd H p (.tup (xs++ys))))
theorem Vals.uz{xs:List V}{us:List Value}(r:Vals xs us):us=[]↔xs=[]:=by
 cases r with
 |nil=>simp
 |cons _ _=>simp
theorem CQ:OpR X (binaryOp .Add) (Ew X.K):=by
 intro pins s σ H x y v u Q I rx ry h
 obtain⟨a,b,xs,ys,rfl,rfl,ha,hb,hx,hz,q1,q2⟩:=h
 cases rx
 cases ry
 obtain⟨its,r1,p1,_⟩:=I.tuple ha
 obtain⟨its2,r2,p2,_⟩:=I.tuple hb
 refine HT.DC p1 p2 (fun z=>hx (r1.uz.mp z)) (fun z=>⟨.ref a,H,I,rfl,q1 (r2.uz.mp z)⟩) (fun z=>?_) (by rw[<-r1.length,<-r2.length];exact hz)
 refine⟨.ref s.heap.objs.size,_,I.laid (t':=s.toks) (o:= .tup (xs++ys)) (fun b ob q=>Heap.get?_push_of_some _ q) (qO_ _) ?_,rfl,q2 (fun w=>z (r2.uz.mpr w)) _ (I.hok.fresh (qO_ _))⟩
 exact⟨by rw[qN_];exact hz,_,r1.append r2,IsTup.new _ _⟩
end
def ixN(n:Nat)(i:Int):Option Nat:=if 0<=i then (if i < n then some i.toNat else none)else if -(n:Int)<=i then some (i+n).toNat else none
def atI{α:Type}(xs:List α)(i:Int):Option α:=(ixN xs.length i).bind fun j=>xs[j]?
theorem sI{n:Nat}{i:Int}{j:Nat}(h:ixN n i=some j):seqIndex? i n=some j/\j < n/\-(n:Int)<=i/\i < n:=by
 unfold ixN at h
 by_cases h0:0<=i
 · rw[if_pos h0]at h
   by_cases h1:i < n
   · rw[if_pos h1]at h
     have e:i.toNat=j:=Option.some.inj h
     exact⟨by rw[seqIndex_of h0 h1,e],by omega,by omega,h1⟩
   · rw[if_neg h1]at h;cases h
 · rw[if_neg h0]at h
   by_cases h1:-(n:Int)<=i
   · rw[if_pos h1]at h
     have e:(i+n).toNat=j:=Option.some.inj h
     exact⟨by rw[seqIndex_neg (by omega) h1,e],by omega,h1,by omega⟩
   · rw[if_neg h1]at h;cases h
theorem yq{α:Type}{xs:List α}{i:Int}{v:α}(h:atI xs i=some v):∃j,seqIndex? i xs.length=some j/\xs[j]? =some v/\j < xs.length/\-(xs.length:Int)<=i/\i < xs.length:=by
 unfold atI at h
 cases e:ixN xs.length i with
 |none=>rw[e]at h;cases h
 |some j=>
  rw[e]at h
  obtain⟨h1,h2,h3,h4⟩:=sI e
  exact⟨j,h1,h,h2,h3,h4⟩
def pv(b:Expr):Prop:=∀o i,subscripted b false o i=operate [o,i] (getItem o i)
def IxR(X:Cx)(r:R2):Prop:=
 ∀(value slice:Expr) (pins:List (Addr×Obj)) (s:Shared) (σ:St) (H:Hp) (x y:V) (v u:Value) (Q:VK),Inv X pins σ H s->RelV x v->RelV y u->r x y H Q->
  subscripted slice false v u=operate [v,u] (getItem v u)->wpAny (model X.prog X.w) X.A (subscriptTail value slice v u) (EP X pins σ Q) X.xe s
def MtR(X:Cx)(id:String)(r:V->List V->Hp->VK->Prop):Prop:=
 ∀(pins:List (Addr×Obj)) (s:Shared) (σ:St) (H:Hp) (x:V) (xs:List V) (v:Value) (us:List Value) (Q:VK),Inv X pins σ H s->RelV x v->Vals xs us->r x xs H Q->
  wpAny (model X.prog X.w) X.A (call (.builtin id) (v :: us)) (EP X pins σ Q) X.xe s
section
variable{X:Cx}{a b:Expr}{ta tb:TE}{pos:Pos}
theorem IxR.or{r r':R2}(h:IxR X r)(h':IxR X r'):IxR X (fun x y H Q=>r x y H Q\/r' x y H Q):=by
 intro value slice pins s σ H x y v u Q I rx ry q hs
 rcases q with q |q
 · exact h value slice pins s σ H x y v u Q I rx ry q hs
 · exact h' value slice pins s σ H x y v u Q I rx ry q hs
theorem E2{r:R2}(hr:IxR X r)(ha:PE X a ta)(hb:PE X b tb)(hs:pv b):PE X (.Subscript a b pos) (tOp r ta tb):=by
 intro pins s σ H Q I h
 exact Subscript_ (FQ ha hb I h fun v u s2 x y H2 I2 rx ry q=>hr a b pins s2 σ H2 x y v u Q I2 rx ry q (hs _ _))
def Ic(K:PySem.W.Frag):R2:=fun x y H Q=>∃p xs i v,x= .ref p/\y= .int i/\SqL K H p xs/\atI xs i=some v/\Q v H
def JC(K:PySem.W.Frag):R2:=fun x y H Q=>∃p xs i v,x= .ref p/\y= .int i/\SqT K H p xs/\atI xs i=some v/\Q v H
theorem D2:IxR X (Ic X.K):=by
 intro value slice pins s σ H x y v u Q I rx ry h hs
 obtain⟨p,xs,i,z,rfl,rfl,hq,he,q⟩:=h
 cases rx
 obtain⟨t,rfl⟩:=ry
 obtain⟨its,r,pl,hz⟩:=I.list hq
 obtain⟨j,h1,h2,h3,h4,h5⟩:=yq he
 obtain⟨w,ew,rw'⟩:=r.get h2
 have hl:=r.length
 have hn:=qM
 have fin:EP X pins σ Q w s:=⟨z,H,I,rw',q⟩
 by_cases h0:0<=i
 · have hj:i.toNat=j:=by
    rw[seqIndex_of h0 h5]at h1
    exact Option.some.inj h1
   exact item_listR pl.isList h0 (by omega) (by rw[hj];simpa using ew) fin hs
 · have hj:(i+(its.toArray.size:Int)).toNat=j:=by
    rw[seqIndex_neg (by omega) h4]at h1
    rw[qW_,<-hl]
    exact Option.some.inj h1
   exact subscriptTail_builtinR (x:=w) pl.isList.typeIs slot_list_getitem.lookup
    (wpAny_getItem_list_neg (Q:=fun r s'=>r=w/\EP X pins σ Q r s') pl.isList (by omega) (by rw[qW_] <;> omega) (by omega) (by rw[hj];simpa using ew) ⟨rfl,fin⟩) hs
theorem HV:IxR X (JC X.K):=by
 intro value slice pins s σ H x y v u Q I rx ry h hs
 obtain⟨p,xs,i,z,rfl,rfl,hq,he,q⟩:=h
 cases rx
 obtain⟨t,rfl⟩:=ry
 obtain⟨its,r,pl,hz⟩:=I.tuple hq
 obtain⟨j,h1,h2,h3,h4,h5⟩:=yq he
 obtain⟨w,ew,rw'⟩:=r.get h2
 have hl:=r.length
 have hn:=qM
 have fin:EP X pins σ Q w s:=⟨z,H,I,rw',q⟩
 exact subscriptTail_builtinR (x:=w) pl.typeIs slot_tuple_getitem.lookup
  (getItem_tuple (j:=j) (Q:=fun r s'=>r=w/\EP X pins σ Q r s') pl (by omega) (by omega) (by rw[qW_,<-hl];exact h1) (by simpa using ew) ⟨rfl,fin⟩) hs
theorem wC(its:List Value)(n j:Nat)(u:Value):Obj.mapSeq (·.setIfInBounds j u) {cls:= .type "list",data:= .seq its.toArray n}={cls:= .type "list",data:= .seq (its.set j u).toArray n}:=by
 simp [Obj.mapSeq]
theorem Inv.lst{pins:List (Addr×Obj)}{σ:St}{H:Hp}{s:Shared}{p:Addr}{xs:List V}(I:Inv X pins σ H s)(h:H p=some (.lst xs)):
 ∃(its:List Value) (n:Nat),Vals xs its/\s.heap.get? p=some {cls:= .type "list",data:= .seq its.toArray n}/\xs.length<=sizeLine:=by
 obtain⟨z,its,n,r,e⟩:=I.hok p _ h
 exact⟨its,n,r,e,z⟩
theorem Inv.GH{pins:List (Addr×Obj)}{σ:St}{H:Hp}{s:Shared}{p:Addr}{xs ys:List V}{its its':List Value}{n n':Nat}{f:Obj->Obj}(I:Inv X pins σ H s)(h:H p=some (.lst xs))
 (ho:s.heap.get? p=some {cls:= .type "list",data:= .seq its.toArray n}) (hf:f {cls:= .type "list",data:= .seq its.toArray n}={cls:= .type "list",data:= .seq its'.toArray n'}) (r:Vals ys its') (hz:ys.length<=sizeLine) (t:Nat):
 Inv X pins σ (upd H p (.lst ys)) {s with heap:=s.heap.update p f,toks:=t}:=by
 have e:(s.heap.update p f).get? p=some {cls:= .type "list",data:= .seq its'.toArray n'}:=by
  rw[Heap.get?_update_self f ho (by rw[hf] <;> rfl),hf]
 refine I.write (x:=p) (e:=p) (by rw[h];trivial) (.inl rfl) (fun b u hb q=>(Heap.get?_update_other _ _ (Ne.symm hb)).trans q) ⟨_,e⟩ ?_
 exact⟨hz,its',n',r,e⟩
def Ji:V->V->V->Hp->(Hp->Prop)->Prop:=fun o i v H Q=>∃p xs k j,o= .ref p/\i= .int k/\H p=some (.lst xs)/\ixN xs.length k=some j/\Q (upd H p (.lst (xs.set j v)))
theorem set_list:uv X Ji:=by
 intro pins s σ H o i v ov iv u Q I ro ri rv h
 obtain⟨p,xs,k,j,rfl,rfl,hp,hj,q⟩:=h
 cases ro
 obtain⟨t,rfl⟩:=ri
 obtain⟨its,n,r,ho,hz⟩:=I.lst hp
 obtain⟨h1,h2,h3,h4⟩:=sI hj
 have hl:=r.length
 have hn:=qM
 have I':Inv X pins σ (upd H p (.lst (xs.set j v))) {s with heap:=s.heap.update p (Obj.mapSeq (·.setIfInBounds j u))}:=
  I.GH hp ho (wC its n j u) (r.set rv j) (by rw[qX_];exact hz) s.toks
 by_cases h0:0<=k
 · have hk:k.toNat=j:=by
    rw[seqIndex_of h0 h4]at h1
    exact Option.some.inj h1
   exact PySem.W.ki_setAt ho h0 (by omega) (by rw[qW_,<-hl];exact h4) (by rw[hk];exact⟨_,I',q⟩)
 · have hk:(k+(its.toArray.size:Int)).toNat=j:=by
    rw[seqIndex_neg (by omega) h3]at h1
    rw[qW_,<-hl]
    exact Option.some.inj h1
   exact PySem.W.ki_setBack ho (by omega) (by rw[qW_,<-hl];exact h3) (by omega) (by rw[hk];exact⟨_,I',q⟩)
theorem uq(lo hi:Option Int)(n:Nat):(sliceBounds lo hi none n).1=((HT.sIx n 0 lo:Nat):Int)/\(sliceBounds lo hi none n).2.1=((HT.sIx n n hi:Nat):Int)/\(sliceBounds lo hi none n).2.2=1:=by
 refine⟨?_,?_,rfl⟩
 · cases lo with
   |none=>simp [sliceBounds,HT.sIx]
   |some i=>
    simp only[sliceBounds,HT.sIx,Option.getD_none,show (1:Int) > 0 by decide,if_true]
    by_cases h:i < 0
    · simp only[h,if_true] <;> omega
    · simp only[h,if_false] <;> omega
 · cases hi with
   |none=>simp [sliceBounds,HT.sIx]
   |some i=>
    simp only[sliceBounds,HT.sIx,Option.getD_none,show (1:Int) > 0 by decide,if_true]
    by_cases h:i < 0
    · simp only[h,if_true] <;> omega
    · simp only[h,if_false] <;> omega
theorem q8(its:List Value)(lo hi:Option Int):slicePick its.toArray lo hi none=((its.drop (HT.sIx its.length 0 lo)).take (HT.sIx its.length its.length hi - HT.sIx its.length 0 lo)).toArray:=by
 obtain⟨h1,h2,h3⟩:=uq lo hi its.toArray.size
 unfold slicePick
 rw[h1,h2,h3]
 simp only[sliceRange_one,pick_run,qW_] <;> rfl
def IV(K:PySem.W.Frag):V->Option Int->Option Int->Hp->VK->Prop:=fun x lo hi H Q=>∃a xs,x= .ref a/\SqL K H a xs/\∀p,H p=none->Q (.ref p) (upd H p (.lst (rm xs lo hi)))
theorem DW:SlR X (IV X.K):=by
 intro pins s σ H x v vl vu lo hi sl Q I rx hs pl pu h
 obtain⟨a,xs,rfl,hx,q⟩:=h
 cases rx
 obtain⟨its,r,ht,hz⟩:=I.list hx
 have hlen:=r.length
 refine⟨"list",_,slot_list_getitem.lookup,ht.isList.typeIs,?_⟩
 refine wpAny_getItem_list_slice ht.isList hs pl pu .none (by simp) ?_ (by rw[qW_] <;> omega)
 rw[q8,<-hlen]
 refine⟨.ref s.heap.objs.size,_,I.laid (t':=s.toks) (o:= .lst (rm xs lo hi)) (fun b ob q=>Heap.get?_push_of_some _ q) (qO_ _) ?_,rfl,q _ (I.hok.fresh (qO_ _))⟩
 exact⟨Nat.le_trans (oC xs lo hi) hz,_,0,(r.drop (HT.sIx xs.length 0 lo)).take (HT.sIx xs.length xs.length hi - HT.sIx xs.length 0 lo),Heap.get?_push_size _ rfl⟩
theorem fL.or{f:Value}{r r':List V->Hp->VK->Prop}(h:fL X f r)(h':fL X f r'):fL X f (fun xs H Q=>r xs H Q\/r' xs H Q):=by
 intro pins s σ H xs us Q I rs q
 rcases q with q |q
 · exact h pins s σ H xs us Q I rs q
 · exact h' pins s σ H xs us Q I rs q
theorem uh:fL X (.type "list") (fun xs H Q=>∃p ys,xs=[.ref p]/\(SqL X.K H p ys\/SqT X.K H p ys)/\∀l,H l=none->Q (.ref l) (upd H l (.lst ys))):=by
 intro pins s σ H xs us Q I r h
 obtain⟨p,ys,rfl,hq,q⟩:=h
 obtain⟨u,rfl,rx⟩:=vals1 r
 cases rx
 have fin:∀(its:List Value),Vals ys its->ys.length<=sizeLine->∀(h':Heap) (c':Nat),(∀b o',s.heap.get? b=some o'->h'.get? b=some o')->
  h'.get? s.heap.objs.size=some {cls:= .type "list",dict:=none,data:= .seq its.toArray c',slots:=#[]}->EP X pins σ Q (.ref s.heap.objs.size) {s with heap:=h'}:=fun its r' hz h' c' kp e=>
  ⟨.ref s.heap.objs.size,_,I.laid (t':=s.toks) kp (qO_ _) (show bJ X.prog X.w _ h' _ (.lst ys)from⟨hz,its,c',r',e⟩),rfl,q _ (I.hok.fresh (qO_ _))⟩
 rcases hq with hq |hq
 · obtain⟨its,r',pl,hz⟩:=I.list hq
   have hlen:=r'.length
   obtain⟨o,ho,hc,n,hd⟩:=pl.isList
   exact call_list_seq p (.inl rfl) ho hc hd (fun h' c' kp e=>fin its r' hz h' c' kp e) (by simp only[qW_] <;> omega)
 · obtain⟨its,r',pl,hz⟩:=I.tuple hq
   have hlen:=r'.length
   obtain⟨o,ho,hc,n,hd⟩:=pl
   exact call_list_seq p (.inr rfl) ho hc hd (fun h' c' kp e=>fin its r' hz h' c' kp e) (by simp only[qW_] <;> omega)
def tyV(K:PySem.W.Frag)(T:String)(x:V)(H:Hp):Prop:=match x with
 | .str _=>T="str"
 | .int _=>T="int"
 | .ref p=>(T="list"/\∃xs,SqL K H p xs)\/(T="tuple"/\∃o,K.lookup p=some o/\o.cls= .type "tuple"/\o.dict=none)\/
    (T="dict"/\((∃kvs,H p=some (.dK kvs))\/∃kvs,H p=some (.dT kvs)))\/(T="set"/\∃S n,H p=some (.set S n))
 |_=>False
theorem xb{pins:List (Addr×Obj)}{σ:St}{H:Hp}{s:Shared}{T:String}{x:V}{v:Value}(I:Inv X pins σ H s)(r:RelV x v)(ty:tyV X.K T x H):
 s.TypeIs v T/\∀a,v= .ref a->∃ob,s.heap.get? a=some ob/\ob.dict=none:=by
 cases x with
 |str z=>
  obtain⟨t,rfl⟩:=r
  cases (show T="str" from ty)
  exact⟨typeIs_str s z t,fun _ e=>nomatch e⟩
 |int i=>
  obtain⟨t,rfl⟩:=r
  cases (show T="int" from ty)
  exact⟨typeIs_int s i t,fun _ e=>nomatch e⟩
 |ref p=>
  cases r
  rcases ty with ⟨rfl,xs,hq⟩ |⟨rfl,o,hk,hc,hd⟩ |⟨rfl,hk⟩ |⟨rfl,S,n,hk⟩
  · obtain⟨its,_,pl,_⟩:=I.list hq
    refine⟨pl.isList.typeIs,fun a e=>?_⟩
    cases e
    obtain⟨o,n,e,c,hd,_⟩:=pl
    exact⟨o,e,hd⟩
  · refine⟨⟨o,I.kIn p o hk,hc⟩,fun a e=>?_⟩
    cases e
    exact⟨o,I.kIn _ o hk,hd⟩
  · have z:∃o,s.heap.get? p=some o/\o.ExactDict:=by
     rcases hk with ⟨kvs,hk⟩ |⟨kvs,hk⟩
     · obtain⟨_,_,_,_,o,_,_,e,ex,_⟩:=I.hok p _ hk
       exact⟨o,e,ex⟩
     · obtain⟨_,_,_,_,o,_,_,e,ex,_⟩:=I.hok p _ hk
       exact⟨o,e,ex⟩
    obtain⟨o,e,ex⟩:=z
    refine⟨⟨o,e,ex.1⟩,fun a e2=>?_⟩
    cases e2
    exact⟨o,e,ex.2.1⟩
  · obtain⟨o,_,_,_,e,ex,_⟩:=I.hok p _ hk
    refine⟨⟨o,e,ex.1⟩,fun a e2=>?_⟩
    cases e2
    exact⟨o,e,ex.2.1⟩
 |_=>exact False.elim ty
def tBM(K:PySem.W.Frag)(T:String)(r:V->List V->Hp->VK->Prop)(to:TE)(t:TA):TE:=fun σ H Q=>to σ H fun x H1=>tyV K T x H1/\t σ H1 fun xs H2=>r x xs H2 Q
variable{o e:Expr}{es:List Expr}{to:TE}{t:TA}{name:Str}{apos cpos:Pos}{T id:String}{r:V->List V->Hp->VK->Prop}
theorem Cm(pa:PlainAttrs T)(slot:Slot T name id)(hty:typeOf (.builtin id)=pure (.type "method_descriptor"))(hm:MtR X id r)(ho:PE X o to)(ha:PA X (e :: es) t)
 (hbase:attributeBase o name X.env (eval o X.env)=eval o X.env:=by rfl)
 (hfew:((backTo cpos (starEach (e :: es) X.env)).all (fun x=>!x.1)&&(backToKw cpos (keywordEach [] X.env)).all (fun x=>x.1.isSome)
   &&decide ((e :: es).length+([]:List Keyword).length+(if ([]:List Keyword).isEmpty then 0 else 1) < 30))=true:=by rfl)
 (hline:(apos.endLine==cpos.line)=true:=by rfl) (hs:starEach (e :: es) X.env=(false,eval e X.env) :: starEach es X.env:=by rfl) (hplain:(backTo cpos (starEach es X.env)).any (·.1)=false:=by rfl):
 PE X (.Call (.Attribute o name apos) (e :: es) [] cpos) (tBM X.K T r to t):=by
 intro pins s σ H Q I h
 refine wpAny_Call_method_late hbase hfew hline rfl (thn (ho pins s σ H _ I h) fun v s1 ⟨x,H1,I1,r1,ty,q1⟩=>?_)
 obtain⟨h1,h2⟩:=xb I1 r1 ty
 refine⟨T,id,pa,slot,hty,h1,h2,?_⟩
 have hA:=ha cpos pins s1 σ H1 _ I1 q1
 rw[hs]at hA ⊢
 refine Calls.callWith_builtin (by show (false||(backTo cpos (starEach es X.env)).any (·.1))=false;rw[hplain] <;> rfl) (Calls.evalArgs_plain ?_)
 exact thn hA fun us s2 ⟨vs,H2,I2,r2,q2⟩=>hm pins s2 σ H2 x vs v us Q I2 r1 r2 q2
end
def MtM(X:Cx)(id:String)(r:V->List V->Hp->VK->Prop):Prop:=
 ∀(pins:List (Addr×Obj)) (s:Shared) (σ:St) (H:Hp) (x:V) (xs:List V) (v:Value) (us:List Value) (Q:VK),Inv X pins σ H s->RelV x v->Vals xs us->r x xs H Q->
  wpAny (model X.prog X.w) X.A (call (.builtin id) (v :: us)) (EP X pins σ Q) X.xe s
theorem Vals.one:∀{x:V} {us:List Value},Vals [x] us->∃u,us=[u]/\RelV x u
 |_,_,.cons r .nil=>⟨_,rfl,r⟩
theorem Vals.eraseIdx:∀{xs:List V} {us:List Value} (i:Nat),Vals xs us->Vals (xs.eraseIdx i) (us.eraseIdx i)
 |_,_,_,.nil=>.nil
 |_,_,0,.cons _ t=>t
 |_,_,i+1,.cons r t=>.cons r (Vals.eraseIdx i t)
theorem Vals.rep{xs:List V}{us:List Value}(h:Vals xs us):∀k:Nat,Vals (List.replicate k xs).flatten (List.replicate k us).flatten
 |0=>.nil
 |k+1=>by
  rw[List.replicate_succ,List.replicate_succ,List.flatten_cons,List.flatten_cons]
  exact Vals.append h (Vals.rep h k)
theorem sx{α:Type}:∀(l:List α) (i:Nat),(l.eraseIdx i).length<=l.length
 | [],_=>qO_ _
 |_ :: _,0=>Nat.le_succ _
 |_ :: r,i+1=>Nat.succ_le_succ (sx r i)
theorem foldl_rep(its:List Value):∀(k:Nat) (acc:List Value),
 List.foldl (fun x1 x2=>x1++x2) acc.toArray (List.replicate k its.toArray)=(acc++(List.replicate k its).flatten).toArray
 |0,acc=>by simp
 |k+1,acc=>by
  have e:acc.toArray++its.toArray=(acc++its).toArray:=by simp
  have e2:(acc++its)++(List.replicate k its).flatten=acc++(List.replicate (k+1) its).flatten:=by
   rw[List.replicate_succ,List.flatten_cons,List.append_assoc]
  rw[<-e2,<-foldl_rep its k (acc++its),<-e,List.replicate_succ,List.foldl_cons]
section
variable{X:Cx}{pins:List (Addr×Obj)}{σ:St}{H:Hp}{s:Shared}{l b:Addr}{xs ys zs:List V}
theorem Inv.F4{its its':List Value}{n:Nat}{f:Array Value->Array Value}{t':Nat}(I:Inv X pins σ H s)(hH:H l=some (.lst xs))
 (e:s.heap.get? l=some {cls:= .type "list",data:= .seq its.toArray n}) (hf:f its.toArray=its'.toArray) (hv:Vals ys its') (hz:ys.length<=sizeLine):
 Inv X pins σ (upd H l (.lst ys)) {s with heap:=s.heap.update l (Obj.mapSeq f),toks:=t'}:=by
 have q:=PySem.IsL.update e f
 rw[hf]at q
 refine I.write (x:=l) (e:=l) (by rw[hH];exact trivial) (.inl rfl) (fun b' u hb hu=>(Heap.get?_update_other s.heap (Obj.mapSeq f) (Ne.symm hb)).trans hu) ⟨_,q⟩ ?_
 exact⟨hz,its',_,hv,q⟩
theorem Inv.Jm{its:List Value}{t':Nat}(I:Inv X pins σ H s)(hv:Vals ys its)(hz:ys.length<=sizeLine):
 Inv X pins σ (upd H s.heap.objs.size (.lst ys)) {s with heap:=s.heap.push {cls:= .type "list",data:= .seq its.toArray},toks:=t'}:=
 I.laid (fun _ _ q=>Heap.get?_push_of_some _ q) (qO_ _) ⟨hz,its,0,hv,Heap.get?_push_size _ rfl⟩
theorem Inv.fresh(I:Inv X pins σ H s):H s.heap.objs.size=none:=I.hok.fresh (qO_ _)
theorem Inv.xB(I:Inv X pins σ H s)(hH:H l=some (.lst xs)):xs.length<=sizeLine/\∃(its:List Value) (n:Nat),Vals xs its/\xs.length=its.length/\s.heap.get? l=some {cls:= .type "list",data:= .seq its.toArray n}:=by
 obtain⟨z,its,n,r,e⟩:=I.hok l _ hH
 exact⟨z,its,n,r,r.length,e⟩
theorem uJ{n:Nat}(h:n<=sizeLine):Builtin.List.listTooLong n=false:=by
 unfold Builtin.List.listTooLong
 exact qa_ (by omega)
end
section
variable{X:Cx}
def C6:V->List V->Hp->VK->Prop:=fun x vs H Q=>∃l xs y,x= .ref l/\vs=[y]/\H l=some (.lst xs)/\xs.length < sizeLine/\Q .non (upd H l (.lst (xs++[y])))
theorem rZ:MtM X "list.append" C6:=by
 intro pins s σ H x vs v us Q I rx rv h
 obtain⟨l,xs,y,rfl,rfl,hH,hz,q⟩:=h
 cases rx
 obtain⟨u,rfl,ru⟩:=rv.one
 obtain⟨z,its,n,r,hl,e⟩:=I.xB hH
 refine call_meets F.slot_list_append ⟨_,e,rfl⟩ F.entry_list_append (F.args_list_append_2 _ _) (PySem.list_append l its.toArray n u (by rw[qW_];omega)) ⟨e,?_⟩
 refine⟨.non,_,I.F4 (its':=its++[u]) hH e (by simp) (r.append (.cons ru .nil)) ?_,rfl,q⟩
 rw[qN_,List.length_singleton]
 omega
def DX:V->List V->Hp->VK->Prop:=fun x vs H Q=>∃l b xs zs,x= .ref l/\vs=[.ref b]/\H l=some (.lst xs)/\H b=some (.lst zs)/\xs.length+zs.length<=sizeLine/\Q .non (upd H l (.lst (xs++zs)))
theorem zD:MtM X "list.extend" DX:=by
 intro pins s σ H x vs v us Q I rx rv h
 obtain⟨l,b,xs,zs,rfl,rfl,hH,hB,hz,q⟩:=h
 cases rx
 obtain⟨u,rfl,ru⟩:=rv.one
 cases ru
 obtain⟨z,its,n,r,hl,e⟩:=I.xB hH
 obtain⟨z2,its2,n2,r2,hl2,e2⟩:=I.xB hB
 have hsz:its.toArray.size+its2.toArray.size<=sizeLine:=by rw[qW_,qW_];omega
 have hlong:¬(!its.toArray.isEmpty&&Builtin.List.listTooLong (its.toArray.size+its2.toArray.size))=true:=by
  rw[uJ hsz,Bool.and_false]
  exact qC_
 refine call_meets F.slot_list_extend ⟨_,e,rfl⟩ F.entry_list_extend (F.args_list_extend_2 _ _)
  (AutoSeq1.list_extend_list_list_0 l its.toArray n b its2.toArray n2 hlong (by rw[qW_];omega) (by omega)) ⟨e,e2,?_⟩
 refine⟨.non,_,I.F4 (its':=its++its2) hH e (by simp) (r.append r2) ?_,rfl,q⟩
 rw[qN_]
 omega
def GW:V->List V->Hp->VK->Prop:=fun x vs H Q=>∃l xs i k y,x= .ref l/\vs=[.int i]/\H l=some (.lst xs)/\-(2 ^ 63)<=i/\i < 2 ^ 63/\seqIndex? i xs.length=some k/\xs[k]? =some y/\Q y (upd H l (.lst (xs.eraseIdx k)))
theorem Be:MtM X "list.pop" GW:=by
 intro pins s σ H x vs v us Q I rx rv h
 obtain⟨l,xs,i,k,y,rfl,rfl,hH,h1,h2,hk,hy,q⟩:=h
 cases rx
 obtain⟨u,rfl,ru⟩:=rv.one
 obtain⟨t,rfl⟩:=ru
 obtain⟨z,its,n,r,hl,e⟩:=I.xB hH
 obtain⟨w,hw,rw'⟩:=r.get hy
 refine call_meets F.slot_list_pop ⟨_,e,rfl⟩ F.entry_list_pop (F.args_list_pop_2 _ _)
  (MeetsSeq.list_pop_at l its.toArray n i t k w (fitsIndex_both h1 h2) (by rw[qW_,<-hl];exact hk) (by rw[<-Array.getElem?_toList];exact hw) (by rw[qW_];omega)) ⟨e,?_⟩
 refine⟨y,_,I.F4 (its':=its.eraseIdx k) hH e ?_ (r.eraseIdx k) ?_,rw',q⟩
 · show its.toArray.eraseIdxIfInBounds k=(its.eraseIdx k).toArray
   rw[List.eraseIdxIfInBounds_toArray]
 · have:=sx xs k
   omega
def IT:R2:=fun x y H Q=>∃l b xs zs,x= .ref l/\y= .ref b/\H l=some (.lst xs)/\H b=some (.lst zs)/\xs.length+zs.length<=sizeLine/\∀p,H p=none->Q (.ref p) (upd H p (.lst (xs++zs)))
theorem GC:OpR X (binaryOp .Add) IT:=by
 intro pins s σ H x y v u Q I rx ry h
 obtain⟨l,b,xs,zs,rfl,rfl,hH,hB,hz,q⟩:=h
 cases rx
 cases ry
 obtain⟨z,its,n,r,hl,e⟩:=I.xB hH
 obtain⟨z2,its2,n2,r2,hl2,e2⟩:=I.xB hB
 refine PySem.P.add_list e e2 ?_ (by rw[qW_,qW_];omega)
 have ea:its.toArray++its2.toArray=(its++its2).toArray:=by simp
 rw[ea]
 exact⟨.ref _,_,I.Jm (t':=s.toks) (r.append r2) (by rw[qN_];omega),rfl,q _ I.fresh⟩
def IK:R2:=fun x y H Q=>∃l k xs,x= .ref l/\y= .int k/\H l=some (.lst xs)/\-(2 ^ 63)<=k/\k < 2 ^ 63/\xs.length*k.toNat<=sizeLine/\
 ∀p,H p=none->Q (.ref p) (upd H p (.lst (List.replicate k.toNat xs).flatten))
theorem len_rep{α:Type}(xs:List α)(k:Nat):(List.replicate k xs).flatten.length=k*xs.length:=by
 induction k with
 |zero=>simp
 |succ k ih=>rw[List.replicate_succ,List.flatten_cons,qN_,ih,Nat.succ_mul,Nat.add_comm]
theorem Ff:OpR X (binaryOp .Mult) IK:=by
 intro pins s σ H x y v u Q I rx ry h
 obtain⟨l,k,xs,rfl,rfl,hH,h1,h2,hz,q⟩:=h
 cases rx
 obtain⟨t,rfl⟩:=ry
 obtain⟨z,its,n,r,hl,e⟩:=I.xB hH
 have hlen:its.toArray.size*k.toNat<=sizeLine:=by rw[qW_,<-hl];exact hz
 have hcap:¬its.toArray.size*k.toNat > (2 ^ 63 - 1) / 8:=by
  have:(sizeLine:Nat)<=(2 ^ 63 - 1) / 8:=by decide
  omega
 have hfit:¬(!Builtin.List.listFitsIndex k)=true:=by
  rw[fitsIndex_both h1 h2]
  exact qC_
 have hlong:¬Builtin.List.listTooLong (its.toArray.size*k.toNat)=true:=by
  rw[uJ hlen]
  exact qC_
 have hnew:List.foldl (fun x1 x2=>x1++x2) #[] (List.replicate (if its.toArray.isEmpty=true then 0 else k.toNat) its.toArray)=(List.replicate k.toNat its).flatten.toArray:=by
  have f0:∀m:Nat,List.foldl (fun x1 x2=>x1++x2) #[] (List.replicate m its.toArray)=(List.replicate m its).flatten.toArray:=fun m=>by
   have:=foldl_rep its m []
   rw[qc_]at this
   exact this
  rw[f0]
  cases its with
  |nil=>simp
  |cons a r'=>rw[if_neg (by simp)]
 refine wpAny_binaryOp_repeat_ref (T:="list") (U:="int") (by decide) ⟨_,e,rfl⟩ (fun s'=>typeIs_int s' k t) noFill_list_mul F.fills_int_mul F.slot_int_rmul repeat_list F.slot_int_index.lookup
  (call_meets F.slot_int_rmul (typeIs_int s k t) F.entry_int_rmul (F.args_int_rmul_2 _ _) (int___rmul___int_list k t l its.toArray n)
    ⟨e,rfl,⟨_,e,rfl⟩,call_meets F.slot_list_mul ⟨_,e,rfl⟩ F.entry_list_mul (F.args_list_mul_2 _ _) (AutoListH.list___mul___list_int_3 l its.toArray n k t hfit hcap hlong) ⟨e,?_⟩⟩)
 rw[hnew]
 exact⟨.ref _,_,I.Jm (t':=s.toks) (r.rep k.toNat) (by rw[len_rep,Nat.mul_comm];exact hz),rfl,q _ I.fresh⟩
end
section
variable{κ:Type} [DecidableEq κ]
def jC(kvs:List (κ×V))(k:κ):Option V:=(kvs.find? fun kv=>decide (kv.1=k)).map (·.2)
def putK(kvs:List (κ×V))(k:κ)(v:V):List (κ×V):=
 if (kvs.any fun kv=>decide (kv.1=k))=true then kvs.map (fun kv=>if kv.1=k then (kv.1,v)else kv)else kvs++[(k,v)]
theorem qC{p:κ×V}{r:List (κ×V)}{k:κ}(e:p.1=k):jC (p :: r) k=some p.2:=by simp [jC,List.find?_cons,e]
theorem pK{p:κ×V}{r:List (κ×V)}{k:κ}(e:¬p.1=k):jC (p :: r) k=jC r k:=by simp [jC,List.find?_cons,e]
theorem uX(k:κ):∀kvs:List (κ×V),(kvs.any fun kv=>decide (kv.1=k))=(jC kvs k).isSome
 | []=>rfl
 |p :: r=>by
  rw[List.any_cons]
  by_cases e:p.1=k
  · simp only[qC e,qZ_ e,Bool.true_or,Option.isSome_some]
  · rw[pK e,qa_ e,Bool.false_or];exact uX k r
theorem oG(kvs:List (κ×V))(k:κ)(v:V):(putK kvs k v).length<=kvs.length+1:=by
 unfold putK
 split
 · rw[qM_];omega
 · rw[qN_,List.length_cons,List.length_nil];omega
theorem lu.iz{o:Option V}{u:Option Value}(r:lu o u):o.isSome=u.isSome:=by
 cases o with
 |none=>cases u with
  |none=>rfl
  |some _=>exact(show False from r).elim
 |some _=>cases u with
  |none=>exact(show False from r).elim
  |some _=>rfl
theorem KV.val{kvs:List (κ×V)}{vs:List (κ×Value)}(r:KV kvs vs)(k:κ):lu (jC kvs k) (valueAt vs k):=by
 unfold KV at r
 induction r with
 |nil=>exact True.intro
 |@cons p q ps qs h t ih=>
  obtain⟨h1,h2⟩:=h
  by_cases e:p.1=k
  · have e':q.1=k:=h1.symm.trans e
    have b:valueAt (q :: qs) k=some q.2:=by simp [valueAt,List.find?_cons,e']
    rw[qC e,b];exact h2
  · have e':¬q.1=k:=fun z=>e (h1.trans z)
    have b:valueAt (q :: qs) k=valueAt qs k:=by simp [valueAt,List.find?_cons,e']
    rw[pK e,b];exact ih
theorem KV.any{kvs:List (κ×V)}{vs:List (κ×Value)}(r:KV kvs vs)(k:κ):(kvs.any fun kv=>decide (kv.1=k))=vs.any fun kv=>decide (kv.1=k):=by
 unfold KV at r
 induction r with
 |nil=>rfl
 |cons h t ih=>rw[List.any_cons,List.any_cons,ih,h.1]
theorem KV.y6{kvs:List (κ×V)}{vs:List (κ×Value)}(r:KV kvs vs)(k:κ){y:V}{u:Value}(ry:RelV y u):
 KV (kvs.map fun kv=>if kv.1=k then (kv.1,y)else kv) (vs.map fun kv=>if kv.1=k then (kv.1,u)else kv):=by
 unfold KV at r ⊢
 induction r with
 |nil=>exact .nil
 |@cons p q ps qs h t ih=>
  rw[List.map_cons,List.map_cons]
  refine .cons ?_ ih
  obtain⟨h1,h2⟩:=h
  by_cases e:p.1=k
  · rw[if_pos e,if_pos (h1.symm.trans e)];exact⟨h1,ry⟩
  · rw[if_neg e,if_neg (fun z=>e (h1.trans z))];exact⟨h1,h2⟩
theorem KV.put{kvs:List (κ×V)}{vs:List (κ×Value)}(r:KV kvs vs)(k:κ){y:V}{u:Value}(ry:RelV y u):KV (putK kvs k y) (stored vs k u):=by
 unfold putK stored
 rw[r.any k]
 by_cases e:(vs.any fun kv=>decide (kv.1=k))=true
 · rw[if_pos e,if_pos e];exact r.y6 k ry
 · rw[if_neg e,if_neg e];exact Paired.snoc r ⟨rfl,ry⟩
theorem KV.length{kvs:List (κ×V)}{vs:List (κ×Value)}(r:KV kvs vs):kvs.length=vs.length:=Paired.length r
end
theorem vz{P:Program}{w:World}{k:Key}{u:Value}(r:RelV (kV k) u):(bN P w).is k u=true:=by
 cases k with
 |inl i=>obtain⟨t,e⟩:=(show ∃t,u=Value.int i t from r);subst e;exact uQ P w i t
 |inr x=>obtain⟨t,e⟩:=(show ∃t,u=Value.str x t from r);subst e;exact vQ P w x t
theorem su{P:Program}{w:World}:∀{ks:List Key} {us:List Value},Vals (ks.map kV) us->ItemsAre (bN P w) ks us
 | [],_,r=>by rw[List.map_nil]at r;cases r;exact .nil
 |k :: ks,_,r=>by
  rw[List.map_cons]at r
  cases r with
  |cons h t=>exact .cons (vz h) (su t)
abbrev KT(H:Hp):List (List Key×V)->List (List Key×Addr×Value)->Prop:=Paired fun p q=>p.1=q.1/\H q.2.1=some (.tup (p.1.map kV))/\RelV p.2 q.2.2
theorem KT.val{H:Hp}{kvs:List (List Key×V)}{xs:List (List Key×Addr×Value)}(r:KT H kvs xs)(k:List Key):lu (jC kvs k) ((atKey xs k).map (·.2)):=by
 induction r with
 |nil=>exact True.intro
 |@cons p q ps qs h t ih=>
  obtain⟨h1,_,h2⟩:=h
  by_cases e:p.1=k
  · have e':q.1=k:=h1.symm.trans e
    have b:atKey (q :: qs) k=some q.2:=by simp [atKey,List.find?_cons,e']
    rw[qC e,b];exact h2
  · have e':¬q.1=k:=fun z=>e (h1.trans z)
    have b:atKey (q :: qs) k=atKey qs k:=by simp [atKey,List.find?_cons,e']
    rw[pK e,b];exact ih
theorem KT.y6{H:Hp}{kvs:List (List Key×V)}{xs:List (List Key×Addr×Value)}(r:KT H kvs xs)(k:List Key){y:V}{u:Value}(ry:RelV y u):
 KT H (kvs.map fun kv=>if kv.1=k then (kv.1,y)else kv) (xs.map (putAt k u)):=by
 induction r with
 |nil=>exact .nil
 |@cons p q ps qs h t ih=>
  rw[List.map_cons,List.map_cons]
  refine .cons ?_ ih
  obtain⟨h1,h2,h3⟩:=h
  unfold putAt
  by_cases e:p.1=k
  · rw[if_pos e,if_pos (h1.symm.trans e)];exact⟨h1,h2,ry⟩
  · rw[if_neg e,if_neg (fun z=>e (h1.trans z))];exact⟨h1,h2,h3⟩
theorem KT.put{H:Hp}{kvs:List (List Key×V)}{xs:List (List Key×Addr×Value)}(r:KT H kvs xs)(k:List Key){b:Addr}{y:V}{u:Value}(hb:H b=some (.tup (k.map kV)))(ry:RelV y u):
 KT H (putK kvs k y) (storedH xs k b u):=by
 have e:(kvs.any fun kv=>decide (kv.1=k))=(atKey xs k).isSome:=by
  rw[uX,(r.val k).iz,Option.isSome_map]
 unfold putK storedH
 rw[e]
 by_cases q:(atKey xs k).isSome=true
 · rw[if_pos q,if_pos q];exact r.y6 k ry
 · rw[if_neg q,if_neg q];exact Paired.snoc r ⟨rfl,hb,ry⟩
theorem KT.keeps{H H':Hp}{kvs:List (List Key×V)}{xs:List (List Key×Addr×Value)}(r:KT H kvs xs)(ht:∀b ys,H b=some (.tup ys)->H' b=some (.tup ys)):KT H' kvs xs:=
 Paired.CI r fun _ _ z=>⟨z.1,ht _ _ z.2.1,z.2.2⟩
section
variable{P:Program}{w:World}{H:Hp}{h:Heap}{a:Addr}
theorem EZ{u:HO}(ok:HOk P w H h)(e:Rd H a u):bJ P w H h a u:=e.ok ok
theorem rQ{kvs:List (Key×V)}(ok:HOk P w H h)(e:Rd H a (.dK kvs)):kvs.length<=sizeLine/\(a==sysModules)=false/\∃vs,KV kvs vs/\h.DictOf (bN P w) a vs:=
 show bJ P w H h a (.dK kvs)from EZ ok e
theorem Bd{kvs:List (Key×V)}(ok:HOk P w H h)(e:H a=some (.dK kvs)):kvs.length<=sizeLine/\(a==sysModules)=false/\∃vs,KV kvs vs/\h.DictOf (bN P w) a vs:=rQ ok (.inl e)
theorem qJ{ks:List Key}(ok:HOk P w H h)(e:H a=some (.tup (ks.map kV))):(tupleKind (bN P w)).is h ks a:=by
 obtain⟨_,its,r,o,h1,h2,n,h3⟩:=(show bJ P w H h a (.tup (ks.map kV))from ok a _ e)
 exact⟨o,its.toArray,n,h1,h2,h3,by simpa using su r⟩
theorem vy{kvs:List (List Key×V)}(ok:HOk P w H h)(e:Rd H a (.dT kvs)):kvs.length<=sizeLine/\(a==sysModules)=false/\
 ∃xs,KT H kvs xs/\h.DictOfH (tupleKind (bN P w)) a xs:=by
 obtain⟨z,y,xs,r,o,es,ep,h1,h2,h3,h4,h5⟩:=(show bJ P w H h a (.dT kvs)from EZ ok e)
 refine⟨z,y,xs,r,o,es,ep,h1,h2,h3,h4,fun x hx=>?_,h5⟩
 have all:∀{l:List (List Key×V)} {m:List (List Key×Addr×Value)},KT H l m->∀x∈m,(tupleKind (bN P w)).is h x.1 x.2.1:=by
  intro l m q
  induction q with
  |nil=>intro x hx;exact nomatch hx
  |@cons p q ps qs hq t ih=>
   intro x hx
   rcases qS_.mp hx with e |hx
   · subst e
     exact qJ ok (by rw[<-hq.1];exact hq.2.1)
   · exact ih x hx
 exact all r x hx
theorem IX{kvs:List (List Key×V)}(ok:HOk P w H h)(e:H a=some (.dT kvs)):kvs.length<=sizeLine/\(a==sysModules)=false/\
 ∃xs,KT H kvs xs/\h.DictOfH (tupleKind (bN P w)) a xs:=vy ok (.inl e)
end
def qQ(H:Hp)(a:Addr)(y:V)(r:Option V):Prop:=
 (∃kvs k,Rd H a (.dK kvs)/\y=kV k/\r=jC kvs k)\/∃kvs k b,Rd H a (.dT kvs)/\y= .ref b/\H b=some (.tup (k.map kV))/\r=jC kvs k
def A0(H:Hp)(a:Addr)(y v:V)(H':Hp):Prop:=
 (∃kvs k,H a=some (.dK kvs)/\y=kV k/\kvs.length < sizeLine/\H'=upd H a (.dK (putK kvs k v)))\/
 ∃kvs k b,H a=some (.dT kvs)/\y= .ref b/\H b=some (.tup (k.map kV))/\kvs.length < sizeLine/\H'=upd H a (.dT (putK kvs k v))
theorem qQ.k{H:Hp}{a:Addr}{kvs:List (Key×V)}{k:Key}(e:H a=some (.dK kvs)):qQ H a (kV k) (jC kvs k):= .inl ⟨kvs,k,.inl e,rfl,rfl⟩
theorem A0.k{H:Hp}{a:Addr}{kvs:List (Key×V)}{k:Key}{v:V}(e:H a=some (.dK kvs))(hl:kvs.length < sizeLine):A0 H a (kV k) v (upd H a (.dK (putK kvs k v))):= .inl ⟨kvs,k,e,rfl,hl,rfl⟩
section
variable{X:Cx}{pins:List (Addr×Obj)}{σ:St}{H:Hp}{s:Shared}{a:Addr}{y v:V}{u r:Value}{o:Option V}{A:Around}{E:Value->Shared->Prop}
theorem Inv.big(I:Inv X pins σ H s):sysModules < s.heap.objs.size:=by
 have h:mainGlobals < s.heap.objs.size:=(I.mod.glob.keeps I.bk).lt
 exact Nat.lt_trans (by decide) h
theorem zc{Q:Value->Shared->Prop}(hu:A.units+1 < cLine)(I:Inv X pins σ H s)(g:qQ H a y (some v))(ry:RelV y u)(h:∀w' s',Inv X pins σ H s'->RelV v w'->Q w' s'):
 wpAny (model X.prog X.w) A (getItem (.ref a) u) Q E s:=by
 rcases g with ⟨kvs,k,e,ey,l⟩ |⟨kvs,k,b,e,ey,eb,l⟩
 · subst ey
   obtain⟨z,hd,vs,rel,dd⟩:=rQ I.hok e
   obtain⟨w',hw,rw'⟩:=lu.some_of (v:=v) (o:=valueAt vs k) (by rw[l];exact rel.val k)
   exact wpAny_getItem_of (vz ry) dd.mapOf hw (h w' _ (I.tok _) rw')
 · subst ey
   cases (show u=Value.ref b from ry)
   obtain⟨z,hd,xs,rel,dd⟩:=vy I.hok e
   obtain⟨w',hw,rw'⟩:=lu.some_of (v:=v) (o:=(atKey xs k).map (·.2)) (by rw[l];exact rel.val k)
   obtain⟨p,hp,hp2⟩:=Option.map_eq_some_iff.mp hw
   refine wpAny_getItem_heap (tupleKind_room_in1 hu) (qJ I.hok eb) dd hp ?_
   rw[hp2]
   exact h w' _ (I.tok _) rw'
theorem Kj{Q:Value->Shared->Prop}(hu:A.units+1 < cLine)(I:Inv X pins σ H s)(g:qQ H a y o)(ry:RelV y u)(h:∀s',Inv X pins σ H s'->Q (.bool o.isSome) s'):
 wpAny (model X.prog X.w) A (compareOp .In u (.ref a)) Q E s:=by
 rcases g with ⟨kvs,k,e,ey,l⟩ |⟨kvs,k,b,e,ey,eb,l⟩
 · subst ey
   obtain⟨z,hd,vs,rel,dd⟩:=rQ I.hok e
   refine wpAny_in_of (vz ry) hd dd.mapOf ?_
   rw[<-(rel.val k).iz,<-l]
   exact h _ (I.tok _)
 · subst ey
   cases (show u=Value.ref b from ry)
   obtain⟨z,hd,xs,rel,dd⟩:=vy I.hok e
   refine wpAny_in_heap (tupleKind_room_in1 hu) (qJ I.hok eb) hd dd ?_
   have q:=(rel.val k).iz
   rw[Option.isSome_map]at q
   rw[<-q,<-l]
   exact h _ (I.tok _)
theorem CW{Q:Value->Shared->Prop}(hu:A.units+1 < cLine)(I:Inv X pins σ H s)(g:qQ H a y o)(ry:RelV y u)(h:∀s',Inv X pins σ H s'->Q (.bool (!o.isSome)) s'):
 wpAny (model X.prog X.w) A (compareOp .NotIn u (.ref a)) Q E s:=by
 rcases g with ⟨kvs,k,e,ey,l⟩ |⟨kvs,k,b,e,ey,eb,l⟩
 · subst ey
   obtain⟨z,hd,vs,rel,dd⟩:=rQ I.hok e
   refine wpAny_notIn_of (vz ry) hd dd.mapOf ?_
   rw[<-(rel.val k).iz,<-l]
   exact h _ (I.tok _)
 · subst ey
   cases (show u=Value.ref b from ry)
   obtain⟨z,hd,xs,rel,dd⟩:=vy I.hok e
   refine wpAny_notIn_heap (tupleKind_room_in1 hu) (qJ I.hok eb) hd dd ?_
   have q:=(rel.val k).iz
   rw[Option.isSome_map]at q
   rw[<-q,<-l]
   exact h _ (I.tok _)
theorem o9{h':Heap}{t':Nat}{ob:HO}(I:Inv X pins σ H s)(mu:Mut (H a))(hs:Heap.SameBut a s.heap h')(he:∃q,h'.get? a=some q)(new:bJ X.prog X.w (upd H a ob) h' a ob):
 Inv X pins σ (upd H a ob) {s with heap:=h',toks:=t'}:=
 I.write (x:=a) (e:=a) mu (.inl rfl) (fun b q hb z=>(hs.2 b hb).trans z) he new
theorem HD{P:Program}{w:World}{H':Hp}{h':Heap}{kvs:List (Key×V)}{vs:List (Key×Value)}(z:kvs.length<=sizeLine)(hd:(a==sysModules)=false)(rel:KV kvs vs)(dd:h'.DictOf (bN P w) a vs):
 bJ P w H' h' a (.dK kvs):=⟨z,hd,vs,rel,dd⟩
theorem zP{H':Hp}{Q:Unit->Shared->Prop}(hu:A.units+1 < cLine)(I:Inv X pins σ H s)(g:A0 H a y v H')(ry:RelV y u)(rv:RelV v r)(h:∀s',Inv X pins σ H' s'->Q () s'):
 wpAny (model X.prog X.w) A (setItem (.ref a) u r) Q E s:=by
 rcases g with ⟨kvs,k,e,ey,l,eH⟩ |⟨kvs,k,b,e,ey,eb,l,eH⟩
 · subst ey eH
   obtain⟨z,hd,vs,rel,dd⟩:=Bd I.hok e
   have hz:vs.length<=sizeLine:=by rw[<-rel.length];exact z
   have hl:(putK kvs k v).length<=sizeLine:=by have:=oG kvs k v;omega
   refine wpAny_setItem_pairs (hsz:=hz) (vz ry) dd fun h' dd' hs=>h _ ?_
   have he:∃q,h'.get? a=some q:=let ⟨q,_,_,hq,_⟩:=dd';⟨q,hq⟩
   exact o9 I (by rw[e];exact True.intro) hs he (HD hl hd (rel.put k rv) dd')
 · subst ey eH
   cases (show u=Value.ref b from ry)
   obtain⟨z,hd,xs,rel,dd⟩:=IX I.hok e
   have hz:xs.length<=sizeLine:=by rw[<-Paired.length rel];exact z
   have hl:(putK kvs k v).length<=sizeLine:=by have:=oG kvs k v;omega
   refine wpAny_setItem_heap (hsz:=hz) (tupleKind_room_in1 hu) (qJ I.hok eb) dd fun h' dd' hs=>h _ ?_
   obtain⟨q,es,ep,hq,h2,h3,h4,_,h5⟩:=dd'
   refine o9 I (by rw[e];exact True.intro) hs ⟨q,hq⟩ ⟨hl,hd,_,(rel.put k eb rv).keeps fun c ys ec=>?_,q,es,ep,hq,h2,h3,h4,h5⟩
   rw[aE (Bg ec e (fun z=>nomatch z))]
   exact ec
end
section
variable{X:Cx}{pins:List (Addr×Obj)}{σ:St}{H:Hp}{s:Shared}{a:Addr}{kvs:List (Key×V)}{k:Key}{u:Value}{A:Around}{E:Value->Shared->Prop}
theorem Jl{Q:Value->Shared->Prop}(I:Inv X pins σ H s)(e:Rd H a (.dK kvs))(h:∀t s',Inv X pins σ H s'->Q (.int kvs.length t) s'):wpAny (model X.prog X.w) A (call (.builtin "len") [.ref a]) Q E s:=by
 obtain⟨z,hd,vs,rel,dd⟩:=rQ I.hok e
 refine call_len_dict hd dd (by rw[<-rel.length];rw[sizeLine_eq]at z;omega) ?_
 rw[<-rel.length]
 exact h _ _ (I.tok _)
end
theorem vB{X:Cx}{pins:List (Addr×Obj)}{σ:St}{H:Hp}{s:Shared}{a:Addr}{y:V}{o:Option V}(I:Inv X pins σ H s)(g:qQ H a y o):s.TypeIs (.ref a) "dict":=by
 rcases g with ⟨kvs,k,e,_,_⟩ |⟨kvs,k,b,e,_,_,_⟩
 · obtain⟨_,_,vs,_,dd⟩:=rQ I.hok e
   exact dd.typeIs
 · obtain⟨_,_,xs,_,dd⟩:=vy I.hok e
   exact dd.typeIs
theorem AY{P:Program}{w:World}{H:Hp}(h:Heap)(hb:sysModules < h.objs.size):bJ P w H (h.push {cls:= .type "dict",data:= .dict #[]}) h.objs.size (.dK []):=
 ⟨qf_ _,beq_eq_false_iff_ne.mpr (Ne.symm (Nat.ne_of_lt hb)),[],.nil,Heap.DictOf.new h⟩
def HQ:TE:=fun _ H Q=>∀p,H p=none->Q (.ref p) (upd H p (.dK []))
section
variable{X:Cx}{pos:Pos}
theorem AO:PE X (.Dict [] [] pos) HQ:=fun pins s σ H Q I h=>
 wpAny_Dict_empty ⟨.ref s.heap.objs.size,_,I.laid (a:=s.heap.objs.size) (o:= .dK []) (t':=s.toks) (fun _ _ q=>Heap.get?_push_of_some _ q) (qO_ _) (AY s.heap I.big),rfl,h _ (I.hok.fresh (qO_ _))⟩
end
end L2
namespace Att
open PySem PySem.W PySem.Calls PyProof.Rows
theorem o6{P:Params}{h:Heap}:∀(ns:List Int) (vs:List Value),WellAll P h vs (ns.map WData.int)->IntsAre vs ns:=by
 intro ns
 induction ns with
 |nil=>
  intro vs w
  rw[List.map_nil]at w
  cases w
  exact .nil
 |cons n ns ih=>
  intro vs w
  rw[List.map_cons]at w
  cases w with
  |cons a b=>
   cases a
   exact .cons _ _ (ih _ b)
theorem zg{l:OpenLaw}{n:Nat}(hn:l.most=some n){P:Params}{h:Heap}{args:List WData}{vals:List Value}
 (hpre:l.row.toRowW.claim.pre args=true) (hwl:WellAll P h vals args):
 ∃a vs ns,vals=[Value.ref a]/\args=[WData.list (ns.map WData.int)]/\h.get? a=some {cls:= .type "list",data:= .seq vs.toArray}/\IntsAre vs ns/\ns.length<=n:=by
 have hsh:WShape.hasAll [] args [.list .int]=true:=(pre_splitW hpre).1
 have hc:l.pre.holds [] {args:=args}=true:=(pre_splitW hpre).2
 obtain⟨d,r,rfl,h1,h2⟩:=hasAllW_cons hsh
 obtain rfl:=hasAllW_nil h2
 obtain⟨xs,rfl,h3⟩:=hasW_list h1
 obtain⟨ns,rfl⟩:=items_int h3
 have hlen:ns.length<=n:=by
  unfold OpenLaw.pre at hc
  have h4:(WTm.not (.lt (.lit (.int (n:Int))) (.len (.arg 0)))).holds [] {args:=[.list (ns.map .int)]}=true:=by
   have h4:=(holds_andW hc).1
   rw[hn]at h4
   exact h4
  have h5:=condW_of h4 (w_not (w_lt w_lit (w_len_list (w_arg rfl))))
  rw[qM_]at h5
  refine Nat.le_of_not_lt fun q=>?_
  have q':(n:Int) < ((ns.length:Nat):Int):=by omega
  first
   |(rw[qZ_ q']at h5;exact absurd h5 (by decide))
   |(simp at h5;omega)
 cases hwl with
 |cons w1 w2=>
  cases w2
  cases w1 with
  |list ho af=>exact⟨_,_,ns,rfl,rfl,ho,o6 ns _ af,hlen⟩
theorem zM(l:OpenLaw)(args:List WData):l.row.toRowW.claim.post args (.bool true) args=true:=
 postW_of (r:=l.row.toRowW) (X:=(true==true))
  (show WShape.has [] (.bool true) .bool=true by first |rfl |decide |simp [WShape.has,WShape.arms,WShape.armsAll])
  (show (WTm.eq .res (.lit (.bool true))).value [] {args:=args,res:=some (.bool true),after:=args}=some (.bool (true==true))from w_eq_bool (w_res rfl) w_lit) rfl
theorem vM{l:OpenLaw}{n:Nat}{q:Program}{loose:List Str}{XP:(Str->Option Value)->Heap->Prop}{YP:World->Heap->Prop}{d:DefRec}
 (hn:l.most=some n) (hdf:d.params.defaults=[])
 (call:∀(w:World) (s₀ s₁:Shared) (mg mb:Str->Option Value) (fa:Addr) (o:Obj) (pm cd doc:Value) (a:Addr) (vs:List Value) (ns:List Int),
   Ground q loose [] XP w s₀ mg mb s₁.heap->YP w s₁.heap->
   s₁.heap.get? fa=some o->o.data= .func (docDef d.name d.params d.body d.scope pm cd doc)->s₁.heap.CodeRec cd d.name->mg d.name=some (.ref fa)->
   s₁.heap.get? a=some {cls:= .type "list",data:= .seq vs.toArray}->IntsAre vs ns->ns.length<=n->s₁.gens=#[]->
   codeAny (model l.prog w) callerA (.call (.ref fa) ⟨[.ref a],[]⟩) (fun r s'=>r= .ok (.ret (.bool true))/\OldK s₁.heap s'.heap/\s'.os=s₁.os/\AllBare s'.gens) s₁):
 WalkO q loose XP YP l.row.toRowW d [] (fun f vs=>PySem.call f vs):=by
 intro w s₀ s₁ mg mb G Y fa o pm cd doc dV kV ho hd hcd hD hmg hg args vals as hpre hlay hrd hwl hlo
 obtain rfl:dV= .none:=Dflts.none hD hdf
 obtain rfl:kV= .none:=Dflts.noKw hD
 obtain⟨a,vs,ns,rfl,rfl,hobj,hints,hlen⟩:=zg hn hpre hwl
 refine enter_call (codeAny_mono (call w s₀ s₁ mg mb fa o pm cd doc a vs ns G Y ho (fd_plain hd) hcd hmg hobj hints hlen hg) fun r s' hq=>?_)
 obtain⟨rfl,h2,h3,h4⟩:=hq
 exact⟨.inl ⟨.bool true,.bool true,[],rfl,fun _=>rfl,.bool true,zM l _,fun _=>⟨List.Pairwise.nil,fun _ hm=>(nomatch hm)⟩⟩,h2,h3,h4⟩
end Att
namespace L2
open PySem PySem.Spec PyProof.Rows
theorem rV:∀{vs:List Value} {ns:List Int},IntsAre vs ns->Vals (ns.map V.int) vs
 |_,_,.nil=>.nil
 |_,_,.cons n t h=>.cons ⟨t,rfl⟩ (rV h)
def A7(H:Hp):Prop:=∀b,H b=none\/∃o xs,H b=some (.frz o (.lst xs))
theorem CD{P:Program}{w:World}{K:PySem.W.Frag}{mg mb:Str->Option Value}{CX:CXT}{k:Nat}{fa a:Addr}{fd:FuncData}{x:Str}{sp:Sp}{s₁:Shared}{vs:List Value}{ns:List Int}
 (KX:K.In s₁.heap) (hns:s₁.heap.Ns mainGlobals mg) (hb:s₁.heap.Ns builtinsNs mb) (hbb:∀x:Str,x≠"__name__"->mb x=bootBuiltins x) (hlim:s₁.heap.NoLimit) (hg:s₁.gens=#[])
 (ha:s₁.heap.get? a=some {cls:= .type "list",data:= .seq vs.toArray}) (hi:IntsAre vs ns) (hl:ns.length<=sizeLine) (hr:cU k callerA)
 (F:∀base:Heap,K.In base->base.Ns mainGlobals mg->aP P w K mg base CX k fa fd [x] sp) (hbind:∀(s:Shared) (u:Value),BindsTo s fd ⟨[u],[]⟩ [(x,u)])
 (hsp:∀H:Hp,A7 H->SqL K H a (ns.map V.int)->sp [.ref a] H (fun v _=>v= .bl true) fun _ _ _=>False)
 (hCX:∀H e s',CX [] H s₁ (fun _ _ _=>False) e s'->False):
 codeAny (model P w) callerA (.call (.ref fa) ⟨[.ref a],[]⟩) (fun r s'=>r= .ok (.ret (.bool true))/\OldK s₁.heap s'.heap/\s'.os=s₁.os/\AllBare s'.gens) s₁:=by
 have rv:=rV hi
 have lenV:=hi.length
 have core:∀H:Hp,A7 H->SqL K H a (ns.map V.int)->HOk P w H s₁.heap->(∀b,H b≠none->b=a)->(H a≠none->K.lookup a=none)->
  codeAny (model P w) callerA (.call (.ref fa) ⟨[.ref a],[]⟩) (fun r s'=>r= .ok (.ret (.bool true))/\OldK s₁.heap s'.heap/\s'.os=s₁.os/\AllBare s'.gens) s₁:=by
  intro H hO hS hok hA hK
  have base_of:∀{b:Addr} {o:Obj},s₁.heap.get? b=some o->H b=none->(tx s₁.heap H).get? b=some o:=fun e n=>BS e n
  have noA:∀{b:Addr} {o:Obj} {es:Array DictEntry} {ep:Nat},s₁.heap.get? b=some o->o.data= .dict es ep->H b=none:=fun {b o es ep} e d=>by
   cases q:H b with
   |none=>rfl
   |some u=>
    have e':b=a:=hA b (by rw[q];simp)
    subst e'
    rw[ha]at e;cases e
    have d':Data.seq vs.toArray _=Data.dict es ep:=d
    cases d'
  have nsK:∀{b:Addr} {m:Str->Option Value},s₁.heap.Ns b m->(tx s₁.heap H).Ns b m:=fun {b m} ⟨o,es,ep,e,d,r⟩=>⟨o,es,ep,base_of e (noA e d),d,r⟩
  have hKb:K.In (tx s₁.heap H):=fun b o e=>base_of (KX b o e) (by
   cases q:H b with
   |none=>rfl
   |some u=>
    have e':b=a:=hA b (by rw[q];simp)
    subst e'
    rw[hK (by rw[q];simp)]at e;cases e)
  have hM:Mod K mg (tx s₁.heap H):=⟨hKb,nsK hns,⟨mb,nsK hb,hbb⟩,let ⟨mc,h1,h2⟩:=hlim;⟨mc,nsK h1,h2⟩⟩
  have e0:we P w K mg (tx s₁.heap H) callerA [] s₁ H:=⟨rfl,hM,fun b o e=>C9 e,Nat.le_of_eq (zq _ _),trivial,fun b hb=>absurd (show b∈([]:List Addr)from hb) (by simp),hok,.of_eq hg⟩
  refine codeAny_mono ((F _ hKb (nsK hns)).run callerA [] s₁ H ⟨[.ref a],[]⟩ [.ref a] [.ref a] _ _ hr e0 (hbind s₁ (.ref a)) (.cons rfl .nil) (hsp H hO hS)) fun r s' h=>?_
  cases r with
  |error e=>exact(hCX H e s' h).elim
  |ok fl=>
   cases fl with
   |next=>exact False.elim h
   |brk=>exact False.elim h
   |cont=>exact False.elim h
   |ret u=>
    obtain⟨v,H',os,bare,un,hok',r',q⟩:=h
    have q':v= .bl true:=q
    subst q'
    obtain rfl:u=Value.bool true:=r'
    refine⟨rfl,OldK.of_keep fun b o e=>?_,os,bare⟩
    cases q:H b with
    |none=>exact un.keep b o e q (by intro z;exact absurd (show b∈([]:List Addr)from z) (by simp)) (by simp)
    |some u=>
     rcases hO b with z |⟨ob,xs,z⟩
     · rw[q]at z;cases z
     · have z2:=un.oa b ob _ z
       obtain⟨e1,_⟩:=hok b _ z
       obtain⟨e2,_⟩:=hok' b _ z2
       rw[e]at e1;cases e1
       exact e2
 cases hk:K.lookup a with
 |some o=>
  have e:=KX a o hk
  rw[ha]at e
  cases e
  refine core (fun _=>none) (fun _=>.inl rfl) (.inr ⟨_,vs.toArray,_,hk,rfl,rfl,rfl,by rw[qW_,lenV];exact hl,by simpa using rv⟩) (fun b u z=>by have z':(none:Option HO)=some u:=z;cases z') (fun b z=>absurd rfl z) fun z=>absurd rfl z
 |none=>
  refine core (fun b=>if b=a then some (.frz {cls:= .type "list",data:= .seq vs.toArray} (.lst (ns.map V.int)))else none) (fun b=>?_) (.inl (.inr ⟨{cls:= .type "list",data:= .seq vs.toArray},if_pos rfl⟩)) (fun b u z=>?_) (fun b z=>?_) fun _=>hk
  · by_cases hb:b=a
    · exact .inr ⟨_,_,if_pos hb⟩
    · exact .inl (if_neg hb)
  · by_cases hb:b=a
    · have z':=(if_pos hb).symm.trans z
      cases z'
      subst hb
      exact⟨ha,by rw[qM_];exact hl,vs,_,rv,ha⟩
    · have z':=(if_neg hb).symm.trans z
      cases z'
  · by_cases hb:b=a
    · exact hb
    · exact absurd (if_neg hb) z
theorem Dd{l:PySem.W.OpenLaw}{n k:Nat}{q:Program}{loose:List Str}{XP:(Str->Option Value)->Heap->Prop}{YP:World->Heap->Prop}{d:DefRec}{K:Params->PySem.W.Frag}{CX:World->CXT}{sp:World->Sp}{x:Str}
 (hn:l.most=some n) (hn2:n<=sizeLine) (hdf:d.params.defaults=[]) (hr:cU k callerA)
 (hY:∀(w:World) (h:Heap),YP w h->(K w.params).In h)
 (F:∀(w:World) (mg:Str->Option Value) (fa:Addr) (h:Heap),(K w.params).In h->h.Ns mainGlobals mg->mg d.name=some (.ref fa)->
   ∃fd:FuncData,(∀(s:Shared) (u:Value),BindsTo s fd ⟨[u],[]⟩ [(x,u)])/\
    ∀base:Heap,(K w.params).In base->base.Ns mainGlobals mg->aP l.prog w (K w.params) mg base (CX w) k fa fd [x] (sp w))
 (hsp:∀(w:World) (H:Hp) (a:Addr) (ns:List Int),ns.length<=n->A7 H->SqL (K w.params) H a (ns.map V.int)->sp w [.ref a] H (fun v _=>v= .bl true) fun _ _ _=>False)
 (hCX:∀(w:World) (H:Hp) (s:Shared) (e:Value) (s':Shared),CX w [] H s (fun _ _ _=>False) e s'->False):
 PySem.W.WalkO q loose XP YP l.row.toRowW d [] (fun f vs=>PySem.call f vs):=by
 refine Att.vM hn hdf fun w s₀ s₁ mg mb fa o pm cd doc a vs ns G Y ho hd hcd hmg hobj hints hlen hg=>?_
 have KX:=hY w _ Y
 obtain⟨fd,hb,hF⟩:=F w mg fa _ KX G.T.g hmg
 exact CD KX G.T.g G.T.b G.T.builtins G.T.nolimit hg hobj hints (Nat.le_trans hlen hn2) hr hF hb (fun H hO hS=>hsp w H a ns hlen hO hS) fun H e s'=>hCX w H s₁ e s'
def inClass(s:Stmt)(j:Nat):Stmt:=match s with
 | .ClassDef _ _ _ body _ _ _ _ _ _ _=>body.getD j (.Pass ⟨0,0,0,0⟩)
 |_=>.Pass ⟨0,0,0,0⟩
def mR(s:Stmt):Arguments:=match s with
 | .FunctionDef _ a _ _ _ _ _ _ _ _=>a
 |_=>{posonlyargs:=[],args:=[],vararg:=none,kwonlyargs:=[],kw_defaults:=[],kwarg:=none,defaults:=[]}
def gm(s:Stmt):List Stmt:=match s with
 | .FunctionDef _ _ b _ _ _ _ _ _ _=>b
 |_=>[]
def aj(s:Stmt):Scope:=match s with
 | .FunctionDef _ _ _ _ _ _ sc _ _ _=>sc
 |_=>{kind:= .function,names:=[],isGenerator:=false,isCoroutine:=false}
abbrev CX0:CXT:=fun _ _ _ _ _ _=>False
structure Fun (K:PySem.W.Frag) (x qual:Str) (st:Stmt) (f:Addr) (fd:FuncData):Prop where
 ex:∃(oc:Value) (od:Option Addr) (kV doc pm:Value) (an:Option Addr) (cdv ct:Value) (osl:Array (Option Value)),
  fd=PySem.W.fnOf x qual (mR st) (gm st) (aj st) .none kV doc pm an cdv ct/\K.lookup f=some ⟨oc,od,.func fd,osl⟩/\PySem.W.codeIn K cdv qual=true
 kp:PySem.W.keepIn K (.ref f)=true
section
variable{P:Program}{w:World}{K:PySem.W.Frag}{mg:Str->Option Value}{base:Heap}
theorem Fun.ok{x qual:Str}{st:Stmt}{f:Addr}{fd:FuncData}{N ps:List Str}{k:Nat}{sp:Sp}(F:Fun K x qual st f fd)(S:au N ps (aj st))(len:∀vs H Q E,sp vs H Q E->vs.length=ps.length)
 (hbody:∀(cdv:Value) (A:Around) (outer:List Env) (s:Shared) (H:Hp) (vs:List V) (Q:VK) (E:XK),cU k (A.deeper (envOfC qual (aj st) s.heap.objs.size f cdv))->sp vs H Q E->
   ∃t,PSs (lj CX0 P w K mg base N qual (aj st) f cdv A outer s H E).nox (gm st) t/\t {nx:=fun _ H'=>Q .non H',rt:=Q} (start N vs) H):aP P w K mg base CX0 (k+1) f fd ps sp:=by
 obtain⟨oc,od,kV,doc,pm,an,cdv,ct,osl,rfl,lk,hcd⟩:=F.ex
 refine E5 lk hcd S len fun A outer s H vs Q E hr hsp=>?_
 obtain⟨t,h,q⟩:=hbody cdv A outer s H vs Q E hr hsp
 exact⟨t,h.nox,q⟩
theorem Fun.binds{x qual:Str}{st:Stmt}{f:Addr}{fd:FuncData}{ps:List Str}(F:Fun K x qual st f fd)
 (h:∀(kV doc pm:Value) (an:Option Addr) (cdv ct:Value) (us:List Value),us.length=ps.length->bindArgs (PySem.W.fnOf x qual (mR st) (gm st) (aj st) .none kV doc pm an cdv ct) ⟨us,[]⟩=pure (ps.zip us)):Binds K fd ps []:=by
 obtain⟨oc,od,kV,doc,pm,an,cdv,ct,osl,rfl,lk,hcd⟩:=F.ex
 exact .all (h kV doc pm an cdv ct)
theorem H0{x qual:Str}{st:Stmt}{f:Addr}{oc:Value}{od an:Option Addr}{osl:Array (Option Value)}{kV doc pm cdv ct:Value}(l:K.lookup f=some ⟨oc,od,.func (PySem.W.fnOf x qual (mR st) (gm st) (aj st) .none kV doc pm an cdv ct),osl⟩)
 (c:PySem.W.codeIn K cdv qual=true) (k:PySem.W.keepIn K (.ref f)=true):Fun K x qual st f (PySem.W.fnOf x qual (mR st) (gm st) (aj st) .none kV doc pm an cdv ct):=⟨⟨oc,od,kV,doc,pm,an,cdv,ct,osl,rfl,l,c⟩,k⟩
end
section
variable{X:Cx}
theorem zT:fL X (.builtin "len") (fun xs H Q=>∃a kvs,xs=[V.ref a]/\H a=some (.dK kvs)/\Q (.int kvs.length) H):=by
 intro pins s σ H xs us Q I r h
 obtain⟨a,kvs,rfl,ha,q⟩:=h
 obtain⟨u,rfl,ru⟩:=vals1 r
 cases ru
 exact Jl I (.inl ha) fun t s' I'=>⟨.int kvs.length,H,I',⟨t,rfl⟩,q⟩
end
def fO(H H':Hp):Prop:=∀b o,H b=some o->H' b=some o
end L2
namespace M3
open PySem
inductive D where
 |non |bl (b:Bool) |int (i:Int) |str (x:Str) |tup (xs:List D) |ref (n:Nat)
 deriving Inhabited
mutual
def D.beq:D->D->Bool
 | .non,.non=>true
 | .bl a,.bl b=>a==b
 | .int a,.int b=>a==b
 | .str a,.str b=>decide (a=b)
 | .tup a,.tup b=>D.zQ a b
 | .ref a,.ref b=>a==b
 |_,_=>false
def D.zQ:List D->List D->Bool
 | [],[]=>true
 |a :: r,b :: t=>D.beq a b&&D.zQ r t
 |_,_=>false
end
mutual
theorem D.beq_iff:∀(x y:D),D.beq x y=true↔x=y
 | .non,y=>by cases y <;> simp [D.beq]
 | .bl a,y=>by cases y <;> simp [D.beq]
 | .int a,y=>by cases y <;> simp [D.beq]
 | .str a,y=>by cases y <;> simp [D.beq]
 | .tup a,y=>by
   cases y with
   |tup b=>simp only[D.beq,D.tup.injEq];exact D.vg a b
   |_=>simp [D.beq]
 | .ref a,y=>by cases y <;> simp [D.beq]
theorem D.vg:∀(x y:List D),D.zQ x y=true↔x=y
 | [],y=>by cases y <;> simp [D.zQ]
 |a :: r,y=>by
  cases y with
  |nil=>simp [D.zQ]
  |cons b t=>
   simp only[D.zQ,Bool.and_eq_true,List.cons.injEq]
   rw[D.beq_iff a b,D.vg r t]
end
instance:DecidableEq D:=fun x y=>decidable_of_iff _ (D.beq_iff x y)
abbrev Key:=Sum Int Str
inductive O where
 |lst (xs:List D) |frz (xs:List D) |dK (kvs:List (Key×D)) |dF (kvs:List (Key×D)) |dT (kvs:List (List Int×D)) |ins (C:Nat) (fs:List (Nat×D))
 deriving Inhabited,DecidableEq
inductive Oc (α:Type) where
 |ok (a:α) |exc (c:Nat)
abbrev Hh:=List O
abbrev M(α:Type):=Hh->Option (Oc α×Hh)
def ret{α:Type}(a:α):M α:=fun G=>some (.ok a,G)
def fail{α:Type}:M α:=fun _=>none
def bnd{α β:Type}(m:M α)(k:α->M β):M β:=fun G=>match m G with
 |some (.ok a,G')=>k a G'
 |some (.exc c,G')=>some (.exc c,G')
 |none=>none
def run{α:Type}(m:M α)(G:Hh)(Q:α->Hh->Prop)(E:Nat->Hh->Prop):Prop:=match m G with
 |some (.ok a,G')=>Q a G'
 |some (.exc c,G')=>E c G'
 |none=>False
theorem aN{α β:Type}{m:M α}{k:α->M β}{G:Hh}{Q:β->Hh->Prop}{E:Nat->Hh->Prop}(h:run (bnd m k) G Q E):run m G (fun a G1=>run (k a) G1 Q E) E:=by
 unfold run bnd at*
 cases e:m G with
 |none=>rw[e]at h;exact h
 |some p=>
  obtain⟨o,G1⟩:=p
  rw[e]at h
  cases o with
  |ok a=>exact h
  |exc c=>exact h
theorem ao{α:Type}{m:M α}{G:Hh}{Q Q':α->Hh->Prop}{E E':Nat->Hh->Prop}(h:run m G Q E)(hq:∀a G',Q a G'->Q' a G')(he:∀c G',E c G'->E' c G'):run m G Q' E':=by
 unfold run at*
 cases e:m G with
 |none=>rw[e]at h;exact h
 |some p=>
  obtain⟨o,G1⟩:=p
  rw[e]at h
  cases o with
  |ok a=>exact hq _ _ h
  |exc c=>exact he _ _ h
@[simp] theorem bnd_ret {α β:Type} (a:α) (k:α->M β):bnd (ret a) k=k a:=rfl
theorem kT{α β γ:Type}(m:M α)(k:α->M β)(l:β->M γ):bnd (bnd m k) l=bnd m fun a=>bnd (k a) l:=by
 funext G
 unfold bnd
 cases m G with
 |none=>rfl
 |some p=>
  obtain⟨o,G1⟩:=p
  cases o <;> rfl
abbrev St:=List (Option D)
abbrev E3:=St->M D
abbrev T3:=St->M Bool
abbrev A3:=St->M (List D)
inductive Fl where
 |next |brk |cont |ret (d:D)
abbrev S3:=St->M (Fl×St)
def ae(i:Nat):E3:=fun σ=>match σ[i]? with
 |some (some d)=>ret d
 |_=>fail
def eC(d:D):E3:=fun _=>ret d
def eOp(f:D->D->M D)(a b:E3):E3:=fun σ=>bnd (a σ) fun x=>bnd (b σ) fun y=>f x y
def eUn(f:D->M D)(a:E3):E3:=fun σ=>bnd (a σ) f
def ai:A3:=fun _=>ret []
def aa(e:E3)(r:A3):A3:=fun σ=>bnd (e σ) fun x=>bnd (r σ) fun xs=>ret (x :: xs)
def aA:Nat:=16777216
def new(o:O):M D:=fun G=>some (.ok (.ref G.length),G++[o])
def bO(a:A3):E3:=fun σ=>bnd (a σ) fun xs=>if xs.length<=aA then ret (.tup xs)else fail
def cS(a:A3):E3:=fun σ=>bnd (a σ) fun xs=>if xs.length<=aA then new (.lst xs)else fail
def aw(f:List D->M D)(a:A3):E3:=fun σ=>bnd (a σ) f
def eIf(t:T3)(a b:E3):E3:=fun σ=>bnd (t σ) fun c=>if c then a σ else b σ
def truth(d:D):M Bool:=fun G=>match d with
 | .non=>some (.ok false,G)
 | .bl b=>some (.ok b,G)
 | .int i=>some (.ok (i !=0),G)
 | .str x=>if x.length<=aA then some (.ok (x.length !=0),G)else none
 | .tup xs=>some (.ok (!xs.isEmpty),G)
 | .ref n=>match G[n]? with
   |some (.lst xs)=>some (.ok (!xs.isEmpty),G)
   |some (.frz xs)=>some (.ok (!xs.isEmpty),G)
   |some (.dK kvs)=>some (.ok (!kvs.isEmpty),G)
   |_=>none
def tOf(e:E3):T3:=fun σ=>bnd (e σ) truth
def asB(d:D):M Bool:=match d with
 | .bl b=>ret b
 |_=>fail
def tB(e:E3):T3:=fun σ=>bnd (e σ) asB
def rk(t u:T3):T3:=fun σ=>bnd (t σ) fun c=>if c then u σ else ret false
def tOr(t u:T3):T3:=fun σ=>bnd (t σ) fun c=>if c then ret true else u σ
def eX(t:T3):T3:=fun σ=>bnd (t σ) fun c=>ret (!c)
def oZ(a b:E3):E3:=fun σ=>bnd (a σ) fun x=>bnd (asB x) fun c=>if c then b σ else ret (.bl false)
def eOr(a b:E3):E3:=fun σ=>bnd (a σ) fun x=>bnd (asB x) fun c=>if c then ret (.bl true)else b σ
def B6(a:E3):E3:=fun σ=>bnd (a σ) fun x=>bnd (asB x) fun c=>ret (.bl (!c))
def small(i:Int):Bool:=decide (-(2 ^ 64) < i/\i < 2 ^ 64)
def eY(x y:D):M D:=match x,y with
 | .int i,.int j=>ret (.int (i+j))
 | .str a,.str b=>if a.length+b.length<=aA then ret (.str (a++b))else fail
 | .tup a,.tup b=>if a≠ []/\a.length+b.length<=aA then ret (.tup (a++b))else fail
 | .ref i,.ref j=>fun G=>match G[i]?,G[j]? with
   |some (.lst a),some (.lst b)=>if a.length+b.length<=aA then new (.lst (a++b)) G else none
   |_,_=>none
 |_,_=>fail
def xg(x y:D):M D:=match x,y with
 | .int i,.int j=>ret (.int (i - j))
 |_,_=>fail
def ff(x y:D):M D:=match x,y with
 | .int i,.int j=>if small i||small j then ret (.int (i*j))else fail
 | .str a,.int k=>if 0<=k/\k<=1000/\a.length<=1000 then ret (.str (Txt.mul a k))else fail
 | .ref n,.int k=>fun G=>match G[n]? with
   |some (.lst xs)=>if 0<=k/\k<=1000000/\xs.length*k.toNat<=aA then new (.lst (List.replicate k.toNat xs).flatten) G else none
   |_=>none
 |_,_=>fail
def oMod(x y:D):M D:=match x,y with
 | .int i,.int j=>if 0 < j then ret (.int (i % j))else fail
 |_,_=>fail
def yX(x:D):M D:=match x with
 | .int i=>ret (.int (-i))
 |_=>fail
def oX:List Int->List Int->Bool
 | [],[]=>false
 | [],_ :: _=>true
 |_ :: _,[]=>false
 |a :: r,b :: t=>if a=b then oX r t else decide (a < b)
def intsOf:List D->Option (List Int)
 | []=>some []
 | .int i :: r=>(intsOf r).map (i :: ·)
 |_ :: _=>none
def oLt(x y:D):M D:=match x,y with
 | .int i,.int j=>ret (.bl (decide (i < j)))
 | .tup a,.tup b=>match intsOf a,intsOf b with
   |some m,some n=>ret (.bl (oX m n))
   |_,_=>fail
 |_,_=>fail
def oGt(x y:D):M D:=match x,y with
 | .int i,.int j=>ret (.bl (decide (j < i)))
 | .tup a,.tup b=>match intsOf a,intsOf b with
   |some m,some n=>ret (.bl (oX n m))
   |_,_=>fail
 |_,_=>fail
def oGe(x y:D):M D:=match x,y with
 | .int i,.int j=>ret (.bl (decide (j<=i)))
 |_,_=>fail
def eqZ(f:D->D->Option Bool):List D->List D->Option Bool
 |a :: r,b :: t=>match f a b,eqZ f r t with
  |some p,some q=>some (p&&q)
  |_,_=>none
 |_,_=>some true
def listOf(G:Hh)(n:Nat):Option (List D):=match G[n]? with
 |some (.lst xs)=>some xs
 |some (.frz xs)=>some xs
 |_=>none
def eqG(G:Hh):Nat->D->D->Option Bool
 |0,_,_=>none
 |k+1,x,y=>match x,y with
  | .non,.non=>some true
  | .bl a,.bl b=>some (a==b)
  | .int a,.int b=>some (decide (a=b))
  | .str a,.str b=>some (decide (a=b))
  | .tup a,.tup b=>(eqZ (eqG G k) a b).map (·&&decide (a.length=b.length))
  | .ref i,.ref j=>match listOf G i,listOf G j with
    |some a,some b=>if a.length=b.length then eqZ (eqG G k) a b else some false
    |_,_=>none
  | .non,.int _=>some false
  | .int _,.non=>some false
  | .non,.str _=>some false
  | .str _,.non=>some false
  | .non,.tup _=>some false
  | .tup _,.non=>some false
  | .int _,.str _=>some false
  | .str _,.int _=>some false
  | .int _,.tup _=>some false
  | .tup _,.int _=>some false
  |_,_=>none
def oEq(x y:D):M D:=fun G=>match eqG G 8 x y with
 |some b=>some (.ok (.bl b),G)
 |none=>none
def oNe(x y:D):M D:=fun G=>match eqG G 8 x y with
 |some b=>some (.ok (.bl (!b)),G)
 |none=>none
def nN(x:D):M D:=ret (.bl (decide (x= .non)))
def lO(x:D):M D:=ret (.bl (!decide (x= .non)))
def vU(G:Hh)(x:D):List D->Option Bool
 | []=>some false
 |y :: r=>match eqG G 8 y x,vU G x r with
  |some p,some q=>some (p||q)
  |_,_=>none
def pQ(d:D):Option Key:=match d with
 | .int i=>some (.inl i)
 | .str x=>some (.inr x)
 |_=>none
def qN(d:D):Option (List Int):=match d with
 | .tup xs=>intsOf xs
 |_=>none
def look{κ:Type} [DecidableEq κ](kvs:List (κ×D))(k:κ):Option D:=(kvs.find? fun kv=>decide (kv.1=k)).map (·.2)
def put{κ:Type} [DecidableEq κ](kvs:List (κ×D))(k:κ)(v:D):List (κ×D):=
 if (kvs.any fun kv=>decide (kv.1=k))then kvs.map fun kv=>if kv.1=k then (kv.1,v)else kv else kvs++[(k,v)]
def inG(G:Hh)(x y:D):Option Bool:=match y with
 | .tup ys=>vU G x ys
 | .ref n=>match G[n]? with
   |some (.lst ys)=>vU G x ys
   |some (.frz ys)=>vU G x ys
   |some (.dK kvs)=>match pQ x with
    |some k=>some (look kvs k).isSome
    |none=>none
   |_=>none
 |_=>none
def nG(x y:D):M D:=fun G=>match inG G x y with
 |some b=>some (.ok (.bl (!b)),G)
 |none=>none
def ixN(n:Nat)(i:Int):Option Nat:=if 0<=i then (if i < n then some i.toNat else none)else if -(n:Int)<=i then some (i+n).toNat else none
def atI(xs:List D)(i:Int):Option D:=(ixN xs.length i).bind fun j=>xs[j]?
def mW(o:Option D):M D:=match o with
 |some d=>ret d
 |none=>fail
def oIx(x y:D):M D:=match x,y with
 | .tup xs,.int i=>mW (atI xs i)
 | .ref n,y=>fun G=>match G[n]?,y with
   |some (.lst xs),.int i=>mW (atI xs i) G
   |some (.frz xs),.int i=>mW (atI xs i) G
   |some (.dK kvs),y=>match pQ y with
    |some k=>mW (look kvs k) G
    |none=>none
   |_,_=>none
 |_,_=>fail
inductive Kd where
 |non |bl |int |str |tup |lst |dic
def kdOf(G:Hh)(d:D):Option Kd:=match d with
 | .non=>some .non
 | .bl _=>some .bl
 | .int _=>some .int
 | .str _=>some .str
 | .tup _=>some .tup
 | .ref n=>match G[n]? with
   |some (.lst _)=>some .lst
   |some (.frz _)=>some .lst
   |some (.dK _)=>some .dic
   |_=>none
def lx:Kd->Kd->Bool
 | .non,.non=>true | .bl,.bl=>true | .bl,.int=>true | .int,.int=>true | .str,.str=>true | .tup,.tup=>true | .lst,.lst=>true | .dic,.dic=>true
 |_,_=>false
def bIs(c:Kd)(ds:List D):M D:=fun G=>match ds with
 | [d]=>match kdOf G d with
   |some k=>some (.ok (.bl (lx k c)),G)
   |none=>none
 |_=>none
def y9(cs:List Kd)(ds:List D):M D:=fun G=>match ds with
 | [d]=>match kdOf G d with
   |some k=>some (.ok (.bl (cs.any (lx k ·))),G)
   |none=>none
 |_=>none
def di(ds:List D):M D:=fun G=>match ds with
 | [.tup xs]=>if xs.length<=aA then some (.ok (.int xs.length),G)else none
 | [.str x]=>if x.length<=aA then some (.ok (.int x.length),G)else none
 | [.ref n]=>match G[n]? with
   |some (.lst xs)=>some (.ok (.int xs.length),G)
   |some (.frz xs)=>some (.ok (.int xs.length),G)
   |some (.dK kvs)=>some (.ok (.int kvs.length),G)
   |_=>none
 |_=>none
def jz:Int->List Int->Int
 |m,[]=>m
 |m,x :: r=>jz (if x > m then x else m) r
def zx(ds:List D):M D:=fun G=>match ds with
 | [.int i,.int j]=>some (.ok (.int (if j > i then j else i)),G)
 | [.ref n]=>match G[n]? with
   |some (.lst xs)=>match intsOf xs with
    |some (m :: r)=>some (.ok (.int (jz m r)),G)
    |_=>none
   |_=>none
 |_=>none
def rT(ds:List D):M D:=fun G=>match ds with
 | [.ref n]=>match G[n]? with
   |some (.lst xs)=>new (.lst xs) G
   |some (.frz xs)=>new (.lst xs) G
   |_=>none
 | [.tup xs]=>if xs.length<=aA then new (.lst xs) G else none
 |_=>none
def xj(ds:List D):M D:=fun G=>match ds with
 | [.int i]=>some (.ok (.int i),G)
 | [.bl b]=>some (.ok (.int (if b then 1 else 0)),G)
 | [.str x]=>match PySem.intText? x with
   |some n=>if x.length<=640 then some (.ok (.int n),G)else none
   |none=>none
 |_=>none
def ji(x y:D):M D:=fun G=>match x with
 | .ref n=>match G[n]? with
   |some (.lst xs)=>if xs.length < aA then some (.ok .non,G.set n (.lst (xs++[y])))else none
   |_=>none
 |_=>none
def isL(x:D):M Unit:=fun G=>match x with
 | .ref n=>match G[n]? with
   |some (.lst _)=>some (.ok (),G)
   |_=>none
 |_=>none
def zL(o a:E3):E3:=fun σ=>bnd (o σ) fun x=>bnd (isL x) fun _=>bnd (a σ) fun y=>ji x y
def putN(f:Nat)(v:D):List (Nat×D)->List (Nat×D)
 | []=>[(f,v)]
 |(g,x) :: r=>if g=f then (g,v) :: r else (g,x) :: putN f v r
def Bj(x:D)(f:Nat):M D:=fun G=>match x with
 | .ref n=>match G[n]? with
   |some (.ins C fs)=>if C < 1000 then (match fs.lookup f with
    |some d=>some (.ok d,G)
    |none=>none)else none
   |_=>none
 |_=>none
def zS(x:D)(f:Nat)(y:D):M Unit:=fun G=>match x with
 | .ref n=>match G[n]? with
   |some (.ins C fs)=>if C < 1000/\fs.length < 1000 then some (.ok (),G.set n (.ins C (putN f y fs)))else none
   |_=>none
 |_=>none
def isC(C:Nat)(x:D):M Unit:=fun G=>match x with
 | .ref n=>match G[n]? with
   |some (.ins C' _)=>if C'=C then some (.ok (),G)else none
   |_=>none
 |_=>none
def aU(o:E3)(f:Nat):E3:=fun σ=>bnd (o σ) fun x=>Bj x f
def bw(o:E3)(f:Nat)(e:E3):S3:=fun σ=>bnd (e σ) fun y=>bnd (o σ) fun x=>bnd (zS x f y) fun _=>ret (.next,σ)
def aH(C:Nat)(g:List D->M D)(o:E3)(a:A3):E3:=fun σ=>bnd (o σ) fun x=>bnd (isC C x) fun _=>bnd (a σ) fun ds=>g (x :: ds)
def xO(d:D):M Unit:=match d with
 | .non=>ret ()
 |_=>fail
def jq(C:Nat)(g:List D->M D)(a:A3):E3:=fun σ=>bnd (a σ) fun ds=>bnd (new (.ins C [])) fun x=>bnd (g (x :: ds)) fun r=>bnd (xO r) fun _=>ret x
def yM(x i v:D):M Unit:=fun G=>match x with
 | .ref n=>match G[n]? with
   |some (.lst xs)=>match i with
    | .int k=>match ixN xs.length k with
      |some j=>some (.ok (),G.set n (.lst (xs.set j v)))
      |none=>none
    |_=>none
   |some (.dK kvs)=>match pQ i with
    |some k=>if kvs.length < aA then some (.ok (),G.set n (.dK (put kvs k v)))else none
    |none=>none
   |_=>none
 |_=>none
def xX(o i e:E3):S3:=fun σ=>bnd (e σ) fun v=>bnd (o σ) fun x=>bnd (i σ) fun y=>bnd (yM x y v) fun _=>ret (.next,σ)
def pY:E3:=fun _=>new (.dK [])
def sIx(n d:Nat):Option Int->Nat
 |none=>d
 |some v=>if v < 0 then (v+(n:Int)).toNat else min v.toNat n
def cutD(xs:List D)(lo hi:Option Int):List D:=(xs.drop (sIx xs.length 0 lo)).take (sIx xs.length xs.length hi - sIx xs.length 0 lo)
abbrev P3:=St->M (Option Int)
def vG:P3:=fun _=>ret none
def asI(d:D):M (Option Int):=match d with
 | .int i=>ret (some i)
 |_=>fail
def m5(e:E3):P3:=fun σ=>bnd (e σ) asI
def oSl(x:D)(lo hi:Option Int):M D:=fun G=>match x with
 | .tup xs=>if sIx xs.length 0 lo=0/\sIx xs.length xs.length hi=xs.length then none else some (.ok (.tup (cutD xs lo hi)),G)
 | .ref n=>match G[n]? with
   |some (.lst xs)=>new (.lst (cutD xs lo hi)) G
   |some (.frz xs)=>new (.lst (cutD xs lo hi)) G
   |_=>none
 |_=>none
def eSl(e:E3)(lo hi:P3):E3:=fun σ=>bnd (e σ) fun x=>bnd (lo σ) fun l=>bnd (hi σ) fun h=>oSl x l h
def iQ(x y:D):M D:=fun G=>match x,y with
 | .ref n,.ref m=>match G[n]?,G[m]? with
   |some (.lst xs),some (.lst ys)=>if xs.length+ys.length<=aA then some (.ok .non,G.set n (.lst (xs++ys)))else none
   |_,_=>none
 |_,_=>none
def mf(x i:D):M D:=fun G=>match x,i with
 | .ref n,.int i=>match G[n]? with
   |some (.lst xs)=>match ixN xs.length i with
    |some k=>match xs[k]? with
     |some y=>if -(2 ^ 62)<=i/\i < 2 ^ 62 then some (.ok y,G.set n (.lst (xs.eraseIdx k)))else none
     |none=>none
    |none=>none
   |_=>none
 |_,_=>none
def uO(o a:E3):E3:=fun σ=>bnd (o σ) fun x=>bnd (isL x) fun _=>bnd (a σ) fun y=>iQ x y
def tM(o a:E3):E3:=fun σ=>bnd (o σ) fun x=>bnd (isL x) fun _=>bnd (a σ) fun y=>mf x y
def vZ(x:D):M D:=fun G=>match x with
 | .ref n=>match G[n]? with
   |some (.dK kvs)=>new (.lst (kvs.map (·.2))) G
   |_=>none
 |_=>none
def AG(o:E3):E3:=fun σ=>bnd (o σ) vZ
structure Src where
 xs:List D
 ck:Hh->Bool
abbrev I3:=St->M Src
def srcOf(d:D):M Src:=match d with
 | .tup xs=>ret ⟨xs,fun _=>true⟩
 | .ref n=>fun G=>match G[n]? with
   |some (.lst xs)=>some (.ok ⟨xs,fun G'=>decide (G'[n]? =some (.lst xs))⟩,G)
   |some (.frz xs)=>some (.ok ⟨xs,fun G'=>decide (G'[n]? =some (.frz xs))⟩,G)
   |_=>none
 |_=>fail
def iOf(e:E3):I3:=fun σ=>bnd (e σ) srcOf
def rM(i:Int):Bool:=decide (-(2 ^ 62)<=i/\i < 2 ^ 62)
def rng(i:Int)(n:Nat):List D:=(List.range n).map fun(k:Nat)=>.int (i+(k:Int))
def DT(x:D):M Src:=match x with
 | .int j=>if rM j then ret ⟨rng 0 j.toNat,fun _=>true⟩else fail
 |_=>fail
def gs(a:E3):I3:=fun σ=>bnd (a σ) DT
def dU(σ:St)(cap:List Nat):St:=cap.map fun i=>(σ[i]?).join
def bX(ck:Hh->Bool)(cond:D->M Bool)(elt:D->M D):List D->List D->M (List D)
 | [],acc=>fun G=>if ck G then some (.ok acc,G)else none
 |x :: r,acc=>fun G=>if ck G then bnd (cond x) (fun c=>if c then bnd (elt x) (fun y=>if acc.length < aA then bX ck cond elt r (acc++[y])else fail)else bX ck cond elt r acc) G else none
def fT(it:I3)(cap:List Nat)(cond:T3)(elt:E3):E3:=fun σ=>bnd (it σ) fun s=>
 bnd (bX s.ck (fun x=>cond (some x :: dU σ cap)) (fun x=>elt (some x :: dU σ cap)) s.xs []) fun ys=>new (.lst ys)
def jr:T3:=fun _=>ret true
def aW:S3:=fun σ=>ret (.next,σ)
def aq(a b:S3):S3:=fun σ=>bnd (a σ) fun r=>match r.1 with
 | .next=>b r.2
 |f=>ret (f,r.2)
def bx(i:Nat)(e:E3):S3:=fun σ=>bnd (e σ) fun d=>ret (.next,σ.set i (some d))
def lY:List Nat->List D->St->Option St
 | [],[],σ=>some σ
 |i :: r,d :: t,σ=>lY r t (σ.set i (some d))
 |_,_,_=>none
def gUn(is:List Nat)(d:D)(σ:St):M St:=match d with
 | .tup ds=>match lY is ds σ with
   |some σ'=>ret σ'
   |none=>fail
 |_=>fail
def gNm(i:Nat)(d:D)(σ:St):M St:=ret (σ.set i (some d))
def sUn(is:List Nat)(e:E3):S3:=fun σ=>bnd (e σ) fun d=>bnd (gUn is d σ) fun σ'=>ret (.next,σ')
def b7(e:E3):S3:=fun σ=>bnd (e σ) fun _=>ret (.next,σ)
def aC(e:E3):S3:=fun σ=>bnd (e σ) fun d=>ret (.ret d,σ)
def sIf(t:T3)(a b:S3):S3:=fun σ=>bnd (t σ) fun c=>if c then a σ else b σ
def forL(ck:Hh->Bool)(body:D->St->M (Fl×St)):List D->St->M (Fl×St)
 | [],σ=>fun G=>if ck G then some (.ok (.next,σ),G)else none
 |x :: r,σ=>fun G=>if ck G then bnd (body x σ) (fun p=>match p.1 with
    | .next=>forL ck body r p.2
    | .cont=>forL ck body r p.2
    | .brk=>ret (.next,p.2)
    | .ret d=>ret (.ret d,p.2)) G else none
def iJ(t:T3)(body:S3):Nat->St->M (Fl×St)
 |0,_=>fail
 |k+1,σ=>bnd (t σ) fun c=>if c then bnd (body σ) (fun p=>match p.1 with
   | .next=>iJ t body k p.2
   | .cont=>iJ t body k p.2
   | .brk=>ret (.next,p.2)
   | .ret d=>ret (.ret d,p.2))else ret (.next,σ)
def tR:Nat:=1000000000
def tN(t:T3)(body:S3):S3:=fun σ=>iJ t body tR σ
def k9(it:I3)(g:D->St->M St)(body:S3):S3:=fun σ=>bnd (it σ) fun s=>forL s.ck (fun x σ=>bnd (g x σ) body) s.xs σ
def ix(xs:List D):List D:=xs.mapIdx fun i x=>.tup [.int (i:Int),x]
def qc(d:D):M Src:=fun G=>match d with
 | .ref n=>match G[n]? with
   |some (.lst xs)=>some (.ok ⟨ix xs,fun G'=>decide (G'[n]? =some (.lst xs))⟩,G)
   |some (.frz xs)=>some (.ok ⟨ix xs,fun G'=>decide (G'[n]? =some (.frz xs))⟩,G)
   |_=>none
 |_=>none
def CG(e:E3):I3:=fun σ=>bnd (e σ) qc
def J3:Key->D
 | .inl i=>.int i
 | .inr x=>.str x
def eO(kvs:List (Key×D)):List D:=kvs.map fun kv=>.tup [J3 kv.1,kv.2]
def uI(n:Nat)(kvs:List (Key×D))(m:M (Fl×St)):M (Fl×St):=fun G=>match m (G.set n (.dF kvs))with
 |some (.ok p,G')=>if G'[n]? =some (.dF kvs)then some (.ok p,G'.set n (.dK kvs))else none
 |_=>none
def xw(body:D->St->M (Fl×St))(σ:St)(d:D):M (Fl×St):=fun G=>match d with
 | .ref n=>match G[n]? with
   |some (.dK kvs)=>uI n kvs (forL (fun _=>true) body (eO kvs) σ) G
   |_=>none
 |_=>none
def xt(e:E3)(g:D->St->M St)(body:S3):S3:=fun σ=>bnd (e σ) (xw (fun x σ=>bnd (g x σ) body) σ)
def rb(x i v:D):M Unit:=fun G=>match x with
 | .ref n=>match G[n]? with
   |some (.dT kvs)=>match qN i with
    |some k=>if kvs.length < aA then some (.ok (),G.set n (.dT (put kvs k v)))else none
    |none=>none
   |_=>none
 |_=>none
def yG(o i e:E3):S3:=fun σ=>bnd (e σ) fun v=>bnd (o σ) fun x=>bnd (i σ) fun y=>bnd (rb x y v) fun _=>ret (.next,σ)
def AS(k v:E3):E3:=fun σ=>bnd (new (.dT [])) fun x=>bnd (k σ) fun a=>bnd (v σ) fun b=>bnd (rb x a b) fun _=>ret x
def jW(x y:D)(G:Hh):Option (Option D):=match y with
 | .ref n=>match G[n]? with
   |some (.dT kvs)=>(qN x).map (look kvs)
   |_=>none
 |_=>none
def kL(x y:D):M D:=fun G=>(jW x y G).map fun o=>(.ok (.bl (!o.isSome)),G)
def zG(x y:D):M D:=fun G=>match jW y x G with
 |some (some d)=>some (.ok d,G)
 |_=>none
def AH:E3:=fun _=>fail
def E4:S3:=fun _=>fail
def throw{α:Type}(c:Nat):M α:=fun G=>some (.exc c,G)
def mj(c:Nat)(a:A3):S3:=fun σ=>bnd (a σ) fun xs=>if xs.length<=aA then throw c else fail
def pick(c:Nat):List ((Nat->Bool)×S3)->Option S3
 | []=>none
 |(m,f) :: r=>if m c then some f else pick c r
def xE(e:E3)(k:D->St->Fl×St)(ms:List ((Nat->Bool)×S3)):S3:=fun σ G=>match e σ G with
 |some (.ok d,G')=>some (.ok (k d σ),G')
 |some (.exc c,G')=>match pick c ms with
  |some f=>f σ G'
  |none=>none
 |none=>none
theorem Dh{e:E3}{k:D->St->Fl×St}{ms:List ((Nat->Bool)×S3)}{σ:St}{G:Hh}{Q:Fl×St->Hh->Prop}{Z:Nat->Hh->Prop}(h:run (xE e k ms σ) G Q Z):
 run (e σ) G (fun d G'=>Q (k d σ) G') fun c G'=>∃f,pick c ms=some f/\run (f σ) G' Q Z:=by
 unfold run xE at*
 cases q:e σ G with
 |none=>rw[q]at h;exact h
 |some p=>
  obtain⟨o,G1⟩:=p
  rw[q]at h
  cases o with
  |ok d=>exact h
  |exc c=>
   dsimp only at h ⊢
   cases z:pick c ms with
   |none=>rw[z]at h;exact False.elim h
   |some f=>rw[z]at h;exact⟨f,rfl,h⟩
def fnM(n:Nat)(pad:St)(body:S3):List D->M D:=fun ds=>if ds.length=n then bnd (body (ds.map some++pad)) (fun p=>match p.1 with
 | .ret d=>ret d
 | .next=>ret .non
 |_=>fail)else fail
section
variable{α β:Type}{G G':Hh}{E:Nat->Hh->Prop}{σ:St}
theorem ay{m:M α}{k:α->M β}{Q:β->Hh->Prop}(h:run m G (fun a G1=>run (k a) G1 Q E) E):run (bnd m k) G Q E:=by
 unfold run bnd at*
 cases e:m G with
 |none=>rw[e]at h;exact h
 |some p=>
  obtain⟨o,G1⟩:=p
  rw[e]at h
  cases o with
  |ok a=>exact h
  |exc c=>exact h
theorem gQ{a:α}{Q:α->Hh->Prop}(h:Q a G):run (ret a) G Q E:=h
theorem w_ite{c:Bool}{m m':M α}{Q:α->Hh->Prop}(h1:c=true->run m G Q E)(h2:c=false->run m' G Q E):run (if c=true then m else m') G Q E:=by
 cases c with
 |true=>exact h1 rfl
 |false=>exact h2 rfl
theorem lR{m m':M α}{Q:α->Hh->Prop}(h1:run m G Q E):run (if true=true then m else m') G Q E:=h1
theorem nW{m m':M α}{Q:α->Hh->Prop}(h1:run m' G Q E):run (if false=true then m else m') G Q E:=h1
theorem pA{m m':M α}{Q:α->Hh->Prop}(h1:run m' G Q E):run (if (!true)=true then m else m') G Q E:=h1
theorem pk{m m':M α}{Q:α->Hh->Prop}(h1:run m G Q E):run (if (!false)=true then m else m') G Q E:=h1
theorem aD{m:M α}{Q:α->Hh->Prop}{a:α}(h:m G=some (.ok a,G'))(q:Q a G'):run m G Q E:=by
 unfold run;rw[h];exact q
variable{Q:D->Hh->Prop}{QB:Bool->Hh->Prop}{QA:List D->Hh->Prop}{QS:Fl×St->Hh->Prop}
theorem w_var{i:Nat}{d:D}(e:σ[i]? =some (some d))(h:Q d G):run (ae i σ) G Q E:=by
 unfold ae;rw[e];exact h
theorem w_c{d:D}(h:Q d G):run (eC d σ) G Q E:=h
theorem aJ{f:D->D->M D}{a b:E3}(h:run (a σ) G (fun x G1=>run (b σ) G1 (fun y G2=>run (f x y) G2 Q E) E) E):run (eOp f a b σ) G Q E:=
 ay (ao h (fun _ _ q=>ay q) fun _ _ q=>q)
theorem oi{f:D->M D}{a:E3}(h:run (a σ) G (fun x G1=>run (f x) G1 Q E) E):run (eUn f a σ) G Q E:=ay h
theorem az(h:QA [] G):run (ai σ) G QA E:=h
theorem ak{e:E3}{r:A3}(h:run (e σ) G (fun x G1=>run (r σ) G1 (fun xs G2=>QA (x :: xs) G2) E) E):run (aa e r σ) G QA E:=
 ay (ao h (fun _ _ q=>ay q) fun _ _ q=>q)
theorem xR{a:A3}(h:run (a σ) G (fun xs G1=>xs.length<=aA/\Q (.tup xs) G1) E):run (bO a σ) G Q E:=
 ay (ao h (fun _ _ q=>by rw[if_pos q.1];exact q.2) fun _ _ q=>q)
theorem Cf{a:A3}(h:run (a σ) G (fun xs G1=>xs.length<=aA/\Q (.ref G1.length) (G1++[.lst xs])) E):run (cS a σ) G Q E:=
 ay (ao h (fun _ _ q=>by rw[if_pos q.1];exact q.2) fun _ _ q=>q)
theorem bI{f:List D->M D}{a:A3}(h:run (a σ) G (fun ds G1=>run (f ds) G1 Q E) E):run (aw f a σ) G Q E:=ay h
theorem iB{e:E3}(h:run (e σ) G (fun x G1=>run (truth x) G1 QB E) E):run (tOf e σ) G QB E:=ay h
theorem gB{e:E3}(h:run (e σ) G (fun x G1=>run (asB x) G1 QB E) E):run (tB e σ) G QB E:=ay h
theorem eP{b:Bool}(h:QB b G):run (asB (.bl b)) G QB E:=h
theorem mn{b:Bool}(h:QB b G):run (truth (.bl b)) G QB E:=h
theorem ig{t:T3}(h:run (t σ) G (fun c G1=>QB (!c) G1) E):run (eX t σ) G QB E:=ay h
theorem s9{t u:T3}(h:run (t σ) G (fun c G1=>run (if c=true then u σ else ret false) G1 QB E) E):run (rk t u σ) G QB E:=ay h
theorem ox{t u:T3}(h:run (t σ) G (fun c G1=>run (if c=true then ret true else u σ) G1 QB E) E):run (tOr t u σ) G QB E:=ay h
theorem wV{a b:E3}(h:run (a σ) G (fun x G1=>run (asB x) G1 (fun c G2=>run (if c=true then b σ else ret (.bl false)) G2 Q E) E) E):run (oZ a b σ) G Q E:=
 ay (ao h (fun _ _ q=>ay q) fun _ _ q=>q)
theorem Iz{a b:E3}(h:run (a σ) G (fun x G1=>run (asB x) G1 (fun c G2=>run (if c=true then ret (.bl true)else b σ) G2 Q E) E) E):run (eOr a b σ) G Q E:=
 ay (ao h (fun _ _ q=>ay q) fun _ _ q=>q)
theorem Hv{a:E3}(h:run (a σ) G (fun x G1=>run (asB x) G1 (fun c G2=>Q (.bl (!c)) G2) E) E):run (B6 a σ) G Q E:=
 ay (ao h (fun _ _ q=>ay q) fun _ _ q=>q)
theorem Im{t:T3}{a b:E3}(h:run (t σ) G (fun c G1=>run (if c=true then a σ else b σ) G1 Q E) E):run (eIf t a b σ) G Q E:=ay h
theorem tj{i j:Int}(h:Q (.int (i+j)) G):run (eY (.int i) (.int j)) G Q E:=h
theorem zX{a b:Str}(hl:a.length+b.length<=aA)(h:Q (.str (a++b)) G):run (eY (.str a) (.str b)) G Q E:=by
 show run (if a.length+b.length<=aA then ret (D.str (a++b))else fail) G Q E
 rw[if_pos hl];exact h
theorem Cr{i j:Nat}{a b:List D}(h1:G[i]? =some (.lst a))(h2:G[j]? =some (.lst b))(hl:a.length+b.length<=aA)(h:Q (.ref G.length) (G++[.lst (a++b)])):run (eY (.ref i) (.ref j)) G Q E:=by
 refine aD (G':=G++[.lst (a++b)]) (a:= .ref G.length) ?_ h
 show (match G[i]?,G[j]? with
  |some (.lst a),some (.lst b)=>if a.length+b.length<=aA then new (.lst (a++b)) G else none
  |_,_=>none)=_
 rw[h1,h2]
 show (if a.length+b.length<=aA then new (.lst (a++b)) G else none)=_
 rw[if_pos hl];rfl
theorem HU{i j:Int}(h:Q (.int (i - j)) G):run (xg (.int i) (.int j)) G Q E:=h
theorem BD{i j:Int}(c:(small i||small j)=true)(h:Q (.int (i*j)) G):run (ff (.int i) (.int j)) G Q E:=by
 show run (if (small i||small j)=true then ret (D.int (i*j))else fail) G Q E
 rw[if_pos c];exact h
theorem GK{i j:Int}(c:small i=true)(h:Q (.int (i*j)) G):run (ff (.int i) (.int j)) G Q E:=BD (by rw[c];rfl) h
theorem GD{i j:Int}(c:small j=true)(h:Q (.int (i*j)) G):run (ff (.int i) (.int j)) G Q E:=BD (by rw[c];exact Bool.or_true _) h
theorem oq{i j:Int}(c:0 < j)(h:Q (.int (i % j)) G):run (oMod (.int i) (.int j)) G Q E:=by
 show run (if 0 < j then ret (D.int (i % j))else fail) G Q E
 rw[if_pos c];exact h
theorem JJ{i j:Int}(h:Q (.bl (decide (i < j))) G):run (oLt (.int i) (.int j)) G Q E:=h
theorem E9{i j:Int}(h:Q (.bl (decide (j < i))) G):run (oGt (.int i) (.int j)) G Q E:=h
theorem Jw{i j:Int}(h:Q (.bl (decide (j<=i))) G):run (oGe (.int i) (.int j)) G Q E:=h
theorem JB{a b:List D}{m n:List Int}(e1:intsOf a=some m)(e2:intsOf b=some n)(h:Q (.bl (oX n m)) G):run (oGt (.tup a) (.tup b)) G Q E:=by
 show run (match intsOf a,intsOf b with
  |some m,some n=>ret (.bl (oX n m))
  |_,_=>fail) G Q E
 rw[e1,e2];exact h
theorem w_eq{x y:D}{b:Bool}(e:eqG G 8 x y=some b)(h:Q (.bl b) G):run (oEq x y) G Q E:=by
 refine aD (a:= .bl b) (G':=G) ?_ h
 unfold oEq;rw[e]
theorem jy{x y:D}{b:Bool}(e:eqG G 8 x y=some b)(h:Q (.bl (!b)) G):run (oNe x y) G Q E:=by
 refine aD (a:= .bl (!b)) (G':=G) ?_ h
 unfold oNe;rw[e]
theorem Dn{x y:D}{b:Bool}(e:inG G x y=some b)(h:Q (.bl (!b)) G):run (nG x y) G Q E:=by
 refine aD (a:= .bl (!b)) (G':=G) ?_ h
 unfold nG;rw[e]
theorem bb{xs:List D}{i:Int}{d:D}(e:atI xs i=some d)(h:Q d G):run (oIx (.tup xs) (.int i)) G Q E:=by
 refine aD (a:=d) (G':=G) ?_ h
 show mW (atI xs i) G=_
 rw[e];rfl
theorem cP{n:Nat}{xs:List D}{i:Int}{d:D}(hl:G[n]? =some (.lst xs))(e:atI xs i=some d)(h:Q d G):run (oIx (.ref n) (.int i)) G Q E:=by
 refine aD (a:=d) (G':=G) ?_ h
 unfold oIx
 dsimp only
 rw[hl]
 show mW (atI xs i) G=_
 rw[e];rfl
theorem Jc{n:Nat}{xs:List D}{i:Int}{d:D}(hl:G[n]? =some (.frz xs))(e:atI xs i=some d)(h:Q d G):run (oIx (.ref n) (.int i)) G Q E:=by
 refine aD (a:=d) (G':=G) ?_ h
 unfold oIx
 dsimp only
 rw[hl]
 show mW (atI xs i) G=_
 rw[e];rfl
theorem AL{x:D}(h:Q (.bl (decide (x= .non))) G):run (nN x) G Q E:=h
theorem qj{x:D}(h:Q (.bl (!decide (x= .non))) G):run (lO x) G Q E:=h
theorem sN{z:Int}(h:Q (.bl true) G):run (bIs .int [(.int z)]) G Q E:=h
theorem sP{z:Str}(h:Q (.bl false) G):run (bIs .int [(.str z)]) G Q E:=h
theorem sR{z:List D}(h:Q (.bl false) G):run (bIs .int [(.tup z)]) G Q E:=h
theorem tV{n:Nat}{xs:List D}(hl:G[n]? =some (.lst xs))(h:Q (.bl false) G):run (bIs .int [.ref n]) G Q E:=by
 refine aD (a:= .bl false) (G':=G) ?_ h
 unfold bIs kdOf;dsimp only;rw[hl];rfl
theorem xC{z:Bool}(h:Q (.bl true) G):run (bIs .bl [(.bl z)]) G Q E:=h
theorem uB{z:Int}(h:Q (.bl false) G):run (bIs .bl [(.int z)]) G Q E:=h
theorem v9{z:Str}(h:Q (.bl false) G):run (bIs .bl [(.str z)]) G Q E:=h
theorem vJ{z:List D}(h:Q (.bl false) G):run (bIs .bl [(.tup z)]) G Q E:=h
theorem uC{n:Nat}{xs:List D}(hl:G[n]? =some (.lst xs))(h:Q (.bl false) G):run (bIs .bl [.ref n]) G Q E:=by
 refine aD (a:= .bl false) (G':=G) ?_ h
 unfold bIs kdOf;dsimp only;rw[hl];rfl
theorem mK{z:Str}(h:Q (.bl true) G):run (bIs .str [(.str z)]) G Q E:=h
theorem tu{z:List D}(h:Q (.bl false) G):run (bIs .str [(.tup z)]) G Q E:=h
theorem sY{n:Nat}{xs:List D}(hl:G[n]? =some (.lst xs))(h:Q (.bl false) G):run (bIs .str [.ref n]) G Q E:=by
 refine aD (a:= .bl false) (G':=G) ?_ h
 unfold bIs kdOf;dsimp only;rw[hl];rfl
theorem tX{z:List D}(h:Q (.bl true) G):run (bIs .tup [(.tup z)]) G Q E:=h
theorem nj{n:Nat}{xs:List D}(hl:G[n]? =some (.lst xs))(h:Q (.bl false) G):run (bIs .tup [.ref n]) G Q E:=by
 refine aD (a:= .bl false) (G':=G) ?_ h
 unfold bIs kdOf;dsimp only;rw[hl];rfl
theorem t6{z:List D}(h:Q (.bl false) G):run (bIs .lst [(.tup z)]) G Q E:=h
theorem eD{n:Nat}{xs:List D}(hl:G[n]? =some (.lst xs))(h:Q (.bl true) G):run (bIs .lst [.ref n]) G Q E:=by
 refine aD (a:= .bl true) (G':=G) ?_ h
 unfold bIs kdOf;dsimp only;rw[hl];rfl
theorem uo{z:List D}(h:Q (.bl false) G):run (bIs .dic [(.tup z)]) G Q E:=h
theorem uk{n:Nat}{xs:List D}(hl:G[n]? =some (.lst xs))(h:Q (.bl false) G):run (bIs .dic [.ref n]) G Q E:=by
 refine aD (a:= .bl false) (G':=G) ?_ h
 unfold bIs kdOf;dsimp only;rw[hl];rfl
theorem ux{xs:List D}(hl:xs.length<=aA)(h:Q (.int xs.length) G):run (di [.tup xs]) G Q E:=by
 refine aD (a:= .int xs.length) (G':=G) ?_ h
 show (if xs.length<=aA then some (Oc.ok (D.int xs.length),G)else none)=_
 rw[if_pos hl]
theorem dN{n:Nat}{xs:List D}(hl:G[n]? =some (.lst xs))(h:Q (.int xs.length) G):run (di [.ref n]) G Q E:=by
 refine aD (a:= .int xs.length) (G':=G) ?_ h
 unfold di;dsimp only;rw[hl]
theorem B0{n:Nat}{xs:List D}(hl:G[n]? =some (.frz xs))(h:Q (.int xs.length) G):run (di [.ref n]) G Q E:=by
 refine aD (a:= .int xs.length) (G':=G) ?_ h
 unfold di;dsimp only;rw[hl]
theorem pS{i:Int}(h:Q (.int (-i)) G):run (yX (.int i)) G Q E:=h
theorem Ey{o a:E3}(h:run (o σ) G (fun x G1=>run (isL x) G1 (fun _ G2=>run (a σ) G2 (fun y G3=>run (ji x y) G3 Q E) E) E) E):run (zL o a σ) G Q E:=
 ay (ao h (fun _ _ q=>ay (ao q (fun _ _ q=>ay q) fun _ _ q=>q)) fun _ _ q=>q)
theorem m4{n:Nat}{xs:List D}{QU:Unit->Hh->Prop}(hl:G[n]? =some (.lst xs))(h:QU () G):run (isL (.ref n)) G QU E:=by
 refine aD (a:=()) (G':=G) ?_ h
 unfold isL;dsimp only;rw[hl]
theorem Hm{n:Nat}{xs:List D}{m:Int}{r:List Int}(hl:G[n]? =some (.lst xs))(e:intsOf xs=some (m :: r))(h:Q (.int (jz m r)) G):run (zx [.ref n]) G Q E:=by
 refine aD (a:= .int (jz m r)) (G':=G) ?_ h
 unfold zx;dsimp only;rw[hl];dsimp only;rw[e]
theorem DH{n:Nat}{xs:List D}(hl:G[n]? =some (.lst xs))(h:Q (.ref G.length) (G++[.lst xs])):run (rT [.ref n]) G Q E:=by
 refine aD (a:= .ref G.length) (G':=G++[.lst xs]) ?_ h
 unfold rT;dsimp only;rw[hl];rfl
theorem Ae{n:Nat}{xs:List D}{y:D}(hl:G[n]? =some (.lst xs))(hz:xs.length < aA)(h:Q .non (G.set n (.lst (xs++[y])))):run (ji (.ref n) y) G Q E:=by
 refine aD (a:= .non) (G':=G.set n (.lst (xs++[y]))) ?_ h
 unfold ji;dsimp only;rw[hl];dsimp only;rw[if_pos hz]
theorem oJ{e:E3}{QI:Src->Hh->Prop}(h:run (e σ) G (fun x G1=>run (srcOf x) G1 QI E) E):run (iOf e σ) G QI E:=ay h
theorem fv{n:Nat}{xs:List D}{QI:Src->Hh->Prop}(hl:G[n]? =some (.lst xs))(h:QI ⟨xs,fun G'=>decide (G'[n]? =some (.lst xs))⟩ G):run (srcOf (.ref n)) G QI E:=by
 refine aD (G':=G) ?_ h
 unfold srcOf;dsimp only;rw[hl]
theorem kS{a:E3}{QI:Src->Hh->Prop}(h:run (a σ) G (fun x G1=>run (DT x) G1 QI E) E):run (gs a σ) G QI E:=ay h
theorem mU{i:Int}{n k:Nat}{x:D}(h:(rng i n)[k]? =some x):x= .int (i+k)/\k < n:=by
 unfold rng at h
 rw[qQ_]at h
 by_cases hk:k < n
 · rw[List.getElem?_range hk]at h
   simp at h
   exact⟨h.symm,hk⟩
 · rw[List.getElem?_eq_none (by simpa using hk)]at h
   cases h
theorem pB{i:Int}{n:Nat}:(rng i n).length=n:=by simp [rng]
theorem jd{ck:Hh->Bool}{cond:D->M Bool}{elt:D->M D}{xs:List D}(P:Nat->List D->Hh->Prop)
 (hck:∀i acc G,P i acc G->ck G=true)
 (hs:∀i x acc G,xs[i]? =some x->P i acc G->run (cond x) G (fun c G1=>if c=true then run (elt x) G1 (fun y G2=>acc.length < aA/\P (i+1) (acc++[y]) G2) E else P (i+1) acc G1) E)
 (hd:∀acc G,P xs.length acc G->QA acc G):∀(r:List D) (i:Nat) (acc:List D) (G:Hh),xs.drop i=r->i<=xs.length->P i acc G->run (bX ck cond elt r acc) G QA E
 | [],i,acc,G,e,hi,p=>by
   have hl:i=xs.length:=by
    have:=congrArg List.length e
    simp at this
    omega
   subst hl
   refine aD (G':=G) (a:=acc) ?_ (hd acc G p)
   unfold bX;rw[if_pos (hck _ _ _ p)]
 |x :: r,i,acc,G,e,hi,p=>by
  have hx:xs[i]? =some x:=by
   have:=congrArg (fun l=>l[0]?) e
   simpa using this
  have hlt:i < xs.length:=(qB_.mp hx).1
  have er:xs.drop (i+1)=r:=by
   have:=congrArg List.tail e
   simpa using this
  have key:run (bnd (cond x) (fun c=>if c=true then bnd (elt x) (fun y=>if acc.length < aA then bX ck cond elt r (acc++[y])else fail)else bX ck cond elt r acc)) G QA E:=by
   refine ay (ao (hs i x acc G hx p) (fun c G1 q=>?_) fun _ _ q=>q)
   cases c with
   |false=>exact jd P hck hs hd r (i+1) acc G1 er hlt q
   |true=>
    refine ay (ao q (fun y G2 q2=>?_) fun _ _ q=>q)
    rw[if_pos q2.1]
    exact jd P hck hs hd r (i+1) (acc++[y]) G2 er hlt q2.2
  unfold run at key ⊢
  rw[show bX ck cond elt (x :: r) acc G=bnd (cond x) (fun c=>if c=true then bnd (elt x) (fun y=>if acc.length < aA then bX ck cond elt r (acc++[y])else fail)else bX ck cond elt r acc) G by
   conv=>lhs;unfold bX
   rw[if_pos (hck _ _ _ p)]]
  exact key
theorem tU{it:I3}{cap:List Nat}{cond:T3}{elt:E3}
 (h:run (it σ) G (fun s G1=>run (bX s.ck (fun x=>cond (some x :: dU σ cap)) (fun x=>elt (some x :: dU σ cap)) s.xs []) G1 (fun ys G2=>Q (.ref G2.length) (G2++[.lst ys])) E) E):run (fT it cap cond elt σ) G Q E:=
 ay (ao h (fun s G1 q=>ay q) fun _ _ q=>q)
def sK(b:S3)(r:Fl×St):M (Fl×St):=match r.1 with
 | .next=>b r.2
 |f=>ret (f,r.2)
theorem aB{a b:S3}(h:run (a σ) G (fun r G1=>run (sK b r) G1 QS E) E):run (aq a b σ) G QS E:=ay h
theorem w_next{b:S3}{σ':St}(h:run (b σ') G QS E):run (sK b (.next,σ')) G QS E:=h
theorem Gr{b:S3}{σ':St}{d:D}(h:QS (.ret d,σ') G):run (sK b (.ret d,σ')) G QS E:=h
theorem jx(h:QS (.next,σ) G):run (aW σ) G QS E:=h
theorem bq{i:Nat}{e:E3}(h:run (e σ) G (fun d G1=>QS (.next,σ.set i (some d)) G1) E):run (bx i e σ) G QS E:=ay h
theorem ER{is:List Nat}{e:E3}(h:run (e σ) G (fun d G1=>run (gUn is d σ) G1 (fun σ' G2=>QS (.next,σ') G2) E) E):run (sUn is e σ) G QS E:=
 ay (ao h (fun _ _ q=>ay q) fun _ _ q=>q)
theorem BU{is:List Nat}{ds:List D}{σ':St}{QG:St->Hh->Prop}(e:lY is ds σ=some σ')(h:QG σ' G):run (gUn is (.tup ds) σ) G QG E:=by
 show run (match lY is ds σ with
  |some σ'=>ret σ'
  |none=>fail) G QG E
 rw[e];exact h
theorem dO{e:E3}(h:run (e σ) G (fun _ G1=>QS (.next,σ) G1) E):run (b7 e σ) G QS E:=ay h
theorem bE{e:E3}(h:run (e σ) G (fun d G1=>QS (.ret d,σ) G1) E):run (aC e σ) G QS E:=ay h
theorem cK{t:T3}{a b:S3}(h:run (t σ) G (fun c G1=>run (if c=true then a σ else b σ) G1 QS E) E):run (sIf t a b σ) G QS E:=ay h
theorem qI{ck:Hh->Bool}{body:D->St->M (Fl×St)}{xs:List D}(P:Nat->St->Hh->Prop)
 (hck:∀i σ G,P i σ G->ck G=true)
 (hs:∀i x σ G,xs[i]? =some x->P i σ G->run (body x σ) G (fun p G1=>match p.1 with
   | .next=>P (i+1) p.2 G1
   | .cont=>P (i+1) p.2 G1
   | .brk=>QS (.next,p.2) G1
   | .ret d=>QS (.ret d,p.2) G1) E)
 (hd:∀σ G,P xs.length σ G->QS (.next,σ) G):∀(r:List D) (i:Nat) (σ:St) (G:Hh),xs.drop i=r->i<=xs.length->P i σ G->run (forL ck body r σ) G QS E
 | [],i,σ,G,e,hi,p=>by
   have hl:i=xs.length:=by
    have:=congrArg List.length e
    simp at this
    omega
   subst hl
   refine aD (G':=G) (a:=(.next,σ)) ?_ (hd σ G p)
   unfold forL;rw[if_pos (hck _ _ _ p)]
 |x :: r,i,σ,G,e,hi,p=>by
  have hx:xs[i]? =some x:=by
   have:=congrArg (fun l=>l[0]?) e
   simpa using this
  have hlt:i < xs.length:=(qB_.mp hx).1
  have er:xs.drop (i+1)=r:=by
   have:=congrArg List.tail e
   simpa using this
  have key:run (bnd (body x σ) (fun p=>match p.1 with
   | .next=>forL ck body r p.2
   | .cont=>forL ck body r p.2
   | .brk=>ret (.next,p.2)
   | .ret d=>ret (.ret d,p.2))) G QS E:=by
   refine ay (ao (hs i x σ G hx p) (fun c G1 q=>?_) fun _ _ q=>q)
   obtain⟨f,σ1⟩:=c
   cases f with
   |next=>exact qI P hck hs hd r (i+1) σ1 G1 er hlt q
   |cont=>exact qI P hck hs hd r (i+1) σ1 G1 er hlt q
   |brk=>exact q
   |ret d=>exact q
  unfold run at key ⊢
  rw[show forL ck body (x :: r) σ G=bnd (body x σ) (fun p=>match p.1 with
   | .next=>forL ck body r p.2
   | .cont=>forL ck body r p.2
   | .brk=>ret (.next,p.2)
   | .ret d=>ret (.ret d,p.2)) G by
   conv=>lhs;unfold forL
   rw[if_pos (hck _ _ _ p)]
   all_goals rfl]
  exact key
theorem yz{it:I3}{g:D->St->M St}{body:S3}(h:run (it σ) G (fun s G1=>run (forL s.ck (fun x σ=>bnd (g x σ) body) s.xs σ) G1 QS E) E):run (k9 it g body σ) G QS E:=ay h
theorem lB{i:Nat}{d:D}{QG:St->Hh->Prop}(h:QG (σ.set i (some d)) G):run (gNm i d σ) G QG E:=h
def fK(p:Fl×St):M D:=match p.1 with
 | .ret d=>ret d
 | .next=>ret .non
 |_=>fail
theorem Dl{n:Nat}{pad:St}{body:S3}{ds:List D}(hl:ds.length=n)(h:run (body (ds.map some++pad)) G (fun p G1=>run (fK p) G1 Q E) E):run (fnM n pad body ds) G Q E:=by
 unfold fnM
 rw[if_pos hl]
 exact ay h
theorem kC{d:D}{σ':St}(h:Q d G):run (fK (.ret d,σ')) G Q E:=h
theorem sZ{σ':St}(h:Q .non G):run (fK (.next,σ')) G Q E:=h
end
section
variable{α β:Type}{G G':Hh}{E:Nat->Hh->Prop}{σ:St}
variable{Q:D->Hh->Prop}{QB:Bool->Hh->Prop}{QA:List D->Hh->Prop}{QS:Fl×St->Hh->Prop}{QU:Unit->Hh->Prop}
theorem C7{c:Nat}{a:A3}(h:run (a σ) G (fun xs G1=>xs.length<=aA/\E c G1) E):run (mj c a σ) G QS E:=
 ay (ao h (fun xs G1 ⟨l,q⟩=>by show run (if xs.length<=aA then throw c else fail) G1 QS E;rw[if_pos l];exact q) fun _ _ z=>z)
theorem IB{e:E3}{k:D->St->Fl×St}{ms:List ((Nat->Bool)×S3)}(h:run (e σ) G (fun d G'=>QS (k d σ) G') fun c G'=>∃f,pick c ms=some f/\run (f σ) G' QS E):run (xE e k ms σ) G QS E:=by
 unfold run xE at*
 cases q:e σ G with
 |none=>rw[q]at h;exact h
 |some p=>
  obtain⟨o,G1⟩:=p
  rw[q]at h
  cases o with
  |ok d=>exact h
  |exc c=>
   obtain⟨f,hf,hr⟩:=h
   dsimp only
   rw[hf]
   exact hr
theorem w_fld{o:E3}{f:Nat}(h:run (o σ) G (fun x G1=>run (Bj x f) G1 Q E) E):run (aU o f σ) G Q E:=ay h
theorem bc{n C f:Nat}{fs:List (Nat×D)}{d:D}(hn:G[n]? =some (.ins C fs))(hC:C < 1000)(hf:fs.lookup f=some d)(h:Q d G):run (Bj (.ref n) f) G Q E:=by
 unfold run Bj
 dsimp only
 rw[hn]
 dsimp only
 rw[if_pos hC,hf]
 exact h
theorem GY{n C f:Nat}{fs:List (Nat×D)}{y:D}(hn:G[n]? =some (.ins C fs))(hl:C < 1000/\fs.length < 1000)(h:QU () (G.set n (.ins C (putN f y fs)))):run (zS (.ref n) f y) G QU E:=by
 unfold run zS
 dsimp only
 rw[hn]
 dsimp only
 rw[if_pos hl]
 exact h
theorem bR{n C:Nat}{fs:List (Nat×D)}(hn:G[n]? =some (.ins C fs))(h:QU () G):run (isC C (.ref n)) G QU E:=by
 unfold run isC
 dsimp only
 rw[hn]
 dsimp only
 rw[if_pos rfl]
 exact h
theorem fy{o e:E3}{f:Nat}(h:run (e σ) G (fun y G1=>run (o σ) G1 (fun x G2=>run (zS x f y) G2 (fun _ G3=>QS (.next,σ) G3) E) E) E):run (bw o f e σ) G QS E:=
 ay (ao h (fun y G1 q=>ay (ao q (fun x G2 q=>ay q) fun _ _ z=>z)) fun _ _ z=>z)
theorem bh{C:Nat}{g:List D->M D}{o:E3}{a:A3}(h:run (o σ) G (fun x G1=>run (isC C x) G1 (fun _ G2=>run (a σ) G2 (fun ds G3=>run (g (x :: ds)) G3 Q E) E) E) E):run (aH C g o a σ) G Q E:=
 ay (ao h (fun x G1 q=>ay (ao q (fun _ G2 q=>ay q) fun _ _ z=>z)) fun _ _ z=>z)
theorem F5{C:Nat}{g:List D->M D}{a:A3}(h:run (a σ) G (fun ds G1=>run (g (.ref G1.length :: ds)) (G1++[.ins C []]) (fun r G2=>r= .non/\Q (.ref G1.length) G2) E) E):run (jq C g a σ) G Q E:=
 ay (ao h (fun ds G1 q=>ay (show run (bnd (g (.ref G1.length :: ds)) fun r=>bnd (xO r) fun _=>ret (D.ref G1.length)) (G1++[.ins C []]) Q E from ay (ao q (fun r G2 ⟨e,q⟩=>by subst e;exact q) fun _ _ z=>z))) fun _ _ z=>z)
theorem Gp{o i e:E3}(h:run (e σ) G (fun v G1=>run (o σ) G1 (fun x G2=>run (i σ) G2 (fun y G3=>run (yM x y v) G3 (fun _ G4=>QS (.next,σ) G4) E) E) E) E):run (xX o i e σ) G QS E:=
 ay (ao h (fun v G1 q=>ay (ao q (fun x G2 q=>ay (ao q (fun y G3 q=>ay q) fun _ _ z=>z)) fun _ _ z=>z)) fun _ _ z=>z)
theorem Hj{n:Nat}{kvs:List (Key×D)}{i v:D}{k:Key}(hn:G[n]? =some (.dK kvs))(hk:pQ i=some k)(hl:kvs.length < aA)(h:QU () (G.set n (.dK (put kvs k v)))):run (yM (.ref n) i v) G QU E:=by
 unfold run yM
 dsimp only
 rw[hn]
 dsimp only
 rw[hk]
 dsimp only
 rw[if_pos hl]
 exact h
theorem Fc{n:Nat}{kvs:List (Key×D)}{i d:D}{k:Key}(hn:G[n]? =some (.dK kvs))(hk:pQ i=some k)(e:look kvs k=some d)(h:Q d G):run (oIx (.ref n) i) G Q E:=by
 unfold run oIx
 dsimp only
 rw[hn]
 cases i with
 |int z=>dsimp only;rw[hk];dsimp only;rw[e];exact h
 |str z=>dsimp only;rw[hk];dsimp only;rw[e];exact h
 |_=>cases hk
theorem uN{o a:E3}(h:run (o σ) G (fun x G1=>run (isL x) G1 (fun _ G2=>run (a σ) G2 (fun y G3=>run (iQ x y) G3 Q E) E) E) E):run (uO o a σ) G Q E:=
 ay (ao h (fun x G1 q=>ay (ao q (fun _ G2 q=>ay q) fun _ _ z=>z)) fun _ _ z=>z)
theorem yY{n m:Nat}{xs ys:List D}(hn:G[n]? =some (.lst xs))(hm:G[m]? =some (.lst ys))(hl:xs.length+ys.length<=aA)(h:Q .non (G.set n (.lst (xs++ys)))):run (iQ (.ref n) (.ref m)) G Q E:=by
 unfold run iQ
 dsimp only
 rw[hn,hm]
 dsimp only
 rw[if_pos hl]
 exact h
theorem yE{o a:E3}(h:run (o σ) G (fun x G1=>run (isL x) G1 (fun _ G2=>run (a σ) G2 (fun y G3=>run (mf x y) G3 Q E) E) E) E):run (tM o a σ) G Q E:=
 ay (ao h (fun x G1 q=>ay (ao q (fun _ G2 q=>ay q) fun _ _ z=>z)) fun _ _ z=>z)
theorem AQ{n k:Nat}{xs:List D}{i:Int}{y:D}(hn:G[n]? =some (.lst xs))(hk:ixN xs.length i=some k)(hy:xs[k]? =some y)(hi:-(2 ^ 62)<=i/\i < 2 ^ 62)(h:Q y (G.set n (.lst (xs.eraseIdx k)))):run (mf (.ref n) (.int i)) G Q E:=by
 unfold run mf
 dsimp only
 rw[hn]
 dsimp only
 rw[hk]
 dsimp only
 rw[hy]
 dsimp only
 rw[if_pos hi]
 exact h
theorem HM{o:E3}(h:run (o σ) G (fun x G1=>run (vZ x) G1 Q E) E):run (AG o σ) G Q E:=ay h
theorem CP{n:Nat}{kvs:List (Key×D)}(hn:G[n]? =some (.dK kvs))(h:Q (.ref G.length) (G++[.lst (kvs.map (·.2))])):run (vZ (.ref n)) G Q E:=by
 unfold run vZ
 dsimp only
 rw[hn]
 exact h
theorem Ju{e:E3}{lo hi:P3}(h:run (e σ) G (fun x G1=>run (lo σ) G1 (fun l G2=>run (hi σ) G2 (fun r G3=>run (oSl x l r) G3 Q E) E) E) E):run (eSl e lo hi σ) G Q E:=
 ay (ao h (fun x G1 q=>ay (ao q (fun l G2 q=>ay q) fun _ _ z=>z)) fun _ _ z=>z)
end
end M3
namespace L3
open PySem PySem.Spec PyProof.Rows L2
structure Tab where
 cls:Nat->Option Addr
 nm:Nat->Str
mutual
def Den(K:PySem.W.Frag)(H:Hp)(μ:List Addr):M3.D->V->Prop
 | .non,v=>v= .non
 | .bl b,v=>v= .bl b
 | .int i,v=>v= .int i
 | .str x,v=>v= .str x
 | .ref n,v=>∃a,μ[n]? =some a/\v= .ref a
 | .tup ds,v=>∃a vs,v= .ref a/\SqT K H a vs/\ax K H μ ds vs
def ax(K:PySem.W.Frag)(H:Hp)(μ:List Addr):List M3.D->List V->Prop
 | [],vs=>vs=[]
 |d :: ds,vs=>∃v r,vs=v :: r/\Den K H μ d v/\ax K H μ ds r
end
structure Keeps (H H':Hp):Prop where
 tup:∀b xs,H b=some (.tup xs)->H' b=some (.tup xs)
 frz:∀b o u,H b=some (.frz o u)->H' b=some (.frz o u)
theorem Keeps.refl(H:Hp):Keeps H H:=⟨fun _ _ h=>h,fun _ _ _ h=>h⟩
theorem Keeps.trans{A B C:Hp}(a:Keeps A B)(b:Keeps B C):Keeps A C:=⟨fun _ _ h=>b.tup _ _ (a.tup _ _ h),fun _ _ _ h=>b.frz _ _ _ (a.frz _ _ _ h)⟩
theorem Keeps.of_same{H H':Hp}(h:fO H H'):Keeps H H':=⟨fun _ _ e=>h _ _ e,fun _ _ _ e=>h _ _ e⟩
theorem fO.new{H:Hp}{p:Addr}(o:HO)(h:H p=none):fO H (upd H p o):=fun b u e=>by rw[aE (cj e h)];exact e
theorem Keeps.write{H:Hp}{a:Addr}{o o':HO}(h:H a=some o)(ht:∀xs,o≠.tup xs)(hf:∀q u,o≠.frz q u):Keeps H (upd H a o'):=
 ⟨fun b xs e=>by rw[aE (Bg e h (fun z=>ht xs z.symm))];exact e,fun b q u e=>by rw[aE (Bg e h (fun z=>hf q u z.symm))];exact e⟩
theorem SqT.keeps{K:PySem.W.Frag}{H H':Hp}{a:Addr}{xs:List V}(k:Keeps H H')(h:SqT K H a xs):SqT K H' a xs:=by
 rcases h with (h |⟨o,h⟩) |h
 · exact .inl (.inl (k.tup _ _ h))
 · exact .inl (.inr ⟨o,k.frz _ _ _ h⟩)
 · exact .inr h
def SqF(K:PySem.W.Frag)(H:Hp)(a:Addr)(xs:List V):Prop:=
 (∃o,H a=some (.frz o (.lst xs)))\/
   ∃(o:Obj) (its:Array Value) (n:Nat),K.lookup a=some o/\o.cls= .type "list"/\o.dict=none/\o.data= .seq its n/\its.size<=sizeLine/\Vals xs its.toList
theorem SqF.keeps{K:PySem.W.Frag}{H H':Hp}{a:Addr}{xs:List V}(k:Keeps H H')(h:SqF K H a xs):SqF K H' a xs:=by
 rcases h with ⟨o,h⟩ |h
 · exact .inl ⟨o,k.frz _ _ _ h⟩
 · exact .inr h
theorem SqF.sq{K:PySem.W.Frag}{H:Hp}{a:Addr}{xs:List V}(h:SqF K H a xs):SqL K H a xs:=by
 rcases h with ⟨o,h⟩ |h
 · exact .inl (.inr ⟨o,h⟩)
 · exact .inr h
structure Up (μ μ':List Addr) (H H':Hp):Prop where
 pre:μ <+: μ'
 keeps:Keeps H H'
 rest:∀b o,H b=some o->b∉μ->H' b=some o/\b∉μ'
theorem Up.refl(μ:List Addr)(H:Hp):Up μ μ H H:=⟨List.prefix_refl _,Keeps.refl _,fun _ _ h n=>⟨h,n⟩⟩
theorem Up.trans{μ μ1 μ2:List Addr}{H H1 H2:Hp}(a:Up μ μ1 H H1)(b:Up μ1 μ2 H1 H2):Up μ μ2 H H2:=⟨a.pre.trans b.pre,a.keeps.trans b.keeps,fun c o h n=>let ⟨h1,n1⟩:=a.rest c o h n;b.rest c o h1 n1⟩
theorem Up.same{μ:List Addr}{H H':Hp}(h:fO H H'):Up μ μ H H':=⟨List.prefix_refl _,Keeps.of_same h,fun c o e n=>⟨h c o e,n⟩⟩
theorem Up.new{μ:List Addr}{H:Hp}{p:Addr}(u:HO)(hp:H p=none):Up μ (μ++[p]) H (upd H p u):=⟨⟨[p],rfl⟩,Keeps.of_same (fO.new u hp),fun c o e n=>⟨fO.new u hp c o e,fun z=>by
 rcases qG_.mp z with z |z
 · exact n z
 · simp at z;subst z;rw[hp]at e;cases e⟩⟩
theorem Up.uE{μ:List Addr}{H:Hp}{a:Addr}{o o':HO}{n:Nat}(ea:μ[n]? =some a)(h:H a=some o)(ht:∀xs,o≠.tup xs)(hf:∀q u,o≠.frz q u):Up μ μ H (upd H a o'):=
 ⟨List.prefix_refl _,Keeps.write h ht hf,fun c u e nc=>⟨by rw[aE (by rintro rfl;exact nc (qD_ ea))];exact e,nc⟩⟩
theorem Up.at{μ μ':List Addr}{H H':Hp}(u:Up μ μ' H H'){n:Nat}{a:Addr}(h:μ[n]? =some a):μ'[n]? =some a:=by
 obtain⟨r,rfl⟩:=u.pre
 rw[qK_ (qB_.mp h).1]
 exact h
theorem Fw{μ μ':List Addr}(u:μ <+: μ'){n:Nat}{a:Addr}(h:μ[n]? =some a):μ'[n]? =some a:=by
 obtain⟨r,rfl⟩:=u
 rw[qK_ (qB_.mp h).1]
 exact h
mutual
theorem Den.mono{K:PySem.W.Frag}{μ μ':List Addr}{H H':Hp}(p:μ <+: μ')(k:Keeps H H'):∀{d:M3.D} {v:V},Den K H μ d v->Den K H' μ' d v
 | .non,_,h=>h
 | .bl _,_,h=>h
 | .int _,_,h=>h
 | .str _,_,h=>h
 | .ref _,_,⟨a,e,h⟩=>⟨a,Fw p e,h⟩
 | .tup ds,_,⟨a,vs,e,h,r⟩=>⟨a,vs,e,SqT.keeps k h,ax.mono p k r⟩
theorem ax.mono{K:PySem.W.Frag}{μ μ':List Addr}{H H':Hp}(p:μ <+: μ')(k:Keeps H H'):∀{ds:List M3.D} {vs:List V},ax K H μ ds vs->ax K H' μ' ds vs
 | [],_,h=>h
 |_ :: _,_,⟨v,r,e,h,t⟩=>⟨v,r,e,Den.mono p k h,ax.mono p k t⟩
end
theorem Den.up{K:PySem.W.Frag}{μ μ':List Addr}{H H':Hp}(u:Up μ μ' H H'){d:M3.D}{v:V}(h:Den K H μ d v):Den K H' μ' d v:=Den.mono u.pre u.keeps h
theorem ax.up{K:PySem.W.Frag}{μ μ':List Addr}{H H':Hp}(u:Up μ μ' H H'){ds:List M3.D}{vs:List V}(h:ax K H μ ds vs):ax K H' μ' ds vs:=ax.mono u.pre u.keeps h
theorem ax.length{K:PySem.W.Frag}{μ:List Addr}{H:Hp}:∀{ds:List M3.D} {vs:List V},ax K H μ ds vs->ds.length=vs.length
 | [],_,h=>by cases (show _=[]from h);rfl
 |_ :: _,_,⟨v,r,e,_,t⟩=>by subst e;simp [ax.length t]
theorem ax.get{K:PySem.W.Frag}{μ:List Addr}{H:Hp}:∀{ds:List M3.D} {vs:List V} {i:Nat} {d:M3.D},ax K H μ ds vs->ds[i]? =some d->∃v,vs[i]? =some v/\Den K H μ d v
 | [],_,_,_,_,e=>by simp at e
 |d :: ds,_,0,d',⟨v,r,e,h,t⟩,q=>by
  subst e
  simp at q
  subst q
  exact⟨v,rfl,h⟩
 |d :: ds,_,i+1,d',⟨v,r,e,h,t⟩,q=>by
  subst e
  obtain⟨w,h1,h2⟩:=ax.get (i:=i) t (by simpa using q)
  exact⟨w,by simpa using h1,h2⟩
theorem ax.get'{K:PySem.W.Frag}{μ:List Addr}{H:Hp}{ds:List M3.D}{vs:List V}{i:Nat}{v:V}(h:ax K H μ ds vs)(e:vs[i]? =some v):∃d,ds[i]? =some d/\Den K H μ d v:=by
 have hl:i < ds.length:=by rw[h.length];exact(qB_.mp e).1
 obtain⟨w,e1,h1⟩:=ax.get h (qA_ hl)
 rw[e]at e1
 cases e1
 exact⟨_,qA_ hl,h1⟩
theorem ax.append{K:PySem.W.Frag}{μ:List Addr}{H:Hp}:∀{ds es:List M3.D} {vs ws:List V},ax K H μ ds vs->ax K H μ es ws->ax K H μ (ds++es) (vs++ws)
 | [],_,_,_,h,t=>by cases (show _=[]from h);exact t
 |_ :: _,_,_,_,⟨v,r,e,h,t⟩,s=>by subst e;exact⟨v,r++_,rfl,h,ax.append t s⟩
theorem ax.one{K:PySem.W.Frag}{μ:List Addr}{H:Hp}{d:M3.D}{v:V}(h:Den K H μ d v):ax K H μ [d] [v]:=⟨v,[],rfl,h,rfl⟩
theorem ax.ints{K:PySem.W.Frag}{μ:List Addr}{H:Hp}:∀{ns:List Int} {vs:List V},ax K H μ (ns.map M3.D.int) vs->vs=ns.map V.int
 | [],_,h=>h
 |n :: ns,_,⟨v,r,e,h,t⟩=>by
  subst e
  have e1:v=V.int n:=h
  rw[e1,ax.ints t];rfl
theorem ax.s8{K:PySem.W.Frag}{μ:List Addr}{H:Hp}:∀{ns:List Int},ax K H μ (ns.map M3.D.int) (ns.map V.int)
 | []=>rfl
 |n :: ns=>⟨_,_,rfl,rfl,ax.s8⟩
def isF:M3.O->Bool
 | .frz _=>true
 |_=>false
def isW:M3.O->Bool
 | .frz _=>false
 | .dF _=>false
 |_=>true
theorem isW.nf{o:M3.O}(h:isW o=true):isF o=false:=by cases o <;> first |rfl |cases h
def J4(x:List Int×Addr×Value):DictEntry:=⟨reduceHash (Builtin.Tuple.tupleHashOf (x.1.map hashInt)),.ref x.2.1,x.2.2⟩
def mq(a:Addr)(xs:List (List Int×Addr×Value))(h:Heap):Prop:=(a==sysModules)=false/\xs.length<=sizeLine/\∃o es ep,h.get? a=some o/\o.ExactDict/\o.data= .dict es ep/\es.toList=xs.map J4/\(xs.map (·.1)).Nodup
def ObD(T:Tab)(K:PySem.W.Frag)(H:Hp)(μ:List Addr):M3.O->Addr->Prop
 | .lst xs,a=>∃vs,H a=some (.lst vs)/\ax K H μ xs vs
 | .frz xs,a=>∃vs,SqF K H a vs/\ax K H μ xs vs
 | .dK kvs,a=>∃ws,H a=some (.dK ws)/\Paired (fun(p:M3.Key×M3.D) (q:L2.Key×V)=>p.1=q.1/\Den K H μ p.2 q.2) kvs ws
 | .dF kvs,a=>∃ob ws,H a=some (.frz ob (.dK ws))/\Paired (fun(p:M3.Key×M3.D) (q:L2.Key×V)=>p.1=q.1/\Den K H μ p.2 q.2) kvs ws
 | .dT kvs,a=>∃xs,H a=some (.ext (mq a xs))/\Paired (fun(p:List Int×M3.D) (q:List Int×Addr×Value)=>p.1=q.1/\SqT K H q.2.1 (p.1.map V.int)/\∃v,Den K H μ p.2 v/\RelV v q.2.2) kvs xs
 | .ins C fs,a=>∃Ca dx ws,T.cls C=some Ca/\H a=some (.ins Ca dx ws)/\Paired (fun(p:Nat×M3.D) (q:Str×V)=>q.1=T.nm p.1/\Den K H μ p.2 q.2) fs ws
structure Sim (T:Tab) (K:PySem.W.Frag) (μ:List Addr) (H:Hp) (G:M3.Hh):Prop where
 len:μ.length=G.length
 obj:∀(n:Nat) a o,μ[n]? =some a->G[n]? =some o->ObD T K H μ o a
 inj:∀(n m:Nat) a o o',n≠m->μ[n]? =some a->μ[m]? =some a->G[n]? =some o->G[m]? =some o'->isF o=true\/isF o'=true
theorem ObD.some_of{T:Tab}{K:PySem.W.Frag}{μ:List Addr}{H:Hp}{o:M3.O}{a:Addr}(h:ObD T K H μ o a)(hf:isW o=true):∃u,H a=some u/\(∀xs,u≠.tup xs)/\∀q w,u≠.frz q w:=by
 cases o with
 |lst xs=>obtain⟨vs,e,_⟩:=h;exact⟨_,e,(fun _ z=>nomatch z),fun _ _ z=>nomatch z⟩
 |frz xs=>cases hf
 |dK kvs=>obtain⟨vs,e,_⟩:=h;exact⟨_,e,(fun _ z=>nomatch z),fun _ _ z=>nomatch z⟩
 |dF kvs=>cases hf
 |dT kvs=>obtain⟨vs,e,_⟩:=h;exact⟨_,e,(fun _ z=>nomatch z),fun _ _ z=>nomatch z⟩
 |ins C fs=>obtain⟨Ca,dx,ws,_,e,_⟩:=h;exact⟨_,e,(fun _ z=>nomatch z),fun _ _ z=>nomatch z⟩
theorem ObD.live{T:Tab}{K:PySem.W.Frag}{μ:List Addr}{H:Hp}{o:M3.O}{a:Addr}(h:ObD T K H μ o a)(hf:isF o=false):∃u,H a=some u:=by
 cases o with
 |frz xs=>cases hf
 |dF kvs=>obtain⟨ob,ws,e,_⟩:=h;exact⟨_,e⟩
 |lst xs=>obtain⟨u,e,_⟩:=h.some_of rfl;exact⟨u,e⟩
 |dK xs=>obtain⟨u,e,_⟩:=h.some_of rfl;exact⟨u,e⟩
 |dT xs=>obtain⟨u,e,_⟩:=h.some_of rfl;exact⟨u,e⟩
 |ins C fs=>obtain⟨u,e,_⟩:=h.some_of rfl;exact⟨u,e⟩
theorem ObD.mono{T:Tab}{K:PySem.W.Frag}{μ μ':List Addr}{H H':Hp}{o:M3.O}{a:Addr}(h:ObD T K H μ o a)(p:μ <+: μ')(k:Keeps H H')(e:∀x,H a=some x->H' a=some x):ObD T K H' μ' o a:=by
 cases o with
 |lst xs=>obtain⟨vs,q,r⟩:=h;exact⟨vs,e _ q,ax.mono p k r⟩
 |frz xs=>obtain⟨vs,q,r⟩:=h;exact⟨vs,SqF.keeps k q,ax.mono p k r⟩
 |dK kvs=>obtain⟨vs,q,r⟩:=h;exact⟨vs,e _ q,Paired.imp' (fun _ _ z=>⟨z.1,Den.mono p k z.2⟩) r⟩
 |dF kvs=>obtain⟨ob,vs,q,r⟩:=h;exact⟨ob,vs,e _ q,Paired.imp' (fun _ _ z=>⟨z.1,Den.mono p k z.2⟩) r⟩
 |dT kvs=>obtain⟨vs,q,r⟩:=h;exact⟨vs,e _ q,Paired.imp' (fun _ _ z=>⟨z.1,SqT.keeps k z.2.1,let ⟨v,x,y⟩:=z.2.2;⟨v,Den.mono p k x,y⟩⟩) r⟩
 |ins C fs=>obtain⟨Ca,dx,ws,c,q,r⟩:=h;exact⟨Ca,dx,ws,c,e _ q,Paired.imp' (fun _ _ z=>⟨z.1,Den.mono p k z.2⟩) r⟩
theorem ObD.gO{T:Tab}{K:PySem.W.Frag}{μ μ':List Addr}{H H':Hp}{o:M3.O}{a:Addr}(h:ObD T K H μ o a)(u:Up μ μ' H H')(e:∀x,H a=some x->H' a=some x):ObD T K H' μ' o a:=h.mono u.pre u.keeps e
section
variable{T:Tab}{K:PySem.W.Frag}{μ:List Addr}{H H':Hp}{G:M3.Hh}
theorem Sim.same(S:Sim T K μ H G)(h:fO H H'):Sim T K μ H' G:=
 ⟨S.len,fun n a o e1 e2=>(S.obj n a o e1 e2).gO (Up.same h) (h a),S.inj⟩
theorem Sim.new(S:Sim T K μ H G){p:Addr}{u:HO}{o:M3.O}(hp:H p=none)(hf:isF o=false)(ho:ObD T K (upd H p u) (μ++[p]) o p):Sim T K (μ++[p]) (upd H p u) (G++[o]):=by
 have sm:=fO.new u hp
 have up:Up μ (μ++[p]) H (upd H p u):=Up.new u hp
 have old:∀(n:Nat) a o',(μ++[p])[n]? =some a->(G++[o])[n]? =some o'->(μ[n]? =some a/\G[n]? =some o')\/(n=G.length/\a=p/\o'=o):=by
  intro n a o' e1 e2
  by_cases h:n < G.length
  · rw[qK_ (by rw[S.len];exact h)]at e1
    rw[qK_ h]at e2
    exact .inl ⟨e1,e2⟩
  · have hn:n=G.length:=by
     have:=(qB_.mp e2).1
     rw[qN_]at this
     simp at this
     omega
    subst hn
    rw[<-S.len]at e1
    simp at e1 e2
    exact .inr ⟨rfl,e1.symm,e2.symm⟩
 have free:∀(n:Nat) a o',μ[n]? =some a->G[n]? =some o'->isF o'=false->a≠p:=by
  intro n a o' e1 e2 hf'
  obtain⟨w,hw⟩:=(S.obj n a o' e1 e2).live hf'
  exact cj hw hp
 refine⟨by simp [S.len],fun n a o' e1 e2=>?_,fun n m a o1 o2 hnm e1 e2 e3 e4=>?_⟩
 · rcases old n a o' e1 e2 with ⟨h1,h2⟩ |⟨_,rfl,rfl⟩
   · exact(S.obj n a o' h1 h2).gO up (sm a)
   · exact ho
 · rcases old n a o1 e1 e3 with ⟨h1,h2⟩ |⟨rfl,rfl,rfl⟩
   · rcases old m a o2 e2 e4 with ⟨h3,h4⟩ |⟨rfl,rfl,rfl⟩
     · exact S.inj n m a o1 o2 hnm h1 h3 h2 h4
     · cases q:isF o1 with
       |true=>exact .inl rfl
       |false=>exact absurd rfl (free n a o1 h1 h2 q)
   · rcases old m a o2 e2 e4 with ⟨h3,h4⟩ |⟨h3,_,_⟩
     · cases q:isF o2 with
       |true=>exact .inr rfl
       |false=>exact absurd rfl (free m a o2 h3 h4 q)
     · exact absurd h3.symm hnm
theorem Sim.set(S:Sim T K μ H G){n:Nat}{a:Addr}{o o':M3.O}{u:HO}(e1:μ[n]? =some a)(e2:G[n]? =some o)(hfw:isW o=true)(hf':isF o'=false)(ho:ObD T K (upd H a u) μ o' a):Sim T K μ (upd H a u) (G.set n o'):=by
 have hf:=isW.nf hfw
 obtain⟨w,hw,h1,h2⟩:=(S.obj n a o e1 e2).some_of hfw
 have up:Up μ μ H (upd H a u):=Up.uE e1 hw h1 h2
 have hl:=(qB_.mp e2).1
 refine⟨by rw[qX_];exact S.len,fun m b ob q1 q2=>?_,fun m k b o1 o2 hmk q1 q2 q3 q4=>?_⟩
 · by_cases h:m=n
   · subst h
     rw[e1]at q1
     cases q1
     rw[qU_ hl]at q2
     cases q2
     exact ho
   · rw[qV_ (Ne.symm h)]at q2
     cases q:isF ob with
     |true=>
      cases ob with
      |frz xs=>
       obtain⟨vs,z,r⟩:=S.obj m b _ q1 q2
       exact⟨vs,SqF.keeps up.keeps z,ax.up up r⟩
      |_=>cases q
     |false=>
      have hb:b≠a:=by
       rintro rfl
       rcases S.inj m n b ob o h q1 e1 q2 e2 with z |z
       · rw[q]at z;cases z
       · rw[hf]at z;cases z
      exact(S.obj m b ob q1 q2).gO up fun x z=>by rw[aE hb];exact z
 · have back:∀(m:Nat) ob,(G.set n o')[m]? =some ob->∃ob',G[m]? =some ob'/\isF ob'=isF ob:=by
    intro m ob q
    by_cases h:m=n
    · subst h
      rw[qU_ hl]at q
      cases q
      exact⟨o,e2,by rw[hf,hf']⟩
    · rw[qV_ (Ne.symm h)]at q
      exact⟨ob,q,rfl⟩
   obtain⟨p1,r1,f1⟩:=back m o1 q3
   obtain⟨p2,r2,f2⟩:=back k o2 q4
   rw[<-f1,<-f2]
   exact S.inj m k b p1 p2 hmk q1 q2 r1 r2
theorem Up.set(S:Sim T K μ H G){n:Nat}{a:Addr}{o:M3.O}(u:HO)(e1:μ[n]? =some a)(e2:G[n]? =some o)(hf:isW o=true):Up μ μ H (upd H a u):=by
 obtain⟨w,hw,h1,h2⟩:=(S.obj n a o e1 e2).some_of hf
 exact Up.uE e1 hw h1 h2
end
structure StD (K:PySem.W.Frag) (H:Hp) (μ:List Addr) (σ3:M3.St) (σ:L2.St):Prop where
 len:σ3.length=σ.length
 at_:∀(i:Nat) d,σ3[i]? =some (some d)->∃v,σ[i]? =some (some v)/\Den K H μ d v
theorem StD.up{K:PySem.W.Frag}{H H':Hp}{μ μ':List Addr}{σ3:M3.St}{σ:L2.St}(u:Up μ μ' H H')(s:StD K H μ σ3 σ):StD K H' μ' σ3 σ:=
 ⟨s.len,fun i d e=>let ⟨v,h1,h2⟩:=s.at_ i d e;⟨v,h1,Den.up u h2⟩⟩
theorem StD.set{K:PySem.W.Frag}{H:Hp}{μ:List Addr}{σ3:M3.St}{σ:L2.St}(s:StD K H μ σ3 σ){d:M3.D}{v:V}(i:Nat)(h:Den K H μ d v):StD K H μ (σ3.set i (some d)) (σ.set i (some v)):=by
 refine⟨by rw[qX_,qX_];exact s.len,fun j d' e=>?_⟩
 by_cases hj:j=i
 · subst hj
   have hl:j < σ3.length:=by
    have:=(qB_.mp e).1
    rw[qX_]at this
    exact this
   rw[qU_ hl]at e
   cases e
   exact⟨v,by rw[qU_ (by rw[<-s.len];exact hl)],h⟩
 · rw[qV_ (Ne.symm hj)]at e
   rw[qV_ (Ne.symm hj)]
   exact s.at_ j d' e
structure EX where
 x:List Addr->Hp->Nat->M3.Hh->Prop
 up:∀{μ μ':List Addr} {H H':Hp} {c:Nat} {G:M3.Hh},Up μ μ' H H'->x μ H c G->x μ' H' c G
theorem EX.upE{α:Type}(E:EX){m:M3.M α}{G:M3.Hh}{P:α->M3.Hh->Prop}{μ μ':List Addr}{H H':Hp}(u:Up μ μ' H H')(h:M3.run m G P (E.x μ H)):M3.run m G P (E.x μ' H'):=M3.ao h (fun _ _ q=>q) fun _ _ q=>E.up u q
def cJ(T:Tab)(K:PySem.W.Frag)(μ:List Addr)(H:Hp)(Q:VK)(d:M3.D)(G':M3.Hh):Prop:=∀v H' μ',Up μ μ' H H'->Sim T K μ' H' G'->Den K H' μ' d v->Q v H'
def oI(T:Tab)(K:PySem.W.Frag)(μ:List Addr)(H:Hp)(Q:Bool->Hp->Prop)(b:Bool)(G':M3.Hh):Prop:=∀H' μ',Up μ μ' H H'->Sim T K μ' H' G'->Q b H'
def EQ(T:Tab)(K:PySem.W.Frag)(μ:List Addr)(H:Hp)(Q:List V->Hp->Prop)(ds:List M3.D)(G':M3.Hh):Prop:=∀vs H' μ',Up μ μ' H H'->Sim T K μ' H' G'->ax K H' μ' ds vs->Q vs H'
def eB(T:Tab)(K:PySem.W.Frag)(μ:List Addr)(H:Hp)(D:Ends)(r:M3.Fl×M3.St)(G':M3.Hh):Prop:=∀σ' H' μ',Up μ μ' H H'->Sim T K μ' H' G'->StD K H' μ' r.2 σ'->match r.1 with
 | .next=>D.nx σ' H'
 | .brk=>D.bk σ' H'
 | .cont=>D.ct σ' H'
 | .ret d=>∀v,Den K H' μ' d v->D.rt v H'
section
variable{T:Tab}{K:PySem.W.Frag}{μ μ':List Addr}{H H':Hp}{G:M3.Hh}
theorem cJ.up{Q:VK}{d:M3.D}(u:Up μ μ' H H')(h:cJ T K μ H Q d G):cJ T K μ' H' Q d G:=fun v H2 μ2 u2 S r=>h v H2 μ2 (u.trans u2) S r
theorem oI.up{Q:Bool->Hp->Prop}{d:Bool}(u:Up μ μ' H H')(h:oI T K μ H Q d G):oI T K μ' H' Q d G:=fun H2 μ2 u2 S=>h H2 μ2 (u.trans u2) S
theorem eB.up{D:Ends}{r:M3.Fl×M3.St}(u:Up μ μ' H H')(h:eB T K μ H D r G):eB T K μ' H' D r G:=fun v H2 μ2 u2 S r=>h v H2 μ2 (u.trans u2) S r
end
def tE(T:Tab)(K:PySem.W.Frag)(Y:EX)(f:M3.E3):TE:=fun σ H Q=>∃μ σ3 G,Sim T K μ H G/\StD K H μ σ3 σ/\M3.run (f σ3) G (cJ T K μ H Q) (Y.x μ H)
def tT(T:Tab)(K:PySem.W.Frag)(Y:EX)(f:M3.T3):TT:=fun σ H Q=>∃μ σ3 G,Sim T K μ H G/\StD K H μ σ3 σ/\M3.run (f σ3) G (oI T K μ H Q) (Y.x μ H)
def tA(T:Tab)(K:PySem.W.Frag)(Y:EX)(f:M3.A3):TA:=fun σ H Q=>∃μ σ3 G,Sim T K μ H G/\StD K H μ σ3 σ/\M3.run (f σ3) G (EQ T K μ H Q) (Y.x μ H)
def tS(T:Tab)(K:PySem.W.Frag)(Y:EX)(f:M3.S3):TS:=fun D σ H=>∃μ σ3 G,Sim T K μ H G/\StD K H μ σ3 σ/\M3.run (f σ3) G (eB T K μ H D) (Y.x μ H)
theorem bi{Y:EX}{α:Type}{T:Tab}{K:PySem.W.Frag}{μ:List Addr}{H:Hp}{m:M3.M M3.D}{k:M3.D->M3.M α}{G:M3.Hh}{P:α->M3.Hh->Prop}{R:VK}(h:M3.run (M3.bnd m k) G P (Y.x μ H))
 (f:∀d G1 v H1 μ1,Up μ μ1 H H1->Sim T K μ1 H1 G1->Den K H1 μ1 d v->M3.run (k d) G1 P (Y.x μ1 H1)->R v H1):M3.run m G (cJ T K μ H R) (Y.x μ H):=
 M3.ao (M3.aN h) (fun d G1 q v H1 μ1 u S r=>f d G1 v H1 μ1 u S r (Y.upE u q)) fun _ _ z=>z
theorem rL{Y:EX}{α:Type}{T:Tab}{K:PySem.W.Frag}{μ:List Addr}{H:Hp}{m:M3.M Bool}{k:Bool->M3.M α}{G:M3.Hh}{P:α->M3.Hh->Prop}{R:Bool->Hp->Prop}(h:M3.run (M3.bnd m k) G P (Y.x μ H))
 (f:∀b G1 H1 μ1,Up μ μ1 H H1->Sim T K μ1 H1 G1->M3.run (k b) G1 P (Y.x μ1 H1)->R b H1):M3.run m G (oI T K μ H R) (Y.x μ H):=
 M3.ao (M3.aN h) (fun d G1 q H1 μ1 u S=>f d G1 H1 μ1 u S (Y.upE u q)) fun _ _ z=>z
theorem oO{Y:EX}{α:Type}{T:Tab}{K:PySem.W.Frag}{μ:List Addr}{H:Hp}{m:M3.M (List M3.D)}{k:List M3.D->M3.M α}{G:M3.Hh}{P:α->M3.Hh->Prop}{R:List V->Hp->Prop}(h:M3.run (M3.bnd m k) G P (Y.x μ H))
 (f:∀ds G1 vs H1 μ1,Up μ μ1 H H1->Sim T K μ1 H1 G1->ax K H1 μ1 ds vs->M3.run (k ds) G1 P (Y.x μ1 H1)->R vs H1):M3.run m G (EQ T K μ H R) (Y.x μ H):=
 M3.ao (M3.aN h) (fun d G1 q v H1 μ1 u S r=>f d G1 v H1 μ1 u S r (Y.upE u q)) fun _ _ z=>z
theorem cm{α:Type}{m:M3.M α}{G:M3.Hh}{P P':α->M3.Hh->Prop}{X:Nat->M3.Hh->Prop}(h:M3.run m G P X)(f:∀a G',P a G'->P' a G'):M3.run m G P' X:=M3.ao h f fun _ _ z=>z
section
variable{X:Cx}{T:Tab}{Y:EX}{a b e:Expr}{es:List Expr}{fa fb:M3.E3}{pos:Pos}{tt:M3.T3}
theorem PE.of{t u:TE}(h:PE X e t)(f:∀σ H Q,u σ H Q->t σ H Q):PE X e u:=fun pins s σ H Q I q=>h pins s σ H Q I (f σ H Q q)
theorem PT.of{t u:TT}(h:PT X e t)(f:∀σ H Q,u σ H Q->t σ H Q):PT X e u:=fun pins s σ H Q I q=>h pins s σ H Q I (f σ H Q q)
theorem PW.of{t u:TT}(h:PW X e t)(f:∀σ H Q,u σ H Q->t σ H Q):PW X e u:=fun wh pins s σ H Q I q=>h wh pins s σ H Q I (f σ H Q q)
theorem PA.of{t u:TA}(h:PA X es t)(f:∀σ H Q,u σ H Q->t σ H Q):PA X es u:=fun ps pins s σ H Q I q=>h ps pins s σ H Q I (f σ H Q q)
theorem PS.of{st:Stmt}{t u:TS}(h:PS X st t)(f:∀D σ H,u D σ H->t D σ H):PS X st u:=fun pins s σ H D I q=>h pins s σ H D I (f D σ H q)
theorem PSs.of{st:List Stmt}{t u:TS}(h:PSs X st t)(f:∀D σ H,u D σ H->t D σ H):PSs X st u:=fun pins s σ H D I q=>h pins s σ H D I (f D σ H q)
theorem dE(i:Nat){x:Str}(hN:X.N[i]? =some x:=by rfl)(hv:Vis X.env.scope x:=by first |exact Or.inl rfl |exact Or.inr (Or.inl rfl) |exact Or.inr (Or.inr rfl))(hd:(x==("__debug__":Str))=false:=by decide)
 (hcd:(x==("__classdict__":Str))=false:=by decide):PE X (.Name x pos) (tE T X.K Y (M3.ae i)):=by
 refine PE.of (GG hN hv hd hcd) fun σ H Q ⟨μ,σ3,G,S,sd,h⟩=>?_
 unfold M3.ae at h
 cases q:σ3[i]? with
 |none=>rw[q]at h;exact False.elim h
 |some o=>
  rw[q]at h
  cases o with
  |none=>exact False.elim h
  |some d=>
   obtain⟨v,e,r⟩:=sd.at_ i d q
   exact⟨v,e,h v H μ (Up.refl _ _) S r⟩
theorem m8{d:M3.D}{v:V}(h:PE X e (tC v))(hd:∀H μ,Den X.K H μ d v):PE X e (tE T X.K Y (M3.eC d)):=
 PE.of h fun σ H Q ⟨μ,σ3,G,S,sd,q⟩=>q v H μ (Up.refl _ _) S (hd H μ)
theorem uH{i j}:PE X (.Constant (.int i) j pos) (tE T X.K Y (M3.eC (.int i))):=m8 Fh fun _ _=>rfl
theorem Iw{c j}:PE X (.Constant (.bool c) j pos) (tE T X.K Y (M3.eC (.bl c))):=m8 IR fun _ _=>rfl
theorem Ii{j}:PE X (.Constant .none j pos) (tE T X.K Y (M3.eC .non)):=m8 HN fun _ _=>rfl
theorem EV{x j}:PE X (.Constant (.str x) j pos) (tE T X.K Y (M3.eC (.str x))):=m8 FR fun _ _=>rfl
def Br2(T:Tab)(K:PySem.W.Frag)(Y:EX)(g:M3.D->M3.D->M3.M M3.D)(r:R2):Prop:=
 ∀μ H G x y v w Q,Sim T K μ H G->Den K H μ x v->Den K H μ y w->M3.run (g x y) G (cJ T K μ H Q) (Y.x μ H)->r v w H Q
theorem Bo{g:M3.D->M3.D->M3.M M3.D}{r:R2}{K:PySem.W.Frag}(br:Br2 T K Y g r){σ:L2.St}{H:Hp}{Q:VK}(h:tE T K Y (M3.eOp g fa fb) σ H Q):tOp r (tE T K Y fa) (tE T K Y fb) σ H Q:=by
 obtain⟨μ,σ3,G,S,sd,h⟩:=h
 refine⟨μ,σ3,G,S,sd,bi h fun x G1 v H1 μ1 u1 S1 d1 h1=>⟨μ1,σ3,G1,S1,sd.up u1,bi h1 fun y G2 w H2 μ2 u2 S2 d2 h2=>?_⟩⟩
 exact br μ2 H2 G2 x y v w Q S2 (Den.up u2 d1) d2 (cm h2 fun _ _ q=>q.up (u1.trans u2))
theorem zZ{op:Operator}{g:M3.D->M3.D->M3.M M3.D}{r:R2}(br:OpR X (binaryOp op) r/\Br2 T X.K Y g r)(ha:PE X a (tE T X.K Y fa))(hb:PE X b (tE T X.K Y fb)):PE X (.BinOp a op b pos) (tE T X.K Y (M3.eOp g fa fb)):=
 PE.of (IS br.1 ha hb) fun _ _ _ h=>Bo br.2 h
theorem Er{op:CmpOp}{g:M3.D->M3.D->M3.M M3.D}{r:R2}(br:OpR X (compareOp op) r/\Br2 T X.K Y g r)(ha:PE X a (tE T X.K Y fa))(hb:PE X b (tE T X.K Y fb))(hm:behindInMarks op b=false):PE X (.Compare a [op] [b] pos) (tE T X.K Y (M3.eOp g fa fb)):=
 PE.of (DY br.1 ha hb hm) fun _ _ _ h=>Bo br.2 h
theorem tZ{x:M3.D}{G:M3.Hh}{P:Bool->M3.Hh->Prop}{Z:Nat->M3.Hh->Prop}(h:M3.run (M3.asB x) G P Z):∃c,x= .bl c/\P c G:=by
 cases x with
 |bl c=>exact⟨c,rfl,h⟩
 |_=>exact False.elim h
theorem Hi{K:PySem.W.Frag}{f:M3.E3}{σ:L2.St}{H:Hp}{Q:Bool->Hp->Prop}(h:tT T K Y (M3.tB f) σ H Q):En (tE T K Y f) σ H Q:=by
 obtain⟨μ,σ3,G,S,sd,h⟩:=h
 refine⟨μ,σ3,G,S,sd,bi h fun x G1 v H1 μ1 u1 S1 d1 h1=>?_⟩
 obtain⟨c,rfl,q⟩:=tZ h1
 exact⟨c,d1,q H1 μ1 u1 S1⟩
theorem qw{op:CmpOp}{g:M3.D->M3.D->M3.M M3.D}{r:R2}(br:OpR X (compareOp op) r/\Br2 T X.K Y g r)(ha:PE X a (tE T X.K Y fa))(hb:PE X b (tE T X.K Y fb))(hm:behindInMarks op b=false):PT X (.Compare a [op] [b] pos) (tT T X.K Y (M3.tB (M3.eOp g fa fb))):=by
 refine PT.of (DA br.1 ha hb hm) fun σ H Q h=>?_
 obtain⟨μ,σ3,G,S,sd,h⟩:=Hi h
 exact Bo br.2 ⟨μ,σ3,G,S,sd,h⟩
end
theorem bS:M3.aA=sizeLine:=by rw[sizeLine_eq];rfl
section
variable{X:Cx}{T:Tab}{Y:EX}{a b e:Expr}{es:List Expr}{fa fb:M3.E3}{ta tb:M3.T3}{f3:M3.A3}{pos:Pos}{rest:List Expr}
theorem xS{op}{f:M3.E3}(h:PE X a (tE T X.K Y f)):PE X (.BoolOp op [a] pos) (tE T X.K Y f):=Fz h
theorem yL(ha:PE X a (tE T X.K Y fa))(hb:PE X (.BoolOp .And (b :: rest) pos) (tE T X.K Y fb)):PE X (.BoolOp .And (a :: b :: rest) pos) (tE T X.K Y (M3.oZ fa fb)):=by
 refine PE.of (Ia ha hb) fun σ H Q ⟨μ,σ3,G,S,sd,h⟩=>⟨μ,σ3,G,S,sd,bi h fun x G1 v H1 μ1 u1 S1 d1 h1=>?_⟩
 obtain⟨c,rfl,q⟩:=tZ (M3.aN h1)
 refine⟨c,d1,?_⟩
 cases c with
 |true=>exact⟨μ1,σ3,G1,S1,sd.up u1,cm q fun _ _ z=>z.up u1⟩
 |false=>exact q _ H1 μ1 u1 S1 rfl
theorem Jf(ha:PE X a (tE T X.K Y fa))(hb:PE X (.BoolOp .Or (b :: rest) pos) (tE T X.K Y fb)):PE X (.BoolOp .Or (a :: b :: rest) pos) (tE T X.K Y (M3.eOr fa fb)):=by
 refine PE.of (Jb ha hb) fun σ H Q ⟨μ,σ3,G,S,sd,h⟩=>⟨μ,σ3,G,S,sd,bi h fun x G1 v H1 μ1 u1 S1 d1 h1=>?_⟩
 obtain⟨c,rfl,q⟩:=tZ (M3.aN h1)
 refine⟨c,d1,?_⟩
 cases c with
 |true=>exact q _ H1 μ1 u1 S1 rfl
 |false=>exact⟨μ1,σ3,G1,S1,sd.up u1,cm q fun _ _ z=>z.up u1⟩
theorem Et(ha:PE X a (tE T X.K Y fa)):PE X (.UnaryOp .Not a pos) (tE T X.K Y (M3.B6 fa)):=by
 refine PE.of (Fo ha) fun σ H Q ⟨μ,σ3,G,S,sd,h⟩=>⟨μ,σ3,G,S,sd,bi h fun x G1 v H1 μ1 u1 S1 d1 h1=>?_⟩
 obtain⟨c,rfl,q⟩:=tZ (M3.aN h1)
 exact⟨c,d1,q _ H1 μ1 u1 S1 rfl⟩
theorem ED{j pos'}(ha:PE X a (tE T X.K Y fa)):PE X (.Compare a [.Is] [.Constant .none j pos'] pos) (tE T X.K Y (M3.eUn M3.nN fa)):=by
 refine PE.of (HS (AX ha)) fun σ H Q ⟨μ,σ3,G,S,sd,h⟩=>⟨μ,σ3,G,S,sd,bi h fun x G1 v H1 μ1 u1 S1 d1 h1=>?_⟩
 refine h1 _ H1 μ1 u1 S1 ?_
 cases x with
 |non=>cases (show v= .non from d1);rfl
 |bl b=>cases (show v= .bl b from d1);rfl
 |int b=>cases (show v= .int b from d1);rfl
 |str b=>cases (show v= .str b from d1);rfl
 |ref n=>obtain⟨_,_,rfl⟩:=d1;rfl
 |tup ds=>obtain⟨_,_,rfl,_⟩:=d1;rfl
theorem Aj(ha:PT X a (tT T X.K Y ta)):PW X (.BoolOp .And [a] pos) (tT T X.K Y ta):=DN ha
theorem A1(ha:PT X a (tT T X.K Y ta)):PW X (.BoolOp .Or [a] pos) (tT T X.K Y ta):=Ht ha
theorem w_and(ha:PT X a (tT T X.K Y ta))(hb:PW X (.BoolOp .And (b :: rest) pos) (tT T X.K Y tb)):PW X (.BoolOp .And (a :: b :: rest) pos) (tT T X.K Y (M3.rk ta tb)):=by
 refine PW.of (F0 ha hb) fun σ H Q ⟨μ,σ3,G,S,sd,h⟩=>⟨μ,σ3,G,S,sd,rL h fun c G1 H1 μ1 u1 S1 h1=>?_⟩
 cases c with
 |true=>exact⟨μ1,σ3,G1,S1,sd.up u1,cm h1 fun _ _ z=>z.up u1⟩
 |false=>exact h1 H1 μ1 u1 S1
theorem w_or(ha:PT X a (tT T X.K Y ta))(hb:PW X (.BoolOp .Or (b :: rest) pos) (tT T X.K Y tb)):PW X (.BoolOp .Or (a :: b :: rest) pos) (tT T X.K Y (M3.tOr ta tb)):=by
 refine PW.of (II ha hb) fun σ H Q ⟨μ,σ3,G,S,sd,h⟩=>⟨μ,σ3,G,S,sd,rL h fun c G1 H1 μ1 u1 S1 h1=>?_⟩
 cases c with
 |true=>exact h1 H1 μ1 u1 S1
 |false=>exact⟨μ1,σ3,G1,S1,sd.up u1,cm h1 fun _ _ z=>z.up u1⟩
theorem xW(ha:PT X a (tT T X.K Y ta)):PT X (.UnaryOp .Not a pos) (tT T X.K Y (M3.eX ta)):=by
 refine PT.of (Gw ha) fun σ H Q ⟨μ,σ3,G,S,sd,h⟩=>⟨μ,σ3,G,S,sd,rL h fun c G1 H1 μ1 u1 S1 h1=>?_⟩
 exact h1 H1 μ1 u1 S1
theorem Gm{Z:Nat->M3.Hh->Prop}{K:PySem.W.Frag}{μ:List Addr}{H:Hp}{G:M3.Hh}{x:M3.D}{v:V}{P:Bool->M3.Hh->Prop}(S:Sim T K μ H G)(d:Den K H μ x v)(h:M3.run (M3.truth x) G P Z):∃k,FP K v H k/\P k G:=by
 cases x with
 |non=>cases (show v= .non from d);exact⟨false,rfl,h⟩
 |bl b=>cases (show v= .bl b from d);exact⟨b,rfl,h⟩
 |int b=>cases (show v= .int b from d);exact⟨_,rfl,h⟩
 |str b=>
  cases (show v= .str b from d)
  unfold M3.run M3.truth at h
  dsimp only at h
  by_cases hl:b.length<=M3.aA
  · rw[if_pos hl]at h
    refine⟨b.length !=0,⟨by rw[<-bS];exact hl,?_⟩,h⟩
    cases q:b.length with
    |zero=>rfl
    |succ n=>rfl
  · rw[if_neg hl]at h
    exact False.elim h
 |tup ds=>
  obtain⟨a,vs,rfl,sq,r⟩:=d
  refine⟨!ds.isEmpty,.inr (.inl ⟨vs,sq,?_⟩),h⟩
  have:=r.length
  cases ds <;> cases vs <;> simp_all
 |ref n=>
  obtain⟨a,e,rfl⟩:=d
  unfold M3.run M3.truth at h
  dsimp only at h
  cases q:G[n]? with
  |none=>rw[q]at h;exact False.elim h
  |some o=>
   rw[q]at h
   have ob:=S.obj n a o e q
   cases o with
   |lst xs=>
    obtain⟨vs,e1,r⟩:=ob
    refine⟨_,.inl ⟨vs,SqL.of e1,rfl⟩,?_⟩
    have:=r.length
    cases xs <;> cases vs <;> simp_all
   |frz xs=>
    obtain⟨vs,e1,r⟩:=ob
    refine⟨_,.inl ⟨vs,e1.sq,rfl⟩,?_⟩
    have:=r.length
    cases xs <;> cases vs <;> simp_all
   |dK kvs=>
    obtain⟨ws,e1,r⟩:=ob
    refine⟨_,.inr (.inr ⟨ws,e1,rfl⟩),?_⟩
    have:=Paired.length r
    cases kvs <;> cases ws <;> simp_all
   |dF kvs=>exact False.elim h
   |dT kvs=>exact False.elim h
   |ins C fs=>exact False.elim h
theorem DB{f:M3.E3}(h:PE X e (tE T X.K Y f))(he:∀whole,isTrue e X.env whole=(do let v <-whole;standAt e.pos;holding [v] (truthy v)):=by intro _;rfl):PT X e (tT T X.K Y (M3.tOf f)):=by
 refine PT.of (By h he) fun σ H Q ⟨μ,σ3,G,S,sd,h⟩=>⟨μ,σ3,G,S,sd,bi h fun x G1 v H1 μ1 u1 S1 d1 h1=>?_⟩
 obtain⟨k,t,q⟩:=Gm S1 d1 h1
 exact⟨k,t,q H1 μ1 u1 S1⟩
theorem JE{c:Expr}(hc:PT X c (tT T X.K Y ta))(ha:PE X a (tE T X.K Y fa))(hb:PE X b (tE T X.K Y fb)):PE X (.IfExp c a b pos) (tE T X.K Y (M3.eIf ta fa fb)):=by
 refine PE.of (Al hc ha hb) fun σ H Q ⟨μ,σ3,G,S,sd,h⟩=>⟨μ,σ3,G,S,sd,rL h fun c G1 H1 μ1 u1 S1 h1=>?_⟩
 cases c with
 |true=>exact⟨μ1,σ3,G1,S1,sd.up u1,cm h1 fun _ _ z=>z.up u1⟩
 |false=>exact⟨μ1,σ3,G1,S1,sd.up u1,cm h1 fun _ _ z=>z.up u1⟩
theorem oP:PA X [] (tA T X.K Y M3.ai):=PA.of jm fun σ H Q ⟨μ,σ3,G,S,sd,h⟩=>h [] H μ (Up.refl _ _) S rfl
theorem cZ{r:M3.A3}(ha:PE X e (tE T X.K Y fa))(hr:PA X es (tA T X.K Y r))(hs:starEach (e :: es) X.env=(false,eval e X.env) :: starEach es X.env:=by rfl):PA X (e :: es) (tA T X.K Y (M3.aa fa r)):=by
 refine PA.of (dJ ha hr hs) fun σ H Q ⟨μ,σ3,G,S,sd,h⟩=>⟨μ,σ3,G,S,sd,bi h fun x G1 v H1 μ1 u1 S1 d1 h1=>⟨μ1,σ3,G1,S1,sd.up u1,oO h1 fun xs G2 vs H2 μ2 u2 S2 d2 h2=>?_⟩⟩
 exact h2 _ H2 μ2 (u1.trans u2) S2 ⟨v,vs,rfl,Den.up u2 d1,d2⟩
theorem uS{x1}(h:PA X es (tA T X.K Y f3)):PE X (.Tuple es x1 pos) (tE T X.K Y (M3.bO f3)):=by
 refine PE.of (B7 h) fun σ H Q ⟨μ,σ3,G,S,sd,h⟩=>⟨μ,σ3,G,S,sd,oO h fun xs G1 vs H1 μ1 u1 S1 d1 h1=>?_⟩
 by_cases hl:xs.length<=M3.aA
 · rw[if_pos hl]at h1
   refine⟨by rw[<-d1.length,<-bS];exact hl,fun p hp=>?_⟩
   have u2:Up μ1 μ1 H1 (upd H1 p (.tup vs)):=Up.same (fO.new _ hp)
   exact h1 _ _ μ1 (u1.trans u2) (S1.same (fO.new _ hp)) ⟨p,vs,rfl,SqT.of aF,ax.up u2 d1⟩
 · rw[if_neg hl]at h1;exact False.elim h1
theorem Fd(h:PA X es (tA T X.K Y f3)):PE X (.List es pos) (tE T X.K Y (M3.cS f3)):=by
 refine PE.of (HZ h) fun σ H Q ⟨μ,σ3,G,S,sd,h⟩=>⟨μ,σ3,G,S,sd,oO h fun xs G1 vs H1 μ1 u1 S1 d1 h1=>?_⟩
 by_cases hl:xs.length<=M3.aA
 · rw[if_pos hl]at h1
   refine⟨by rw[<-d1.length,<-bS];exact hl,fun p hp=>?_⟩
   have u2:=Up.new (μ:=μ1) (.lst vs) hp
   refine h1 _ _ (μ1++[p]) (u1.trans u2) (S1.new hp rfl ⟨vs,aF,ax.up u2 d1⟩) ⟨p,?_,rfl⟩
   rw[<-S1.len];simp
 · rw[if_neg hl]at h1;exact False.elim h1
theorem m3:PSs X [] (tS T X.K Y M3.aW):=PSs.of DI fun D σ H ⟨μ,σ3,G,S,sd,h⟩=>h σ H μ (Up.refl _ _) S sd
theorem cL{st:Stmt}{f:M3.S3}(h:PS X st (tS T X.K Y f)):PSs X [st] (tS T X.K Y f):=CM h
theorem aO{st:Stmt}{sts:List Stmt}{f g:M3.S3}(h1:PS X st (tS T X.K Y f))(h2:PSs X sts (tS T X.K Y g)):PSs X (st :: sts) (tS T X.K Y (M3.aq f g)):=by
 refine PSs.of (Cv h1 h2) fun D σ H ⟨μ,σ3,G,S,sd,h⟩=>⟨μ,σ3,G,S,sd,cm (M3.aN h) fun r G1 q σ1 H1 μ1 u1 S1 sd1=>?_⟩
 obtain⟨fl,σ2⟩:=r
 cases fl with
 |next=>exact⟨μ1,σ2,G1,S1,sd1,cm (Y.upE u1 q) fun _ _ z=>z.up u1⟩
 |brk=>exact q σ1 H1 μ1 u1 S1 sd1
 |cont=>exact q σ1 H1 μ1 u1 S1 sd1
 |ret d=>exact q σ1 H1 μ1 u1 S1 sd1
theorem yJ{i:Nat}{x:Str}{pos':Pos}(hN:X.N.Nodup)(hi:X.N[i]? =some x)(hx:Loc X.env.scope x)(he:PE X e (tE T X.K Y fa))(hs:swapsWith e (some (.Name x pos')) pos.line X.env=pure false:=by rfl)(hf:X.fn x=true\/X.env.scope.names.lookup x=some .local:=by first |exact .inl rfl |exact .inr rfl |assumption):
 PS X (.Assign [.Name x pos'] e pos) (tS T X.K Y (M3.bx i fa)):=by
 refine PS.of (Fn hN hi hx he hs hf) fun D σ H ⟨μ,σ3,G,S,sd,h⟩=>⟨μ,σ3,G,S,sd,bi h fun d G1 v H1 μ1 u1 S1 d1 h1=>?_⟩
 exact h1 _ H1 μ1 u1 S1 ((sd.up u1).set i d1)
theorem wj(he:PE X e (tE T X.K Y fa))(hs:swapsWith e none pos.line X.env=pure false:=by rfl):PS X (.Expr e pos) (tS T X.K Y (M3.b7 fa)):=by
 refine PS.of (Ei he hs) fun D σ H ⟨μ,σ3,G,S,sd,h⟩=>⟨μ,σ3,G,S,sd,bi h fun d G1 v H1 μ1 u1 S1 d1 h1=>?_⟩
 exact h1 _ H1 μ1 u1 S1 (sd.up u1)
theorem y_ret(he:PE X e (tE T X.K Y fa)):PS X (.Return (some e) pos) (tS T X.K Y (M3.aC fa)):=by
 refine PS.of (GV he) fun D σ H ⟨μ,σ3,G,S,sd,h⟩=>⟨μ,σ3,G,S,sd,bi h fun d G1 v H1 μ1 u1 S1 d1 h1=>?_⟩
 exact h1 _ H1 μ1 u1 S1 (sd.up u1) v d1
theorem rA{c:Expr}{p q:List Stmt}{f g:M3.S3}(hc:PT X c (tT T X.K Y ta))(ha:PSs X p (tS T X.K Y f))(hb:PSs X q (tS T X.K Y g)):PS X (.If c p q pos) (tS T X.K Y (M3.sIf ta f g)):=by
 refine PS.of (Jn hc ha hb) fun D σ H ⟨μ,σ3,G,S,sd,h⟩=>⟨μ,σ3,G,S,sd,rL h fun c G1 H1 μ1 u1 S1 h1=>?_⟩
 cases c with
 |true=>exact⟨μ1,σ3,G1,S1,sd.up u1,cm h1 fun _ _ z=>z.up u1⟩
 |false=>exact⟨μ1,σ3,G1,S1,sd.up u1,cm h1 fun _ _ z=>z.up u1⟩
def Jh(T:Tab)(K:PySem.W.Frag)(μ:List Addr)(H:Hp)(Q:L2.St->Hp->Prop)(σ3:M3.St)(G':M3.Hh):Prop:=∀σ' H' μ',Up μ μ' H H'->Sim T K μ' H' G'->StD K H' μ' σ3 σ'->Q σ' H'
def tG(T:Tab)(K:PySem.W.Frag)(Y:EX)(g:M3.D->M3.St->M3.M M3.St):TG:=fun v σ H Q=>∃μ σ3 G d,Sim T K μ H G/\StD K H μ σ3 σ/\Den K H μ d v/\M3.run (g d σ3) G (Jh T K μ H Q) (Y.x μ H)
theorem PG.of{tg:Expr}{t u:TG}(h:PG X tg t)(f:∀v σ H Q,u v σ H Q->t v σ H Q):PG X tg u:=fun pins s σ H v w Q I r q=>h pins s σ H v w Q I r (f v σ H Q q)
theorem FK{i:Nat}{x:Str}(hN:X.N.Nodup)(hi:X.N[i]? =some x)(hx:Loc X.env.scope x)(hf:X.fn x=true\/X.env.scope.names.lookup x=some .local:=by first |exact .inl rfl |exact .inr rfl |assumption):PG X (.Name x pos) (tG T X.K Y (M3.gNm i)):=
 PG.of (ur hN hi hx hf) fun v σ H Q ⟨μ,σ3,G,d,S,sd,r,h⟩=>h _ H μ (Up.refl _ _) S (sd.set i r)
def tGs(K:PySem.W.Frag)(is:List Nat):TGs:=fun vs σ H Q=>∃μ σ3 ds σ3',StD K H μ σ3 σ/\ax K H μ ds vs/\M3.lY is ds σ3=some σ3'/\∀σ',StD K H μ σ3' σ'->Q σ' H
theorem PGs.of{ts:List Expr}{t u:TGs}(h:PGs X ts t)(f:∀v σ H Q,u v σ H Q->t v σ H Q):PGs X ts u:=fun pins s σ H v w Q I r q=>h pins s σ H v w Q I r (f v σ H Q q)
theorem EC:PGs X [] (tGs X.K []):=by
 refine PGs.of De fun vs σ H Q ⟨μ,σ3,ds,σ3',sd,r,e,h⟩=>?_
 cases ds with
 |nil=>
  cases e
  exact⟨r,h σ sd⟩
 |cons d t=>cases e
theorem uj{i:Nat}{is:List Nat}{x:Str}{ts:List Expr}(hN:X.N.Nodup)(hi:X.N[i]? =some x)(hx:Loc X.env.scope x)(ht:PGs X ts (tGs X.K is))(hf:X.fn x=true\/X.env.scope.names.lookup x=some .local:=by first |exact .inl rfl |exact .inr rfl |assumption)
 (hs:(assignEach (.Name x pos :: ts) X.env).map (·.2)=assign (.Name x pos) X.env :: (assignEach ts X.env).map (·.2):=by rfl):PGs X (.Name x pos :: ts) (tGs X.K (i :: is)):=by
 refine PGs.of (AN (ur hN hi hx hf) ht hs) fun vs σ H Q ⟨μ,σ3,ds,σ3',sd,r,e,h⟩=>?_
 cases ds with
 |nil=>cases e
 |cons d t=>
  obtain⟨v,rv,rfl,d1,d2⟩:=r
  exact⟨v,rv,rfl,μ,σ3.set i (some d),t,σ3',sd.set i d1,d2,e,h⟩
theorem qh:∀{is:List Nat} {ds:List M3.D} {σ σ':M3.St},M3.lY is ds σ=some σ'->ds.length=is.length
 | [],[],_,_,_=>rfl
 | [],_ :: _,_,_,h=>by cases h
 |_ :: _,[],_,_,h=>by cases h
 |i :: r,d :: t,_,_,h=>by
  have:=qh (is:=r) (ds:=t) h
  simp [this]
theorem Gn{ts:List Expr}{k:Nat}{is:List Nat}(hc:X.calm=true)(h:PGs X ts (tGs X.K is))(hn:(assignEach ts X.env).length=is.length:=by rfl)(hst:(assignEach ts X.env).findIdx? (·.1)=none:=by rfl):PG X (.Tuple ts k pos) (tG T X.K Y (M3.gUn is)):=by
 refine PG.of (GJ hc h hn hst) fun v σ H Q ⟨μ,σ3,G,d,S,sd,r,h⟩=>?_
 cases d with
 |tup ds=>
  obtain⟨a,vs,rfl,sq,r⟩:=r
  unfold M3.gUn at h
  dsimp only at h
  cases q:M3.lY is ds σ3 with
  |none=>rw[q]at h;exact False.elim h
  |some σ3'=>
   rw[q]at h
   refine⟨a,vs,rfl,sq,by rw[<-r.length];exact qh q,μ,σ3,ds,σ3',sd,r,q,fun σ' sd'=>h σ' H μ (Up.refl _ _) S sd'⟩
 |_=>exact False.elim h
theorem JF{tg:Expr}{is:List Nat}(he:PE X e (tE T X.K Y fa))(hg:PG X tg (tG T X.K Y (M3.gUn is)))(hs:swapsWithSole [tg] e pos.line X.env=pure false:=by rfl)(hw:swappedStores [tg] e X.env=pure none:=by rfl)
 (h1:(assignEach [tg] X.env).map (·.2)=[assign tg X.env]:=by rfl):PS X (.Assign [tg] e pos) (tS T X.K Y (M3.sUn is fa)):=by
 refine PS.of (xJ he hg hs hw h1) fun D σ H ⟨μ,σ3,G,S,sd,h⟩=>⟨μ,σ3,G,S,sd,bi h fun d G1 v H1 μ1 u1 S1 d1 h1=>?_⟩
 refine⟨μ1,σ3,G1,d,S1,sd.up u1,d1,cm (M3.aN h1) fun σ4 G2 q σ' H' μ' u' S' sd'=>?_⟩
 exact q σ' H' μ' (u1.trans u') S' sd'
theorem j5{Z:Nat->M3.Hh->Prop}{c:Prop} [Decidable c]{α:Type}{m:M3.M α}{G:M3.Hh}{P:α->M3.Hh->Prop}(h:M3.run (if c then m else M3.fail) G P Z):c/\M3.run m G P Z:=by
 by_cases hc:c
 · rw[if_pos hc]at h;exact⟨hc,h⟩
 · rw[if_neg hc]at h;exact False.elim h
theorem Dt:OpR X (binaryOp .Sub) (rI0 fun i j=>.int (i - j))/\Br2 T X.K Y M3.xg (rI0 fun i j=>.int (i - j)):=⟨F2,by
 intro μ H G x y v w Q S dx dy h
 cases x with
 |int i=>cases y with
  |int j=>exact⟨i,j,dx,dy,h _ H μ (Up.refl _ _) S rfl⟩
  |_=>exact False.elim h
 |_=>exact False.elim h⟩
theorem vK{i:Int}(h:M3.small i=true):-(2 ^ 64) < i/\i < 2 ^ 64:=of_decide_eq_true h
theorem CL:OpR X (binaryOp .Mult) (fun x y H Q=>∃s k,x= .str s/\y= .int k/\(0<=k/\k<=1000/\s.length<=1000)/\Q (.str (Txt.mul s k)) H):=by
 intro pins s σ H x y v u Q I rx ry h
 obtain⟨z,k,rfl,rfl,⟨h0,h1,h2⟩,q⟩:=h
 obtain⟨t,rfl⟩:=rx
 obtain⟨t',rfl⟩:=ry
 refine SB.mul ⟨?_,fun _ _=>?_,fun _ _=>?_⟩ fun t' tk=>⟨.str _,H,I.tok _,⟨_,rfl⟩,q⟩
 · rw[qa_ (by omega),qa_ (by omega)];rfl
 · rename_i hk _
   have hk':0 < k:=by omega
   have h3:(z.length:Int)*k<=1000*1000:=Int.mul_le_mul (by omega) h1 h0 (by decide)
   have:=Int.le_ediv_of_mul_le hk' (show (z.length:Int)*k<=2 ^ 63 - 1 by omega)
   omega
 · have h3:z.length*k.toNat<=1000*1000:=Nat.mul_le_mul h2 (by omega)
   have h4:sizeLine=16777216:=sizeLine_eq
   show decide (z.length*k.toNat > sizeLine)=false
   exact qa_ (by omega)
def E8:R2:=fun x y H Q=>rI Dk (fun i j=>.int (i*j)) x y H Q\/((∃s k,x= .str s/\y= .int k/\(0<=k/\k<=1000/\s.length<=1000)/\Q (.str (Txt.mul s k)) H)\/IK x y H Q)
theorem ax.rep{K:PySem.W.Frag}{H:Hp}{μ:List Addr}{ds:List M3.D}{vs:List V}(h:ax K H μ ds vs):∀k:Nat,ax K H μ (List.replicate k ds).flatten (List.replicate k vs).flatten
 |0=>rfl
 |k+1=>by
  rw[List.replicate_succ,List.replicate_succ,List.flatten_cons,List.flatten_cons]
  exact h.append (ax.rep h k)
theorem Dm:OpR X (binaryOp .Mult) E8/\Br2 T X.K Y M3.ff E8:=⟨GB.or (CL.or Ff),by
 intro μ H G x y v w Q S dx dy h
 cases x with
 |int i=>cases y with
  |int j=>
   obtain⟨c,h⟩:=j5 (c:=(M3.small i||M3.small j)=true) h
   refine .inl ⟨i,j,dx,dy,?_,h _ H μ (Up.refl _ _) S rfl⟩
   rcases Bool.or_eq_true _ _ |>.mp c with c |c
   · exact .inl (vK c)
   · exact .inr (vK c)
  |_=>exact False.elim h
 |str s=>cases y with
  |int k=>
   obtain⟨c,h⟩:=j5 (c:=0<=k/\k<=1000/\s.length<=1000) h
   exact .inr (.inl ⟨s,k,dx,dy,c,h _ H μ (Up.refl _ _) S rfl⟩)
  |_=>exact False.elim h
 |ref n=>cases y with
  |int k=>
   unfold M3.run M3.ff at h
   dsimp only at h
   cases q1:G[n]? with
   |none=>rw[q1]at h;exact False.elim h
   |some o1=>
    cases o1 with
    |lst xs=>
     rw[q1]at h
     dsimp only at h
     by_cases c:0<=k/\k<=1000000/\xs.length*k.toNat<=M3.aA
     · rw[if_pos c]at h
       obtain⟨c1,c2,c3⟩:=c
       obtain⟨p,ep,rfl⟩:=dx
       obtain⟨vs,hp,rp⟩:=S.obj n p _ ep q1
       refine .inr (.inr ⟨p,k,vs,rfl,dy,hp,by omega,by omega,by rw[<-rp.length,<-bS];exact c3,fun t ht=>?_⟩)
       have u2:=Up.new (μ:=μ) (.lst (List.replicate k.toNat vs).flatten) ht
       refine h _ _ (μ++[t]) u2 (S.new ht rfl ⟨_,aF,ax.up u2 (rp.rep k.toNat)⟩) ⟨t,?_,rfl⟩
       rw[<-S.len];simp
     · rw[if_neg c]at h;exact False.elim h
    |_=>rw[q1]at h;exact False.elim h
  |_=>exact False.elim h
 |_=>exact False.elim h⟩
theorem DM:OpR X (binaryOp .Mod) (rI (fun _ j=>0 < j) fun i j=>.int (i % j))/\Br2 T X.K Y M3.oMod (rI (fun _ j=>0 < j) fun i j=>.int (i % j)):=⟨Fu,by
 intro μ H G x y v w Q S dx dy h
 cases x with
 |int i=>cases y with
  |int j=>
   obtain⟨c,h⟩:=j5 (c:=0 < j) h
   exact⟨i,j,dx,dy,c,h _ H μ (Up.refl _ _) S rfl⟩
  |_=>exact False.elim h
 |_=>exact False.elim h⟩
def EM(K:PySem.W.Frag):R2:=fun x y H Q=>rI0 (fun i j=>.int (i+j)) x y H Q\/(fun x y H Q=>(∃i j,x= .str i/\y= .str j/\i.length+j.length<=sizeLine/\Q (.str (i++j)) H)\/(fun x y H Q=>Ew K x y H Q\/IT x y H Q) x y H Q) x y H Q
theorem yt:OpR X (binaryOp .Add) (EM X.K)/\Br2 T X.K Y M3.eY (EM X.K):=⟨HE.or (wO.or (CQ.or GC)),by
 intro μ H G x y v w Q S dx dy h
 cases x with
 |int i=>cases y with
  |int j=>exact .inl ⟨i,j,dx,dy,h _ H μ (Up.refl _ _) S rfl⟩
  |_=>exact False.elim h
 |str p=>cases y with
  |str q=>
   obtain⟨c,h⟩:=j5 (c:=p.length+q.length<=M3.aA) h
   exact .inr (.inl ⟨p,q,dx,dy,by rw[<-bS];exact c,h _ H μ (Up.refl _ _) S rfl⟩)
  |_=>exact False.elim h
 |tup ds=>cases y with
  |tup es=>
   obtain⟨⟨c1,c2⟩,h⟩:=j5 (c:=ds≠ []/\ds.length+es.length<=M3.aA) h
   obtain⟨p,vs,rfl,sp,rp⟩:=dx
   obtain⟨q,ws,rfl,sq,rq⟩:=dy
   refine .inr (.inr (.inl ⟨p,q,vs,ws,rfl,rfl,sp,sq,?_,by rw[<-rp.length,<-rq.length,<-bS];exact c2,fun z=>?_,fun z t ht=>?_⟩))
   · intro z;subst z
     cases ds with
     |nil=>exact c1 rfl
     |cons d t=>obtain⟨_,_,e,_⟩:=rp;cases e
   · subst z
     refine h _ H μ (Up.refl _ _) S ⟨p,vs,rfl,sp,?_⟩
     have:es=[]:=by
      have:=rq.length
      cases es with
      |nil=>rfl
      |cons _ _=>simp at this
     subst this
     rw[qY_];exact rp
   · have u2:Up μ μ H (upd H t (.tup (vs++ws))):=Up.same (fO.new _ ht)
     exact h _ _ μ u2 (S.same (fO.new _ ht)) ⟨t,_,rfl,SqT.of aF,ax.up u2 (rp.append rq)⟩
  |_=>exact False.elim h
 |ref i=>cases y with
  |ref j=>
   unfold M3.run M3.eY at h
   dsimp only at h
   cases q1:G[i]? with
   |none=>rw[q1]at h;exact False.elim h
   |some o1=>
    cases o1 with
    |lst xs=>
     cases q2:G[j]? with
     |none=>rw[q1,q2]at h;exact False.elim h
     |some o2=>
      cases o2 with
      |lst ys=>
       rw[q1,q2]at h
       dsimp only at h
       by_cases c:xs.length+ys.length<=M3.aA
       · rw[if_pos c]at h
         obtain⟨p,ep,rfl⟩:=dx
         obtain⟨q,eq,rfl⟩:=dy
         obtain⟨vs,hp,rp⟩:=S.obj i p _ ep q1
         obtain⟨ws,hq,rq⟩:=S.obj j q _ eq q2
         refine .inr (.inr (.inr ⟨p,q,vs,ws,rfl,rfl,hp,hq,by rw[<-rp.length,<-rq.length,<-bS];exact c,fun t ht=>?_⟩))
         have u2:=Up.new (μ:=μ) (.lst (vs++ws)) ht
         refine h _ _ (μ++[t]) u2 (S.new ht rfl ⟨_,aF,ax.up u2 (rp.append rq)⟩) ⟨t,?_,rfl⟩
         rw[<-S.len];simp
       · rw[if_neg c]at h;exact False.elim h
      |_=>rw[q1,q2]at h;exact False.elim h
    |_=>rw[q1]at h;exact False.elim h
  |_=>exact False.elim h
 |_=>exact False.elim h⟩
theorem Gu:OpR X (compareOp .GtE) (rI0 fun i j=>.bl (decide (j<=i)))/\Br2 T X.K Y M3.oGe (rI0 fun i j=>.bl (decide (j<=i))):=⟨IJ,by
 intro μ H G x y v w Q S dx dy h
 cases x with
 |int i=>cases y with
  |int j=>exact⟨i,j,dx,dy,h _ H μ (Up.refl _ _) S rfl⟩
  |_=>exact False.elim h
 |_=>exact False.elim h⟩
theorem dY:∀{ds:List M3.D} {ns:List Int},M3.intsOf ds=some ns->ds=ns.map M3.D.int
 | [],_,h=>by cases h;rfl
 |d :: r,ns,h=>by
  cases d with
  |int i=>
   have h:(M3.intsOf r).map (i :: ·)=some ns:=h
   cases q:M3.intsOf r with
   |none=>rw[q]at h;cases h
   |some m=>
    rw[q]at h
    cases h
    rw[dY q];rfl
  |_=>cases h
theorem tf:∀(a b:List Int),M3.oX a b=HT.lexLt a b
 | [],[]=>rfl
 | [],_ :: _=>rfl
 |_ :: _,[]=>rfl
 |a :: r,b :: t=>by
  show (if a=b then M3.oX r t else decide (a < b))=if a=b then HT.lexLt r t else decide (a < b)
  rw[tf r t]
def DK(K:PySem.W.Frag):R2:=fun x y H Q=>rI0 (fun i j=>.bl (decide (i < j))) x y H Q\/JD K x y H Q
theorem Fq(hu:X.A.units < cLine):OpR X (compareOp .Lt) (DK X.K)/\Br2 T X.K Y M3.oLt (DK X.K):=⟨Ip.or (GF hu),by
 intro μ H G x y v w Q S dx dy h
 cases x with
 |int i=>cases y with
  |int j=>exact .inl ⟨i,j,dx,dy,h _ H μ (Up.refl _ _) S rfl⟩
  |_=>exact False.elim h
 |tup ds=>cases y with
  |tup es=>
   unfold M3.oLt at h
   dsimp only at h
   cases q1:M3.intsOf ds with
   |none=>rw[q1]at h;exact False.elim h
   |some m=>
    cases q2:M3.intsOf es with
    |none=>rw[q1,q2]at h;exact False.elim h
    |some n=>
     rw[q1,q2]at h
     rw[dY q1]at dx
     rw[dY q2]at dy
     obtain⟨p,vs,rfl,sp,rp⟩:=dx
     obtain⟨q,ws,rfl,sq,rq⟩:=dy
     rw[ax.ints rp]at sp
     rw[ax.ints rq]at sq
     refine .inr ⟨p,q,m,n,rfl,rfl,sp,sq,?_⟩
     rw[<-tf]
     exact h _ H μ (Up.refl _ _) S rfl
  |_=>exact False.elim h
 |_=>exact False.elim h⟩
end
open PySem PySem.Spec PyProof.Rows L2 PySem.SeqAt
section
variable{X:Cx}{T:Tab}{Y:EX}{pins:List (Addr×Obj)}{σ:L2.St}{H:Hp}{s:Shared}{μ:List Addr}{G:M3.Hh}
theorem nB{f:M3.D->M3.D->Option Bool}:∀{xs ys:List M3.D} {b:Bool},M3.eqZ f xs ys=some b->∃e:Nat->Bool,(∀(j:Nat) x y,xs[j]? =some x->ys[j]? =some y->f x y=some (e j))/\b=(List.range (min xs.length ys.length)).all e
 | [],ys,b,h=>⟨fun _=>true,(fun j x y h=>by simp at h),by cases ys <;> (cases h;simp)⟩
 |x :: xs,[],b,h=>⟨fun _=>true,(fun j x y _ h=>by simp at h),by cases h;simp⟩
 |x :: xs,y :: ys,b,h=>by
  unfold M3.eqZ at h
  cases q:f x y with
  |none=>rw[q]at h;cases h
  |some p=>
   cases q2:M3.eqZ f xs ys with
   |none=>rw[q,q2]at h;cases h
   |some r=>
    rw[q,q2]at h
    cases h
    obtain⟨e,h1,h2⟩:=nB q2
    refine⟨fun j=>match j with
     |0=>p
     |j+1=>e j,fun j a b e1 e2=>?_,?_⟩
    · cases j with
      |zero=>
       simp at e1 e2
       subst e1 e2
       exact q
      |succ j=>exact h1 j a b (by simpa using e1) (by simpa using e2)
    · rw[h2]
      simp only[List.length_cons,Nat.succ_min_succ,List.range_succ_eq_map,List.all_cons,List.all_map]
      rfl
theorem yh(I:Inv X pins σ H s){a:Addr}{vs ws:List V}(h1:SqL X.K H a vs)(h2:SqT X.K H a ws):False:=by
 obtain⟨its,_,⟨o,n,e,c,_⟩,_⟩:=I.list h1
 obtain⟨its2,_,⟨o2,e2,c2,_⟩,_⟩:=I.tuple h2
 rw[e]at e2
 cases e2
 rw[c]at c2
 injection c2 with c3
 exact absurd c3 (by decide)
theorem dk(S:Sim T X.K μ H G){n:Nat}{a:Addr}{xs:List M3.D}(e:μ[n]? =some a)(h:M3.listOf G n=some xs):∃vs,SqL X.K H a vs/\ax X.K H μ xs vs:=by
 unfold M3.listOf at h
 cases q:G[n]? with
 |none=>rw[q]at h;cases h
 |some o=>
  rw[q]at h
  have ob:=S.obj n a o e q
  cases o with
  |lst ys=>cases h;obtain⟨vs,e1,r⟩:=ob;exact⟨vs,SqL.of e1,r⟩
  |frz ys=>cases h;obtain⟨vs,e1,r⟩:=ob;exact⟨vs,e1.sq,r⟩
  |_=>cases h
def sc:V->Option M3.D
 | .non=>some .non
 | .bl b=>some (.bl b)
 | .int i=>some (.int i)
 | .str x=>some (.str x)
 |_=>none
theorem jX{K:PySem.W.Frag}{x d:M3.D}{v:V}(h:Den K H μ x v)(e:sc v=some d):x=d:=by
 cases x with
 |non=>cases (show v= .non from h);cases e;rfl
 |bl b=>cases (show v= .bl b from h);cases e;rfl
 |int i=>cases (show v= .int i from h);cases e;rfl
 |str z=>cases (show v= .str z from h);cases e;rfl
 |ref n=>obtain⟨a,_,rfl⟩:=h;cases e
 |tup ds=>obtain⟨a,vs,rfl,_⟩:=h;cases e
theorem fj{K:PySem.W.Frag}{x:M3.D}{v:V}(h:Den K H μ x v)(e:sc v=none):(∃n a,x= .ref n/\v= .ref a/\μ[n]? =some a)\/∃ds a vs,x= .tup ds/\v= .ref a/\SqT K H a vs/\ax K H μ ds vs:=by
 cases x with
 |non=>cases (show v= .non from h);cases e
 |bl b=>cases (show v= .bl b from h);cases e
 |int i=>cases (show v= .int i from h);cases e
 |str z=>cases (show v= .str z from h);cases e
 |ref n=>obtain⟨a,e1,rfl⟩:=h;exact .inl ⟨n,a,rfl,rfl,e1⟩
 |tup ds=>obtain⟨a,vs,rfl,h1,h2⟩:=h;exact .inr ⟨ds,a,vs,rfl,rfl,h1,h2⟩
theorem EO{k:Nat}{v w:V}{d y:M3.D}{b:Bool}(dy:Den X.K H μ y w)(hv:sc v=some d)(hw:sc w=none)(h:M3.eqG G k d y=some b):b=false:=by
 cases k with
 |zero=>cases h
 |succ k=>
  rcases fj dy hw with ⟨n,a,rfl,rfl,_⟩ |⟨ds,a,vs,rfl,rfl,_⟩ <;> cases v <;> (try cases hv) <;> (try cases h) <;> rfl
theorem EU{k:Nat}{v w:V}{d y:M3.D}{b:Bool}(dy:Den X.K H μ y w)(hv:sc v=some d)(hw:sc w=none)(h:M3.eqG G k y d=some b):b=false:=by
 cases k with
 |zero=>cases h
 |succ k=>
  rcases fj dy hw with ⟨n,a,rfl,rfl,_⟩ |⟨ds,a,vs,rfl,rfl,_⟩ <;> cases v <;> (try cases hv) <;> (try cases h) <;> rfl
theorem jP{k n m:Nat}{b:Bool}(h:M3.eqG G (k+1) (.ref n) (.ref m)=some b):∃xs ys,M3.listOf G n=some xs/\M3.listOf G m=some ys/\(if xs.length=ys.length then M3.eqZ (M3.eqG G k) xs ys else some false)=some b:=by
 have h:(match M3.listOf G n,M3.listOf G m with
  |some a,some b=>if a.length=b.length then M3.eqZ (M3.eqG G k) a b else some false
  |_,_=>none)=some b:=h
 cases q1:M3.listOf G n with
 |none=>rw[q1]at h;cases h
 |some xs=>
  cases q2:M3.listOf G m with
  |none=>rw[q1,q2]at h;cases h
  |some ys=>rw[q1,q2]at h;exact⟨xs,ys,rfl,rfl,h⟩
theorem mY{k:Nat}{ds es:List M3.D}{b:Bool}(h:M3.eqG G (k+1) (.tup ds) (.tup es)=some b):∃p,M3.eqZ (M3.eqG G k) ds es=some p/\b=(p&&decide (ds.length=es.length)):=by
 have h:(M3.eqZ (M3.eqG G k) ds es).map (·&&decide (ds.length=es.length))=some b:=h
 cases q:M3.eqZ (M3.eqG G k) ds es with
 |none=>rw[q]at h;cases h
 |some p=>rw[q]at h;cases h;exact⟨p,rfl,rfl⟩
theorem Cb(I:Inv X pins σ H s)(S:Sim T X.K μ H G):∀(k:Nat) {x y x' y':M3.D} {v w:V} {b b':Bool},Den X.K H μ x v->Den X.K H μ x' v->Den X.K H μ y w->Den X.K H μ y' w->
 M3.eqG G k x y=some b->M3.eqG G k x' y'=some b'->b=b'
 |0,_,_,_,_,_,_,_,_,_,_,_,_,h,_=>by cases h
 |k+1,x,y,x',y',v,w,b,b',dx,dx',dy,dy',h,h'=>by
  have items:∀{xs xs' ys ys':List M3.D} {vs ws:List V} {p q:Bool},ax X.K H μ xs vs->ax X.K H μ xs' vs->ax X.K H μ ys ws->ax X.K H μ ys' ws->M3.eqZ (M3.eqG G k) xs ys=some p->M3.eqZ (M3.eqG G k) xs' ys'=some q->p=q:=by
   intro xs xs' ys ys' vs ws p q r1 r2 r3 r4 e1 e2
   obtain⟨f,hf,rfl⟩:=nB e1
   obtain⟨g,hg,rfl⟩:=nB e2
   have l1:=r1.length
   have l2:=r2.length
   have l3:=r3.length
   have l4:=r4.length
   rw[show min xs'.length ys'.length=min xs.length ys.length by omega]
   have key:∀j∈List.range (min xs.length ys.length),f j=g j:=by
    intro j hj
    have hj:=List.mem_range.mp hj
    have j1:j < xs.length:=by omega
    have j2:j < ys.length:=by omega
    have j3:j < xs'.length:=by omega
    have j4:j < ys'.length:=by omega
    obtain⟨v1,a1,d1⟩:=r1.get (qA_ j1)
    obtain⟨v2,a2,d2⟩:=r2.get (qA_ j3)
    obtain⟨v3,a3,d3⟩:=r3.get (qA_ j2)
    obtain⟨v4,a4,d4⟩:=r4.get (qA_ j4)
    rw[a1]at a2;cases a2
    rw[a3]at a4;cases a4
    exact Cb I S k d1 d2 d3 d4 (hf j _ _ (qA_ j1) (qA_ j2)) (hg j _ _ (qA_ j3) (qA_ j4))
   generalize List.range (min xs.length ys.length)=L at key
   induction L with
   |nil=>rfl
   |cons j r ih=>rw[List.all_cons,List.all_cons,key j qI_,ih fun i hi=>key i (qR_ _ hi)]
  cases hv:sc v with
  |some d1=>
   have e1:=jX dx hv
   have e2:=jX dx' hv
   cases hw:sc w with
   |some d2=>
    have e3:=jX dy hw
    have e4:=jX dy' hw
    subst e1 e2 e3 e4
    rw[h]at h'
    cases h'
    rfl
   |none=>
    subst e1 e2
    rw[EO dy hv hw h,EO dy' hv hw h']
  |none=>
   cases hw:sc w with
   |some d2=>
    have e3:=jX dy hw
    have e4:=jX dy' hw
    subst e3 e4
    rw[EU dx hw hv h,EU dx' hw hv h']
   |none=>
    rcases fj dx hv with ⟨n,a,rfl,rfl,en⟩ |⟨ds,a,vs,rfl,rfl,sq,r⟩
    · rcases fj dy hw with ⟨m,c,rfl,rfl,em⟩ |⟨es,c,ws,rfl,rfl,sq2,r2⟩
      · obtain⟨xs,ys,l1,l2,h⟩:=jP h
        obtain⟨vs1,q1,r1⟩:=dk S en l1
        obtain⟨vs2,q2,r2⟩:=dk S em l2
        rcases fj dx' hv with ⟨n',a',rfl,ea,en'⟩ |⟨ds',a',vs',rfl,ea,sq',r'⟩
        · cases ea
          rcases fj dy' hw with ⟨m',c',rfl,ec,em'⟩ |⟨es',c',ws',rfl,ec,sq2',r2'⟩
          · cases ec
            obtain⟨xs',ys',l1',l2',h'⟩:=jP h'
            obtain⟨vs1',q1',r1'⟩:=dk S en' l1'
            obtain⟨vs2',q2',r2'⟩:=dk S em' l2'
            cases I.kA q1 q1'
            cases I.kA q2 q2'
            have z1:=r1.length
            have z2:=r1'.length
            have z3:=r2.length
            have z4:=r2'.length
            by_cases c:xs.length=ys.length
            · rw[if_pos c]at h
              rw[if_pos (by omega)]at h'
              exact items r1 r1' r2 r2' h h'
            · rw[if_neg c]at h
              rw[if_neg (by omega)]at h'
              cases h;cases h';rfl
          · cases h'
        · cases ea
          exact(yh I q1 sq').elim
      · cases h
    · rcases fj dy hw with ⟨m,c,rfl,rfl,em⟩ |⟨es,c,ws,rfl,rfl,sq2,r2⟩
      · cases h
      · obtain⟨p,hz,rfl⟩:=mY h
        rcases fj dx' hv with ⟨n',a',rfl,ea,en'⟩ |⟨ds',a',vs',rfl,ea,sq',r'⟩
        · cases ea
          rcases fj dy' hw with ⟨m',c',rfl,ec,em'⟩ |⟨es',c',ws',rfl,ec,sq2',r2'⟩
          · obtain⟨xs',ys',l1',l2',h'⟩:=jP h'
            obtain⟨vs1',q1',r1'⟩:=dk S en' l1'
            exact(yh I q1' sq).elim
          · cases h'
        · cases ea
          rcases fj dy' hw with ⟨m',c',rfl,ec,em'⟩ |⟨es',c',ws',rfl,ec,sq2',r2'⟩
          · cases h'
          · cases ec
            obtain⟨p',hz',rfl⟩:=mY h'
            cases I.kO sq sq'
            cases I.kO sq2 sq2'
            have z1:=r.length
            have z2:=r'.length
            have z3:=r2.length
            have z4:=r2'.length
            rw[items r r' r2 r2' hz hz',z1,z2,z3,z4]
theorem ui(I:Inv X pins σ H s)(S:Sim T X.K μ H G):∀(k:Nat) {x y:M3.D} {v:V} {b:Bool},Den X.K H μ x v->Den X.K H μ y v->M3.eqG G k x y=some b->b=true
 |0,_,_,_,_,_,_,h=>by cases h
 |k+1,x,y,v,b,dx,dy,h=>by
  have items:∀{xs ys:List M3.D} {vs:List V} {p:Bool},ax X.K H μ xs vs->ax X.K H μ ys vs->M3.eqZ (M3.eqG G k) xs ys=some p->p=true:=by
   intro xs ys vs p r1 r2 e1
   obtain⟨f,hf,rfl⟩:=nB e1
   rw[List.all_eq_true]
   intro j hj
   have hj:=List.mem_range.mp hj
   have j1:j < xs.length:=by omega
   have j2:j < ys.length:=by omega
   obtain⟨v1,a1,d1⟩:=r1.get (qA_ j1)
   obtain⟨v2,a2,d2⟩:=r2.get (qA_ j2)
   rw[a1]at a2;cases a2
   exact ui I S k d1 d2 (hf j _ _ (qA_ j1) (qA_ j2))
  cases hv:sc v with
  |some d=>
   have e1:=jX dx hv
   have e2:=jX dy hv
   subst e1 e2
   cases v with
   |non=>cases hv;cases h;rfl
   |bl c=>cases hv;cases h;simp
   |int c=>cases hv;cases h;simp
   |str c=>cases hv;cases h;simp
   |_=>cases hv
  |none=>
   rcases fj dx hv with ⟨n,a,rfl,rfl,en⟩ |⟨ds,a,vs,rfl,rfl,sq,r⟩
   · rcases fj dy hv with ⟨m,c,rfl,ec,em⟩ |⟨es,c,ws,rfl,ec,sq2,r2⟩
     · cases ec
       obtain⟨xs,ys,l1,l2,h⟩:=jP h
       obtain⟨vs1,q1,r1⟩:=dk S en l1
       obtain⟨vs2,q2,r2⟩:=dk S em l2
       cases I.kA q1 q2
       rw[if_pos (r1.length.trans r2.length.symm)]at h
       exact items r1 r2 h
     · cases h
   · rcases fj dy hv with ⟨m,c,rfl,ec,em⟩ |⟨es,c,ws,rfl,ec,sq2,r2⟩
     · cases h
     · cases ec
       obtain⟨p,hz,rfl⟩:=mY h
       cases I.kO sq sq2
       rw[items r r2 hz,qZ_ (r.length.trans r2.length.symm)]
       rfl
theorem xT{K:PySem.W.Frag}{ds:List M3.D}{vs:List V}{its:List Value}(r:ax K H μ ds vs)(q:Vals vs its){j:Nat}(h:j < its.toArray.size):∃d v,ds[j]? =some d/\Den K H μ d v/\RelV v its.toArray[j]:=by
 have hl:j < its.length:=by simpa using h
 have h2:j < vs.length:=by rw[q.length];exact hl
 obtain⟨u,e,rv⟩:=q.get (qA_ h2)
 obtain⟨d,e1,r1⟩:=r.get' (qA_ h2)
 refine⟨d,_,e1,r1,?_⟩
 rw[qA_ hl]at e
 cases e
 simpa using rv
theorem yC(I:Inv X pins σ H s)(S:Sim T X.K μ H G):∀(k:Nat) {x y:M3.D} {v w:V} {u u':Value} {b:Bool} {A:Around},A.units+k < cLine->Den X.K H μ x v->Den X.K H μ y w->RelV v u->RelV w u'->M3.eqG G k x y=some b->
 EqAt A s u u' b/\RcAt A s u u' b/\RcNeAt A s u u' (!b)
 |0,_,_,_,_,_,_,_,_,_,_,_,_,_,h=>by cases h
 |k+1,x,y,v,w,u,u',b,A,hu,dx,dy,ru,ru',h=>by
  have hu0:A.units < cLine:=by omega
  have hu1:A.in1.units+k < cLine:=by show A.units+1+k < cLine;omega
  have items:∀{xs ys:List M3.D} {vs ws:List V} {is js:List Value} {p:Bool},ax X.K H μ xs vs->ax X.K H μ ys ws->Vals vs is->Vals ws js->M3.eqZ (M3.eqG G k) xs ys=some p->
   ∃e:Nat->Bool,(∀j (h1:j < is.toArray.size) (h2:j < js.toArray.size),EqAt A.in1 s is.toArray[j] js.toArray[j] (e j))/\p=(List.range (min is.toArray.size js.toArray.size)).all e:=by
   intro xs ys vs ws is js p r1 r2 q1 q2 hz
   obtain⟨e,he,rfl⟩:=nB hz
   refine⟨e,fun j h1 h2=>?_,?_⟩
   · obtain⟨d1,v1,a1,b1,c1⟩:=xT r1 q1 h1
     obtain⟨d2,v2,a2,b2,c2⟩:=xT r2 q2 h2
     exact(yC I S k hu1 b1 b2 c1 c2 (he j _ _ a1 a2)).1
   · have l1:=r1.length
     have l2:=r2.length
     have l3:=q1.length
     have l4:=q2.length
     rw[show min is.toArray.size js.toArray.size=min xs.length ys.length by simp;omega]
  cases x with
  |non=>
   cases (show v= .non from dx)
   cases (show u=Value.none from ru)
   cases y with
   |non=>cases (show w= .non from dy);cases (show u'=Value.none from ru');cases h;exact⟨.same _,.none_none,.none_none⟩
   |int j=>cases (show w= .int j from dy);obtain⟨t,rfl⟩:=(show ∃t,u'=Value.int j t from ru');cases h;exact⟨.none_int _ _,.none_int _ _,.none_int _ _⟩
   |str j=>cases (show w= .str j from dy);obtain⟨t,rfl⟩:=(show ∃t,u'=Value.str j t from ru');cases h;exact⟨.none_str _ _,.none_str _ _,.none_str _ _⟩
   |tup es=>obtain⟨a,vs,rfl,sq,r⟩:=dy;cases (show u'=Value.ref a from ru');cases h;obtain⟨its,_,p,_⟩:=I.tuple sq;exact⟨.none_tuple p hu0,.none_tuple p hu0,.none_tuple p hu0⟩
   |bl j=>cases h
   |ref j=>cases h
  |bl i=>
   cases (show v= .bl i from dx)
   cases (show u=Value.bool i from ru)
   cases y with
   |bl j=>cases (show w= .bl j from dy);cases (show u'=Value.bool j from ru');cases h;exact⟨.bool_bool _ _,.bool_bool _ _,.bool_bool _ _⟩
   |_=>cases h
  |int i=>
   cases (show v= .int i from dx)
   obtain⟨t,rfl⟩:=(show ∃t,u=Value.int i t from ru)
   cases y with
   |non=>cases (show w= .non from dy);cases (show u'=Value.none from ru');cases h;exact⟨.int_none _ _,.int_none _ _,.int_none _ _⟩
   |int j=>
    cases (show w= .int j from dy);obtain⟨t',rfl⟩:=(show ∃t,u'=Value.int j t from ru');cases h
    rw[<-Bool.beq_eq_decide_eq]
    exact⟨.int_int _ _ _ _,.int_int _ _ _ _,.int_int _ _ _ _⟩
   |str j=>cases (show w= .str j from dy);obtain⟨t',rfl⟩:=(show ∃t,u'=Value.str j t from ru');cases h;exact⟨.int_str _ _ _ _,.int_str _ _ _ _,.int_str _ _ _ _⟩
   |tup es=>obtain⟨a,vs,rfl,sq,r⟩:=dy;cases (show u'=Value.ref a from ru');cases h;obtain⟨its,_,p,_⟩:=I.tuple sq;exact⟨.int_tuple _ _ p hu0,.int_tuple _ _ p hu0,.int_tuple _ _ p hu0⟩
   |bl j=>cases h
   |ref j=>cases h
  |str i=>
   cases (show v= .str i from dx)
   obtain⟨t,rfl⟩:=(show ∃t,u=Value.str i t from ru)
   cases y with
   |non=>cases (show w= .non from dy);cases (show u'=Value.none from ru');cases h;exact⟨.str_none _ _,.str_none _ _,.str_none _ _⟩
   |str j=>
    cases (show w= .str j from dy);obtain⟨t',rfl⟩:=(show ∃t,u'=Value.str j t from ru');cases h
    rw[show decide (i=j)=(i==j)from rfl]
    exact⟨.str_str _ _ _ _,.str_str _ _ _ _,.str_str _ _ _ _⟩
   |int j=>cases (show w= .int j from dy);obtain⟨t',rfl⟩:=(show ∃t,u'=Value.int j t from ru');cases h;exact⟨.str_int _ _ _ _,.str_int _ _ _ _,.str_int _ _ _ _⟩
   |tup es=>cases h
   |bl j=>cases h
   |ref j=>cases h
  |tup ds=>
   obtain⟨a,vs,rfl,sq,r⟩:=dx
   cases (show u=Value.ref a from ru)
   obtain⟨is,q1,p1,_⟩:=I.tuple sq
   cases y with
   |non=>cases (show w= .non from dy);cases (show u'=Value.none from ru');cases h;exact⟨.tuple_none p1 hu0,.tuple_none p1 hu0,.tuple_none p1 hu0⟩
   |int j=>cases (show w= .int j from dy);obtain⟨t,rfl⟩:=(show ∃t,u'=Value.int j t from ru');cases h;exact⟨.tuple_int _ _ p1 hu0,.tuple_int _ _ p1 hu0,.tuple_int _ _ p1 hu0⟩
   |tup es=>
    obtain⟨c,ws,rfl,sq2,r2⟩:=dy
    cases (show u'=Value.ref c from ru')
    obtain⟨js,q2,p2,_⟩:=I.tuple sq2
    obtain⟨p,hz,hb⟩:=mY h
    obtain⟨e,he,hp⟩:=items r r2 q1 q2 hz
    have l1:=r.length
    have l2:=r2.length
    have l3:=q1.length
    have l4:=q2.length
    have hb':b=((List.range (min is.toArray.size js.toArray.size)).all e&&is.toArray.size==js.toArray.size):=by
     rw[hb,hp]
     congr 1
     rw[Bool.beq_eq_decide_eq]
     exact decide_eq_decide.mpr (by simp;omega)
    have rc:RcAt A s (.ref a) (.ref c) b:=by rw[hb'];exact .tuples p1 p2 hu0 he
    have rn:RcNeAt A s (.ref a) (.ref c) (!b):=by rw[hb'];exact .tuples p1 p2 hu0 he
    refine⟨?_,rc,rn⟩
    by_cases hac:a=c
    · subst hac
      have d2:Den X.K H μ (.tup ds) (.ref a):=⟨a,vs,rfl,sq,r⟩
      have d3:Den X.K H μ (.tup es) (.ref a):=⟨a,ws,rfl,sq2,r2⟩
      rw[ui I S (k+1) d2 d3 h]
      exact .same _
    · exact .of_refs hac rc
   |_=>cases h
  |ref n=>
   cases y with
   |ref m=>
    obtain⟨xs,ys,l1,l2,hz⟩:=jP h
    obtain⟨a,ea,rfl⟩:=id dx
    obtain⟨c,ec,rfl⟩:=id dy
    cases (show u=Value.ref a from ru)
    cases (show u'=Value.ref c from ru')
    obtain⟨vs,sq,r⟩:=dk S ea l1
    obtain⟨ws,sq2,r2⟩:=dk S ec l2
    obtain⟨is,q1,p1,_⟩:=I.list sq
    obtain⟨js,q2,p2,_⟩:=I.list sq2
    have z1:=r.length
    have z2:=r2.length
    have z3:=q1.length
    have z4:=q2.length
    have two:RcAt A s (.ref a) (.ref c) b/\RcNeAt A s (.ref a) (.ref c) (!b):=by
     by_cases hl:xs.length=ys.length
     · rw[if_pos hl]at hz
       obtain⟨e,he,hp⟩:=items r r2 q1 q2 hz
       have hsz:is.toArray.size=js.toArray.size:=by simp;omega
       rw[show min is.toArray.size js.toArray.size=is.toArray.size by omega]at hp
       rw[hp]
       exact⟨.lists p1.isList p2.isList hsz hu0 he,.lists p1.isList p2.isList hsz hu0 he⟩
     · rw[if_neg hl]at hz
       cases hz
       have hsz:(is.toArray.size !=js.toArray.size)=true:=by simp;omega
       exact⟨.lists_lengths p1.isList p2.isList hsz hu0,.lists_lengths p1.isList p2.isList hsz hu0⟩
    refine⟨?_,two.1,two.2⟩
    by_cases hac:a=c
    · subst hac
      rw[ui I S (k+1) dx dy h]
      exact .same _
    · exact .of_refs hac two.1
   |_=>cases h
end
section
variable{X:Cx}{T:Tab}{Y:EX}
def ra(T:Tab)(K:PySem.W.Frag)(neg:Bool):R2:=fun v w H Q=>∃μ G x y b,Sim T K μ H G/\Den K H μ x v/\Den K H μ y w/\M3.eqG G 8 x y=some b/\Q (.bl (if neg then !b else b)) H
theorem HG(hu:X.A.units+8 < cLine):OpR X (compareOp .Eq) (ra T X.K false):=by
 intro pins s σ H v w u u' Q I r r' h
 obtain⟨μ,G,x,y,b,S,dx,dy,e,q⟩:=h
 exact(yC I S 8 hu dx dy r r' e).2.1 _ _ _ _ ⟨.bl b,H,I,rfl,q⟩
theorem Gy(hu:X.A.units+8 < cLine):OpR X (compareOp .NotEq) (ra T X.K true):=by
 intro pins s σ H v w u u' Q I r r' h
 obtain⟨μ,G,x,y,b,S,dx,dy,e,q⟩:=h
 exact(yC I S 8 hu dx dy r r' e).2.2 _ _ _ _ ⟨.bl (!b),H,I,rfl,q⟩
theorem GP(hu:X.A.units+8 < cLine):OpR X (compareOp .Eq) (ra T X.K false)/\Br2 T X.K Y M3.oEq (ra T X.K false):=⟨HG hu,by
 intro μ H G x y v w Q S dx dy h
 unfold M3.run M3.oEq at h
 cases q:M3.eqG G 8 x y with
 |none=>rw[q]at h;exact False.elim h
 |some b=>
  rw[q]at h
  exact⟨μ,G,x,y,b,S,dx,dy,q,h _ H μ (Up.refl _ _) S rfl⟩⟩
theorem Gs(hu:X.A.units+8 < cLine):OpR X (compareOp .NotEq) (ra T X.K true)/\Br2 T X.K Y M3.oNe (ra T X.K true):=⟨Gy hu,by
 intro μ H G x y v w Q S dx dy h
 unfold M3.run M3.oNe at h
 cases q:M3.eqG G 8 x y with
 |none=>rw[q]at h;exact False.elim h
 |some b=>
  rw[q]at h
  exact⟨μ,G,x,y,b,S,dx,dy,q,h _ H μ (Up.refl _ _) S rfl⟩⟩
end
section
variable{X:Cx}{T:Tab}{Y:EX}{pins:List (Addr×Obj)}{σ:L2.St}{H:Hp}{s:Shared}{μ:List Addr}{G:M3.Hh}
open Classical in
noncomputable def eU(K:PySem.W.Frag)(H:Hp)(μ:List Addr)(G:M3.Hh)(x:M3.D)(u:Value):Bool:=
 if h:∃b d v,Den K H μ d v/\RelV v u/\M3.eqG G 8 d x=some b then h.choose else false
theorem Jk(I:Inv X pins σ H s)(S:Sim T X.K μ H G){x d:M3.D}{v w:V}{u:Value}{b:Bool}(dx:Den X.K H μ x w)(dd:Den X.K H μ d v)(r:RelV v u)(e:M3.eqG G 8 d x=some b):eU X.K H μ G x u=b:=by
 have h:∃b d v,Den X.K H μ d v/\RelV v u/\M3.eqG G 8 d x=some b:=⟨b,d,v,dd,r,e⟩
 unfold eU
 rw[dif_pos h]
 obtain⟨d',v',dd',r',e'⟩:=h.choose_spec
 have hv:v'=v:=r'.inj r
 subst hv
 exact Cb I S 8 dd' dd dx dx e' e
theorem AF(I:Inv X pins σ H s)(S:Sim T X.K μ H G){A:Around}(hu:A.units+8 < cLine){x:M3.D}{w:V}{u':Value}(dx:Den X.K H μ x w)(rx:RelV w u'):
 ∀{ys:List M3.D} {vs:List V} {its:List Value} {b:Bool},ax X.K H μ ys vs->Vals vs its->M3.vU G x ys=some b->(∀u∈its,EqAt A s u u' (eU X.K H μ G x u))/\its.any (eU X.K H μ G x)=b
 | [],_,_,_,r,q,h=>by
   cases (show _=[]from r)
   cases q
   cases h
   exact⟨fun u z=>(by cases z),rfl⟩
 |y :: ys,_,its,b,⟨v,vs,e,d,r⟩,q,h=>by
  subst e
  cases q with
  |@cons _ u _ us rv q=>
   unfold M3.vU at h
   cases e1:M3.eqG G 8 y x with
   |none=>rw[e1]at h;cases h
   |some p=>
    cases e2:M3.vU G x ys with
    |none=>rw[e1,e2]at h;cases h
    |some p2=>
     rw[e1,e2]at h
     cases h
     obtain⟨h1,h2⟩:=AF I S hu dx rx r q e2
     have eu:=Jk I S dx d rv e1
     refine⟨fun u' hu'=>?_,?_⟩
     · rcases qS_.mp hu' with rfl |z
       · rw[eu];exact(yC I S 8 hu d dx rv rx e1).1
       · exact h1 u' z
     · rw[List.any_cons,eu,h2]
theorem sU{κ:Type} [DecidableEq κ]{K:PySem.W.Frag}:∀{kvs:List (κ×M3.D)} {ws:List (κ×V)} (k:κ),Paired (fun(p:κ×M3.D) (q:κ×V)=>p.1=q.1/\Den K H μ p.2 q.2) kvs ws->
 (M3.look kvs k=none/\jC ws k=none)\/∃d v,M3.look kvs k=some d/\jC ws k=some v/\Den K H μ d v
 |_,_,k,.nil=>.inl ⟨rfl,rfl⟩
 |(k1,d) :: kvs,(k2,v) :: ws,k,.cons ⟨h1,h2⟩ t=>by
  cases (show k1=k2 from h1)
  by_cases h:k1=k
  · subst h
    exact .inr ⟨d,v,by simp [M3.look],by simp [jC],h2⟩
  · have e1:M3.look ((k1,d) :: kvs) k=M3.look kvs k:=by simp [M3.look,h]
    have e2:jC ((k1,v) :: ws) k=jC ws k:=by simp [jC,h]
    rw[e1,e2]
    exact sU k t
theorem sT{x:M3.D}{k:M3.Key}{K:PySem.W.Frag}{v:V}(h:M3.pQ x=some k)(d:Den K H μ x v):v=kV k:=by
 cases x with
 |int i=>cases h;exact d
 |str z=>cases h;exact d
 |_=>cases h
end
section
variable{X:Cx}{T:Tab}{Y:EX}
def Bp(T:Tab)(K:PySem.W.Frag)(neg:Bool):R2:=fun v w H Q=>∃μ G x y b,Sim T K μ H G/\Den K H μ x v/\Den K H μ y w/\M3.inG G x y=some b/\Q (.bl (if neg then !b else b)) H
theorem Dp(hu:X.A.units+9 < cLine)(neg:Bool){pins:List (Addr×Obj)}{s:Shared}{σ:L2.St}{H:Hp}{v w:V}{u u':Value}{Q:VK}(I:Inv X pins σ H s)(r:RelV v u)(r':RelV w u')(h:Bp T X.K neg v w H Q):
 wpAny (model X.prog X.w) X.A (compareOp (if neg then .NotIn else .In) u u') (EP X pins σ Q) X.xe s:=by
 obtain⟨μ,G,x,y,b,S,dx,dy,e,q⟩:=h
 have hu1:X.A.in1.units+8 < cLine:=by show X.A.units+1+8 < cLine;omega
 have lists:∀{a:Addr} {vs:List V} {ys:List M3.D},SqL X.K H a vs->ax X.K H μ ys vs->M3.vU G x ys=some b->u'= .ref a->wpAny (model X.prog X.w) X.A (compareOp (if neg then .NotIn else .In) u u') (EP X pins σ Q) X.xe s:=by
  intro a vs ys sq rs hm eu
  subst eu
  obtain⟨its,qv,p,_⟩:=I.list sq
  obtain⟨h1,h2⟩:=AF I S hu1 dx r rs qv hm
  have h3:its.toArray.any (eU X.K H μ G x)=b:=by simpa using h2
  cases neg with
  |false=>exact in_listAt _ p.isList (fun y hy=>h1 y (by simpa using hy)) ⟨.bl b,H,I,by rw[h3];rfl,q⟩
  |true=>exact notIn_listAt _ p.isList (fun y hy=>h1 y (by simpa using hy)) ⟨.bl (!b),H,I,by rw[h3];rfl,q⟩
 cases y with
 |tup ys=>
  obtain⟨a,vs,rfl,sq,rs⟩:=dy
  cases (show u'=Value.ref a from r')
  obtain⟨its,qv,p,_⟩:=I.tuple sq
  obtain⟨h1,h2⟩:=AF I S hu1 dx r rs qv e
  have h3:its.toArray.any (eU X.K H μ G x)=b:=by simpa using h2
  cases neg with
  |false=>exact in_tupleAt _ p (fun y hy=>h1 y (by simpa using hy)) ⟨.bl b,H,I,by rw[h3];rfl,q⟩
  |true=>exact notIn_tupleAt _ p (fun y hy=>h1 y (by simpa using hy)) ⟨.bl (!b),H,I,by rw[h3];rfl,q⟩
 |ref n=>
  obtain⟨a,ea,rfl⟩:=dy
  cases (show u'=Value.ref a from r')
  unfold M3.inG at e
  dsimp only at e
  cases qn:G[n]? with
  |none=>rw[qn]at e;cases e
  |some o=>
   rw[qn]at e
   have ob:=S.obj n a o ea qn
   cases o with
   |lst ys=>
    obtain⟨vs,e1,rs⟩:=ob
    exact lists (SqL.of e1) rs e rfl
   |frz ys=>
    obtain⟨vs,e1,rs⟩:=ob
    exact lists e1.sq rs e rfl
   |dK kvs=>
    obtain⟨ws,e1,rs⟩:=ob
    dsimp only at e
    cases qk:M3.pQ x with
    |none=>rw[qk]at e;cases e
    |some k=>
     rw[qk]at e
     have e:some (M3.look kvs k).isSome=some b:=e
     have hb:(jC ws k).isSome=b:=by
      rcases sU k rs with ⟨h1,h2⟩ |⟨d,v',h1,h2,_⟩
      · rw[h2];rw[h1]at e;cases e;rfl
      · rw[h2];rw[h1]at e;cases e;rfl
     cases sT qk dx
     cases neg with
     |false=>exact Kj (by omega) I (qQ.k e1) r fun s' I'=>⟨.bl b,H,I',by rw[hb];rfl,q⟩
     |true=>exact CW (by omega) I (qQ.k e1) r fun s' I'=>⟨.bl (!b),H,I',by rw[hb];rfl,q⟩
   |dF kvs=>cases e
   |dT kvs=>cases e
   |ins C fs=>cases e
 |_=>cases e
theorem zm(hu:X.A.units+9 < cLine):OpR X (compareOp .NotIn) (Bp T X.K true)/\Br2 T X.K Y M3.nG (Bp T X.K true):=⟨fun pins s σ H v w u u' Q I r r' h=>Dp hu true I r r' h,by
 intro μ H G x y v w Q S dx dy h
 unfold M3.run M3.nG at h
 cases q:M3.inG G x y with
 |none=>rw[q]at h;exact False.elim h
 |some b=>
  rw[q]at h
  exact⟨μ,G,x,y,b,S,dx,dy,q,h _ H μ (Up.refl _ _) S rfl⟩⟩
end
end L3
namespace HT
open PySem PyProof.Rows
theorem Cj(A:Around)(s:Shared)(a:Int)(t:Tok)(c:Int)(u:Tok)(prog:Program)(w:World)(E:Value->Shared->Prop)(Q:Value->Shared->Prop)(h:Q (.bool (decide (c < a))) s):
 wpAny (model prog w) A (richCompare .Gt (.int a t) (.int c u)) Q E s:=
 (PyProof.Rows.gt_int h:wpAny (model prog w) A (compareOp .Gt (.int a t) (.int c u)) Q E s)
section
open PySem.SeqAt
open PySem.AutoSeq1 (wpAny_loadPart')
open PySem.MeetsSeq PySem.MeetsSeq2 PySem.MeetsSeq3
theorem rG(l b:Addr)(items items2:Array Value)(n n2:Nat)(dd dd2:Option Addr)(sl sl2:Array (Option Value))(ns ms:List Int)(hi:IntsAre items.toList ns)(hj:IntsAre items2.toList ms):
 Meets (Builtin.«tuple.__gt__» ⟨[.ref l,.ref b],[]⟩)
  (fun _ R s=>s.heap.get? l=some {cls:= .type "tuple",dict:=dd,data:= .seq items n,slots:=sl}/\s.heap.get? b=some {cls:= .type "tuple",dict:=dd2,data:= .seq items2 n2,slots:=sl2}/\
    R (.ok (.ret (.bool (lexLt ms ns)))) s):=
 .of_wp fun prog w A R s h=>by
  obtain⟨hp,g,d,tk,os⟩:=s;obtain⟨hl,hb,h⟩:=h
  have f2:=AutoSeq1.sub_tuple_tuple
  have z1:items.size=ns.length:=by rw[<-hi.length];simp
  have z2:items2.size=ms.length:=by rw[<-hj.length];simp
  wp_walk using wpAny_loadPart' hl,wpAny_loadPart' hb,wpAny_forIn_list _ (fun rest b s'=>b.1=none/\s'=⟨hp,g,d,tk,os⟩/\∃(vs ws:List Value) (ns' ms':List Int),rest=vs.zip ws/\
   IntsAre vs ns'/\IntsAre ws ms'/\ns'.length+items2.size=ms'.length+items.size/\R (.ok (.ret (.bool (lexLt ms' ns')))) ⟨hp,g,d,tk,os⟩) _
  case turn=>
   rintro⟨y,x⟩ rest b s' ⟨hb',rfl,vs,ws,ns',ms',hz,hvi,hwi,hlen,hR⟩
   cases hvi with
   |nil=>rw[List.zip_nil_left]at hz;cases hz
   |cons a t hvi'=>
    cases hwi with
    |nil=>rw[List.zip_nil_right]at hz;cases hz
    |cons c u hwi'=>
     rw[List.zip_cons_cons]at hz
     injection hz with hyx hrest
     injection hyx with hy hx
     subst hy hx
     rw[qR]at hR
     simp only[List.length_cons]at hlen
     obtain⟨e,he,hiff⟩:=vX A.in1 ⟨hp,g,d,tk,os⟩ a t c u
     refine wpAny_bind (he prog w _ _ ?_)
     cases e with
     |true=>
      rw[if_pos (hiff.mp rfl).symm]at hR
      wp_walk
      exact⟨rfl,rfl,_,_,_,_,hrest,hvi',hwi',by omega,hR⟩
     |false=>
      rw[if_neg (fun q=>absurd (hiff.mpr (Eq.symm q)) qC_)]at hR
      have hri:=Cj A.in1 ⟨hp,g,d,tk,os⟩ a t c u prog w
      wp_walk using hri
      exact⟨_,rfl,by simpa using hR⟩
  case fin=>
   rintro⟨b1,b2⟩ s' ⟨hb',rfl,vs,ws,ns',ms',hz,hvi,hwi,hlen,hR⟩
   simp only at hb'
   subst hb'
   have hv:lexLt ms' ns'=decide (items2.size < items.size):=by
    cases hvi with
    |nil=>
     cases hwi with
     |nil=>
      simp only[List.length_nil]at hlen
      rw[lP]
      exact(qa_ (by omega)).symm
     |cons c u hw=>
      simp only[List.length_nil,List.length_cons]at hlen
      rw[jE]
      exact(qa_ (by omega)).symm
    |cons a t hv=>
     cases hwi with
     |nil=>
      simp only[List.length_nil,List.length_cons]at hlen
      rw[kj]
      exact(qZ_ (by omega)).symm
     |cons c u hw=>
      rw[List.zip_cons_cons]at hz
      cases hz
   rw[hv]at hR
   wp_walk
   exact⟨_,rfl,by simpa [Builtin.Tuple.tupleCompareSizes] using hR⟩
  case h=>
   exact⟨rfl,rfl,items.toList,items2.toList,ns,ms,rfl,hi,hj,by omega,h⟩
end
theorem w9{prog:Program}{w:World}{A:Around}{E:Value->Shared->Prop}{s:Shared}{l b:Addr}{items items2:Array Value}{ns ms:List Int}{Q:Value->Shared->Prop}(hl:IsTup s.heap l items)(hb:IsTup s.heap b items2)(hi:IntsAre items.toList ns)(hj:IntsAre items2.toList ms)
 (hu:A.units < cLine) (h:Q (.bool (lexLt ms ns)) s):wpAny (model prog w) A (compareOp .Gt (.ref l) (.ref b)) Q E s:=by
 obtain⟨⟨cls,dd,data,sl⟩,ho,hc,n,hd⟩:=id hl
 obtain⟨⟨cls2,dd2,data2,sl2⟩,ho2,hc2,n2,hd2⟩:=id hb
 simp only at hc hd hc2 hd2
 subst hc hd hc2 hd2
 exact richCompare_meets_room (op:= .Gt) ⟨_,ho,rfl⟩ ⟨_,ho2,rfl⟩ PySem.F.slot_tuple_gt PySem.F.entry_tuple_gt (PySem.F.args_tuple_gt_2 _ _) (rG l b items items2 n n2 dd dd2 sl sl2 ns ms hi hj)
  ⟨ho,ho2,show Value.bool (lexLt ms ns)≠Value.notImplemented/\Q (.bool (lexLt ms ns)) s from⟨(fun x=>nomatch x),h⟩⟩ hu
end HT
namespace L3
open PySem PySem.Spec PyProof.Rows L2 PySem.SeqAt
section
variable{X:Cx}{T:Tab}{Y:EX}{a b e:Expr}{es:List Expr}{fa fb:M3.E3}{ta tb:M3.T3}{f3:M3.A3}{pos:Pos}{rest:List Expr}
def IY(K:PySem.W.Frag):R2:=fun x y H Q=>∃a b ns ms,x= .ref a/\y= .ref b/\SqT K H a (ns.map V.int)/\SqT K H b (ms.map V.int)/\Q (.bl (HT.lexLt ms ns)) H
theorem Fe(hu:X.A.units < cLine):OpR X (compareOp .Gt) (IY X.K):=by
 intro pins s σ H x y v u Q I rx ry h
 obtain⟨a,b,ns,ms,rfl,rfl,ha,hb,q⟩:=h
 cases rx
 cases ry
 obtain⟨its,r1,p1,_⟩:=I.tuple ha
 obtain⟨its2,r2,p2,_⟩:=I.tuple hb
 have i1:IntsAre its.toArray.toList ns:=intsAre_of r1
 have i2:IntsAre its2.toArray.toList ms:=intsAre_of r2
 exact HT.w9 p1 p2 i1 i2 hu ⟨.bl (HT.lexLt ms ns),H,I,rfl,q⟩
def DQ(K:PySem.W.Frag):R2:=fun x y H Q=>rI0 (fun i j=>.bl (decide (j < i))) x y H Q\/IY K x y H Q
theorem Gj(hu:X.A.units < cLine):OpR X (compareOp .Gt) (DQ X.K)/\Br2 T X.K Y M3.oGt (DQ X.K):=⟨Jz.or (Fe hu),by
 intro μ H G x y v w Q S dx dy h
 cases x with
 |int i=>cases y with
  |int j=>exact .inl ⟨i,j,dx,dy,h _ H μ (Up.refl _ _) S rfl⟩
  |_=>exact False.elim h
 |tup ds=>cases y with
  |tup es=>
   unfold M3.oGt at h
   dsimp only at h
   cases q1:M3.intsOf ds with
   |none=>rw[q1]at h;exact False.elim h
   |some m=>
    cases q2:M3.intsOf es with
    |none=>rw[q1,q2]at h;exact False.elim h
    |some n=>
     rw[q1,q2]at h
     rw[dY q1]at dx
     rw[dY q2]at dy
     obtain⟨p,vs,rfl,sp,rp⟩:=dx
     obtain⟨q,ws,rfl,sq,rq⟩:=dy
     rw[ax.ints rp]at sp
     rw[ax.ints rq]at sq
     refine .inr ⟨p,q,m,n,rfl,rfl,sp,sq,?_⟩
     rw[<-tf]
     exact h _ H μ (Up.refl _ _) S rfl
  |_=>exact False.elim h
 |_=>exact False.elim h⟩
theorem xn{K:PySem.W.Frag}{H:Hp}{μ:List Addr}{xs:List M3.D}{vs:List V}{i:Int}{d:M3.D}(r:ax K H μ xs vs)(h:M3.atI xs i=some d):∃v,L2.atI vs i=some v/\Den K H μ d v:=by
 unfold M3.atI at h
 unfold L2.atI
 rw[r.length]at h
 have e:M3.ixN vs.length i=L2.ixN vs.length i:=rfl
 rw[e]at h
 cases q:L2.ixN vs.length i with
 |none=>rw[q]at h;cases h
 |some j=>rw[q]at h;exact r.get h
theorem m9{Z:Nat->M3.Hh->Prop}{o:Option M3.D}{G:M3.Hh}{P:M3.D->M3.Hh->Prop}(h:M3.run (M3.mW o) G P Z):∃d,o=some d/\P d G:=by
 cases o with
 |none=>exact False.elim h
 |some d=>exact⟨d,rfl,h⟩
theorem D4(hu:X.A.units+1 < cLine):IxR X (fun x y H Q=>∃a v,x= .ref a/\qQ H a y (some v)/\Q v H):=by
 intro value slice pins s σ H x y v u Q I rx ry h hs
 obtain⟨a,z,rfl,g,q⟩:=h
 cases (show v=Value.ref a from rx)
 exact tail_any (vB I g) PySem.F.slot_dict_getitem.lookup (zc hu I g ry fun w' s3 I3 rw'=>⟨z,H,I3,rw',q⟩) hs
def J5(K:PySem.W.Frag):R2:=fun x y H Q=>Ic K x y H Q\/(fun x y H Q=>JC K x y H Q\/∃a v,x= .ref a/\qQ H a y (some v)/\Q v H) x y H Q
theorem Fg{K:PySem.W.Frag}:Br2 T K Y M3.oIx (J5 K):=by
 intro μ H G x y v w Q S dx dy h
 cases x with
 |tup xs=>
  cases y with
  |int i=>
   obtain⟨d,e,q⟩:=m9 h
   obtain⟨p,vs,rfl,sq,r⟩:=dx
   obtain⟨z,e2,r2⟩:=xn r e
   exact .inr (.inl ⟨p,vs,i,z,rfl,dy,sq,e2,q z H μ (Up.refl _ _) S r2⟩)
  |_=>exact False.elim h
 |ref n=>
  unfold M3.run M3.oIx at h
  dsimp only at h
  obtain⟨p,ep,rfl⟩:=dx
  cases qn:G[n]? with
  |none=>rw[qn]at h;exact False.elim h
  |some o=>
   have ob:=S.obj n p o ep qn
   cases o with
   |lst xs=>
    cases y with
    |int i=>
     rw[qn]at h
     obtain⟨d,e,q⟩:=m9 (P:=cJ T K μ H Q) h
     obtain⟨vs,e1,r⟩:=ob
     obtain⟨z,e2,r2⟩:=xn r e
     exact .inl ⟨p,vs,i,z,rfl,dy,SqL.of e1,e2,q z H μ (Up.refl _ _) S r2⟩
    |_=>rw[qn]at h;exact False.elim h
   |frz xs=>
    cases y with
    |int i=>
     rw[qn]at h
     obtain⟨d,e,q⟩:=m9 (P:=cJ T K μ H Q) h
     obtain⟨vs,e1,r⟩:=ob
     obtain⟨z,e2,r2⟩:=xn r e
     exact .inl ⟨p,vs,i,z,rfl,dy,e1.sq,e2,q z H μ (Up.refl _ _) S r2⟩
    |_=>rw[qn]at h;exact False.elim h
   |dK kvs=>
    have h2:M3.run (fun G=>match M3.pQ y with
     |some k=>M3.mW (M3.look kvs k) G
     |none=>none) G (cJ T K μ H Q) (Y.x μ H):=by
     rw[qn]at h
     cases y <;> exact h
    unfold M3.run at h2
    dsimp only at h2
    cases qk:M3.pQ y with
    |none=>rw[qk]at h2;exact False.elim h2
    |some k=>
     rw[qk]at h2
     obtain⟨d,e,q⟩:=m9 (P:=cJ T K μ H Q) h2
     obtain⟨ws,e1,r⟩:=ob
     cases sT qk dy
     rcases sU k r with ⟨z,_⟩ |⟨d',z,l1,l2,r2⟩
     · rw[z]at e;cases e
     · rw[l1]at e;cases e
       exact .inr (.inr ⟨p,z,rfl,by rw[<-l2];exact qQ.k e1,q z H μ (Up.refl _ _) S r2⟩)
   |dF kvs=>rw[qn]at h;cases y <;> exact False.elim h
   |dT kvs=>rw[qn]at h;cases y <;> exact False.elim h
   |ins C fs=>rw[qn]at h;cases y <;> exact False.elim h
 |_=>exact False.elim h
theorem JW(hu:X.A.units+1 < cLine)(ha:PE X a (tE T X.K Y fa))(hb:PE X b (tE T X.K Y fb))(hs:pv b:=by intro _ _;rfl):PE X (.Subscript a b pos) (tE T X.K Y (M3.eOp M3.oIx fa fb)):=
 PE.of (E2 (D2.or (HV.or (D4 hu))) ha hb hs) fun _ _ _ h=>Bo Fg h
end
section
variable{X:Cx}{T:Tab}{Y:EX}{a b e o:Expr}{es:List Expr}{fa fb:M3.E3}{ta tb:M3.T3}{f3:M3.A3}{pos p:Pos}{rest:List Expr}{g:List M3.D->M3.M M3.D}
def BrA(T:Tab)(K:PySem.W.Frag)(Y:EX)(g:List M3.D->M3.M M3.D)(r:List V->Hp->VK->Prop):Prop:=
 ∀μ H G ds vs Q,Sim T K μ H G->ax K H μ ds vs->M3.run (g ds) G (cJ T K μ H Q) (Y.x μ H)->r vs H Q
theorem BM{K:PySem.W.Frag}{r:List V->Hp->VK->Prop}(br:BrA T K Y g r){σ:L2.St}{H:Hp}{Q:VK}(h:tE T K Y (M3.aw g f3) σ H Q):tCB r (tA T K Y f3) σ H Q:=by
 obtain⟨μ,σ3,G,S,sd,h⟩:=h
 exact⟨μ,σ3,G,S,sd,oO h fun ds G1 vs H1 μ1 u1 S1 d1 h1=>br μ1 H1 G1 ds vs Q S1 d1 (cm h1 fun _ _ q=>q.up u1)⟩
theorem yg{x:Str}{id:String}{r:List V->Hp->VK->Prop}(hc:fL X (.builtin id) r)(br:BrA T X.K Y g r)(hm:X.mg x=none)(hv:bootBuiltins x=some (.builtin id))(ha:PA X (e :: es) (tA T X.K Y f3))(hg:Gl X x:=by rfl)(hn:x≠"__name__":=by decide)(hdb:(x==("__debug__":Str))=false:=by decide)
 (he:starEach (e :: es) X.env=(false,eval e X.env) :: starEach es X.env:=by rfl) (hpl:(backTo pos (starEach es X.env)).any (·.1)=false:=by rfl):PE X (.Call (.Name x p) (e :: es) [] pos) (tE T X.K Y (M3.aw g f3)):=
 PE.of (pL hc hg hm hv ha hn hdb he hpl) fun _ _ _ h=>BM br h
theorem vm{x:Str}{id:String}{r:List V->Hp->VK->Prop}(hc:fL X (.type id) r)(br:BrA T X.K Y g r)(hm:X.mg x=none)(hv:bootBuiltins x=some (.type id))(ha:PA X (e :: es) (tA T X.K Y f3))(hg:Gl X x:=by rfl)(hn:x≠"__name__":=by decide)(hdb:(x==("__debug__":Str))=false:=by decide)
 (he:starEach (e :: es) X.env=(false,eval e X.env) :: starEach es X.env:=by rfl) (hpl:(backTo pos (starEach es X.env)).any (·.1)=false:=by rfl):PE X (.Call (.Name x p) (e :: es) [] pos) (tE T X.K Y (M3.aw g f3)):=
 PE.of (yS hc hg hm hv ha hn hdb he hpl) fun _ _ _ h=>BM br h
theorem lN{K:PySem.W.Frag}{H:Hp}{μ:List Addr}{d:M3.D}{vs:List V}(h:ax K H μ [d] vs):∃v,vs=[v]/\Den K H μ d v:=by
 obtain⟨v,r,rfl,h,t⟩:=h
 cases (show r=[]from t)
 exact⟨v,rfl,h⟩
theorem IL{K:PySem.W.Frag}{H:Hp}{μ:List Addr}{d c:M3.D}{vs:List V}(h:ax K H μ [d,c] vs):∃v w,vs=[v,w]/\Den K H μ d v/\Den K H μ c w:=by
 obtain⟨v,r,rfl,h,t⟩:=h
 obtain⟨w,rfl,h2⟩:=lN t
 exact⟨v,w,rfl,h,h2⟩
def Ka(K:PySem.W.Frag):List V->Hp->VK->Prop:=fun xs H Q=>(∃x n,xs=[x]/\Ih K x H n/\Q (.int n) H)\/∃a kvs,xs=[V.ref a]/\H a=some (.dK kvs)/\Q (.int kvs.length) H
theorem GX{K:PySem.W.Frag}:BrA T K Y M3.di (Ka K):=by
 intro μ H G ds vs Q S d h
 unfold M3.run M3.di at h
 match ds,d,h with
 | [.tup xs],d,h=>
   obtain⟨v,rfl,a,ws,rfl,sq,r⟩:=lN d
   dsimp only at h
   by_cases c:xs.length<=M3.aA
   · rw[if_pos c]at h
     refine .inl ⟨_,xs.length,rfl,.inr ⟨ws,sq,r.length⟩,h _ H μ (Up.refl _ _) S rfl⟩
   · rw[if_neg c]at h;exact False.elim h
 | [.str x],d,h=>
   obtain⟨v,rfl,d'⟩:=lN d
   cases (show v= .str x from d')
   dsimp only at h
   by_cases c:x.length<=M3.aA
   · rw[if_pos c]at h
     exact .inl ⟨_,x.length,rfl,⟨by rw[<-bS];exact c,rfl⟩,h _ H μ (Up.refl _ _) S rfl⟩
   · rw[if_neg c]at h;exact False.elim h
 | [.ref n],d,h=>
   obtain⟨v,rfl,a,ea,rfl⟩:=lN d
   dsimp only at h
   cases q:G[n]? with
   |none=>rw[q]at h;exact False.elim h
   |some o=>
    rw[q]at h
    have ob:=S.obj n a o ea q
    cases o with
    |lst xs=>obtain⟨ws,e1,r⟩:=ob;exact .inl ⟨_,xs.length,rfl,.inl ⟨ws,SqL.of e1,r.length⟩,h _ H μ (Up.refl _ _) S rfl⟩
    |frz xs=>obtain⟨ws,e1,r⟩:=ob;exact .inl ⟨_,xs.length,rfl,.inl ⟨ws,e1.sq,r.length⟩,h _ H μ (Up.refl _ _) S rfl⟩
    |dK kvs=>obtain⟨ws,e1,r⟩:=ob;exact .inr ⟨a,ws,rfl,e1,by rw[<-Paired.length r];exact h _ H μ (Up.refl _ _) S rfl⟩
    |dF kvs=>exact False.elim h
    |dT kvs=>exact False.elim h
    |ins C fs=>exact False.elim h
 | [],_,h=>exact False.elim h
 | [.non],_,h=>exact False.elim h
 | [.bl _],_,h=>exact False.elim h
 | [.int _],_,h=>exact False.elim h
 |x :: _ :: _,_,h=>cases x <;> exact False.elim h
theorem Bl(hm:X.mg "len"=none)(ha:PA X (e :: es) (tA T X.K Y f3))(hg:Gl X "len":=by rfl)(he:starEach (e :: es) X.env=(false,eval e X.env) :: starEach es X.env:=by rfl)(hpl:(backTo pos (starEach es X.env)).any (·.1)=false:=by rfl):
 PE X (.Call (.Name "len" p) (e :: es) [] pos) (tE T X.K Y (M3.aw M3.di f3)):=yg (Ce.or zT) GX hm boot_len ha hg (by decide) (by decide) he hpl
theorem vw:∀(r:List Int) (m:Int),M3.jz m r∈m :: r
 | [],m=>qI_
 |x :: r,m=>by
  have h:=vw r (if x > m then x else m)
  show M3.jz (if x > m then x else m) r∈m :: x :: r
  rcases qS_.mp h with h |h
  · rw[h];split
    · exact qR_ _ qI_
    · exact qI_
  · exact qR_ _ (qR_ _ h)
theorem tD:∀(r:List Int) (m a:Int),a∈m :: r->a<=M3.jz m r
 | [],m,a,h=>by simp at h;exact Int.le_of_eq h
 |x :: r,m,a,h=>by
  show a<=M3.jz (if x > m then x else m) r
  have h1:=tD r (if x > m then x else m) (if x > m then x else m) qI_
  rcases qS_.mp h with h |h
  · subst h;split at h1 <;> (try split) <;> omega
  · rcases qS_.mp h with h |h
    · subst h;split at h1 <;> (try split) <;> omega
    · exact tD r _ a (qR_ _ h)
theorem zU(hc:X.calm=true):fL X (.builtin "max") (fun xs H Q=>∃a m r,xs=[.ref a]/\SqL X.K H a ((m :: r).map V.int)/\Q (.int (M3.jz m r)) H):=by
 intro pins s σ H xs us Q I rv h
 obtain⟨a,m,r,rfl,sq,q⟩:=h
 obtain⟨u,rfl,ru⟩:=vals1 rv
 cases ru
 obtain⟨its,qv,pl,_⟩:=I.list sq
 have hi:IntsAre its (m :: r):=intsAre_of qv
 obtain⟨xs,e⟩:=hi.allInts.items
 have hns:m :: r=xs.toList.map (·.1):=by rw[<-hi.numsOf,<-nums_intItems,<-e]
 have hsz:0 < xs.size:=by
  have h3:=congrArg List.length hns
  rw[qM_,Array.length_toList]at h3
  simp at h3;omega
 have hl:=pl.isList
 rw[e]at hl
 refine max_intList (I.ok.hd hc) hl hsz fun v h' tk hv hk=>?_
 obtain⟨t,rfl⟩:=intItems_at hv
 obtain⟨h1,h2⟩:=argBest_gt (numAt xs) (xs.size - 1)
 have hmem:numAt xs (argBest (fun i j=>decide (numAt xs i > numAt xs j)) (xs.size - 1))∈m :: r:=by
  rw[hns,numAt_eq];exact getD_mem (by rw[qM_,Array.length_toList];omega)
 have hle:M3.jz m r<=numAt xs (argBest (fun i j=>decide (numAt xs i > numAt xs j)) (xs.size - 1)):=by
  have hM:=vw r m
  rw[hns]at hM
  obtain⟨j,hj,ej⟩:=mem_getD hM
  rw[qM_,Array.length_toList]at hj
  rw[<-ej,<-numAt_eq];exact h2 j (by omega)
 have heq:numAt xs (argBest (fun i j=>decide (numAt xs i > numAt xs j)) (xs.size - 1))=M3.jz m r:=Int.le_antisymm (tD r m _ hmem) hle
 exact⟨.int _,H,I.kept hk,⟨t,by rw[heq]⟩,q⟩
def Kb(K:PySem.W.Frag):List V->Hp->VK->Prop:=fun xs H Q=>(∃i j,xs=[.int i,.int j]/\Q (.int (if j > i then j else i)) H)\/∃a m r,xs=[.ref a]/\SqL K H a ((m :: r).map V.int)/\Q (.int (M3.jz m r)) H
theorem GA{K:PySem.W.Frag}:BrA T K Y M3.zx (Kb K):=by
 intro μ H G ds vs Q S d h
 unfold M3.run M3.zx at h
 match ds,d,h with
 | [.int i,.int j],d,h=>
   obtain⟨v,w,rfl,d1,d2⟩:=IL d
   cases d1;cases d2
   exact .inl ⟨_,_,rfl,h _ H μ (Up.refl _ _) S rfl⟩
 | [.ref n],d,h=>
   obtain⟨v,rfl,a,ea,rfl⟩:=lN d
   dsimp only at h
   cases q:G[n]? with
   |none=>rw[q]at h;exact False.elim h
   |some o=>
    rw[q]at h
    have ob:=S.obj n a o ea q
    cases o with
    |lst xs=>
     obtain⟨ws,e1,r⟩:=ob
     dsimp only at h
     cases qi:M3.intsOf xs with
     |none=>rw[qi]at h;exact False.elim h
     |some ns=>
      rw[qi]at h
      cases ns with
      |nil=>exact False.elim h
      |cons m t=>
       rw[dY qi]at r
       rw[ax.ints r]at e1
       exact .inr ⟨a,m,t,rfl,SqL.of e1,h _ H μ (Up.refl _ _) S rfl⟩
    |_=>exact False.elim h
 | [],_,h=>exact False.elim h
 | [.non],_,h=>exact False.elim h
 | [.bl _],_,h=>exact False.elim h
 | [.int _],_,h=>exact False.elim h
 | [.str _],_,h=>exact False.elim h
 | [.tup _],_,h=>exact False.elim h
 | .non :: _ :: _,_,h=>exact False.elim h
 | .bl _ :: _ :: _,_,h=>exact False.elim h
 | .str _ :: _ :: _,_,h=>exact False.elim h
 | .tup _ :: _ :: _,_,h=>exact False.elim h
 | .ref _ :: _ :: _,_,h=>exact False.elim h
 | .int _ :: .non :: _,_,h=>exact False.elim h
 | .int _ :: .bl _ :: _,_,h=>exact False.elim h
 | .int _ :: .str _ :: _,_,h=>exact False.elim h
 | .int _ :: .tup _ :: _,_,h=>exact False.elim h
 | .int _ :: .ref _ :: _,_,h=>exact False.elim h
 | .int _ :: .int _ :: _ :: _,_,h=>exact False.elim h
theorem z9(hc:X.calm=true)(hm:X.mg "max"=none)(ha:PA X (e :: es) (tA T X.K Y f3))(hg:Gl X "max":=by rfl)(he:starEach (e :: es) X.env=(false,eval e X.env) :: starEach es X.env:=by rfl)(hpl:(backTo pos (starEach es X.env)).any (·.1)=false:=by rfl):
 PE X (.Call (.Name "max" p) (e :: es) [] pos) (tE T X.K Y (M3.aw M3.zx f3)):=yg ((yQ hc).or (zU hc)) GA hm boot_max ha hg (by decide) (by decide) he hpl
theorem CN{K:PySem.W.Frag}:BrA T K Y M3.rT (fun xs H Q=>∃p ys,xs=[.ref p]/\(SqL K H p ys\/SqT K H p ys)/\∀l,H l=none->Q (.ref l) (upd H l (.lst ys))):=by
 intro μ H G ds vs Q S d h
 have fin:∀{xs:List M3.D} {ws:List V},ax K H μ xs ws->cJ T K μ H Q (.ref G.length) (G++[.lst xs])->∀l,H l=none->Q (.ref l) (upd H l (.lst ws)):=by
  intro xs ws r q l hl
  have u2:=Up.new (μ:=μ) (.lst ws) hl
  refine q _ _ (μ++[l]) u2 (S.new hl rfl ⟨ws,aF,ax.up u2 r⟩) ⟨l,?_,rfl⟩
  rw[<-S.len];simp
 unfold M3.run M3.rT at h
 match ds,d,h with
 | [.tup xs],d,h=>
   obtain⟨v,rfl,a,ws,rfl,sq,r⟩:=lN d
   dsimp only at h
   by_cases c:xs.length<=M3.aA
   · rw[if_pos c]at h
     exact⟨a,ws,rfl,.inr sq,fin r h⟩
   · rw[if_neg c]at h;exact False.elim h
 | [.ref n],d,h=>
   obtain⟨v,rfl,a,ea,rfl⟩:=lN d
   dsimp only at h
   cases q:G[n]? with
   |none=>rw[q]at h;exact False.elim h
   |some o=>
    rw[q]at h
    have ob:=S.obj n a o ea q
    cases o with
    |lst xs=>obtain⟨ws,e1,r⟩:=ob;exact⟨a,ws,rfl,.inl (SqL.of e1),fin r h⟩
    |frz xs=>obtain⟨ws,e1,r⟩:=ob;exact⟨a,ws,rfl,.inl e1.sq,fin r h⟩
    |_=>exact False.elim h
 | [],_,h=>exact False.elim h
 | [.non],_,h=>exact False.elim h
 | [.bl _],_,h=>exact False.elim h
 | [.int _],_,h=>exact False.elim h
 | [.str _],_,h=>exact False.elim h
 |x :: _ :: _,_,h=>cases x <;> exact False.elim h
theorem xU(hm:X.mg "list"=none)(ha:PA X (e :: es) (tA T X.K Y f3))(hg:Gl X "list":=by rfl)(he:starEach (e :: es) X.env=(false,eval e X.env) :: starEach es X.env:=by rfl)(hpl:(backTo pos (starEach es X.env)).any (·.1)=false:=by rfl):
 PE X (.Call (.Name "list" p) (e :: es) [] pos) (tE T X.K Y (M3.aw M3.rT f3)):=vm uh CN hm boot_list ha hg (by decide) (by decide) he hpl
theorem zE:fL X (.type "int") (fun xs H Q=>∃x n,xs=[.str x]/\PySem.intText? x=some n/\x.length<=640/\Q (.int n) H):=by
 intro pins s σ H xs us Q I r h
 obtain⟨x,n,rfl,hn,hl,q⟩:=h
 obtain⟨u,rfl,t,rfl⟩:=vals1 r
 exact PySem.W.KIN.call_text hn hl ⟨.int n,H,I.tok _,⟨_,rfl⟩,q⟩
def JQ:List V->Hp->VK->Prop:=fun xs H Q=>((∃i,xs=[.int i]/\Q (.int i) H)\/∃k,xs=[.bl k]/\Q (.int (if k then 1 else 0)) H)\/∃x n,xs=[.str x]/\PySem.intText? x=some n/\x.length<=640/\Q (.int n) H
theorem FF{K:PySem.W.Frag}:BrA T K Y M3.xj JQ:=by
 intro μ H G ds vs Q S d h
 unfold M3.run M3.xj at h
 match ds,d,h with
 | [.int i],d,h=>obtain⟨v,rfl,d'⟩:=lN d;cases d';exact .inl (.inl ⟨_,rfl,h _ H μ (Up.refl _ _) S rfl⟩)
 | [.bl i],d,h=>obtain⟨v,rfl,d'⟩:=lN d;cases d';exact .inl (.inr ⟨_,rfl,h _ H μ (Up.refl _ _) S rfl⟩)
 | [.str x],d,h=>
   obtain⟨v,rfl,d'⟩:=lN d
   cases (show v= .str x from d')
   dsimp only at h
   cases q:PySem.intText? x with
   |none=>rw[q]at h;exact False.elim h
   |some n=>
    rw[q]at h
    dsimp only at h
    by_cases c:x.length<=640
    · rw[if_pos c]at h
      exact .inr ⟨x,n,rfl,q,c,h _ H μ (Up.refl _ _) S rfl⟩
    · rw[if_neg c]at h;exact False.elim h
 | [],_,h=>exact False.elim h
 | [.non],_,h=>exact False.elim h
 | [.ref _],_,h=>exact False.elim h
 | [.tup _],_,h=>exact False.elim h
 |x :: _ :: _,_,h=>cases x <;> exact False.elim h
theorem AM(hm:X.mg "int"=none)(ha:PA X (e :: es) (tA T X.K Y f3))(hg:Gl X "int":=by rfl)(he:starEach (e :: es) X.env=(false,eval e X.env) :: starEach es X.env:=by rfl)(hpl:(backTo pos (starEach es X.env)).any (·.1)=false:=by rfl):
 PE X (.Call (.Name "int" p) (e :: es) [] pos) (tE T X.K Y (M3.aw M3.xj f3)):=vm (y0.or zE) FF hm boot_int ha hg (by decide) (by decide) he hpl
def kn:M3.Kd->String
 | .non=>"NoneType" | .bl=>"bool" | .int=>"int" | .str=>"str" | .tup=>"tuple" | .lst=>"list" | .dic=>"dict"
def TyD(K:PySem.W.Frag)(H:Hp):V->M3.Kd->Prop
 | .non,k=>k= .non
 | .bl _,k=>k= .bl
 | .int _,k=>k= .int
 | .str _,k=>k= .str
 | .ref a,k=>(k= .lst/\∃xs,SqL K H a xs)\/(k= .tup/\∃xs,SqT K H a xs)\/(k= .dic/\((∃kvs,H a=some (.dK kvs))\/∃kvs,H a=some (.dT kvs)))
 |_,_=>False
theorem jj(K:PySem.W.Frag)(k c:M3.Kd):PySem.W.kitOne K (.type (kn k)) (.type (kn c))=some (M3.lx k c):=by
 cases k <;> cases c <;> rfl
theorem DF:fL X (.builtin "isinstance") (fun xs H Q=>∃x k c,xs=[x,.ty (kn c)]/\TyD X.K H x k/\Q (.bl (M3.lx k c)) H):=by
 intro pins s σ H xs us Q I r h
 obtain⟨x,k,c,rfl,ty,q⟩:=h
 obtain⟨u,w',rfl,ru,rc⟩:=vals2 r
 cases (show w'=Value.type (kn c)from rc)
 have fin:∀tk,EP X pins σ Q (.bool (M3.lx k c)) {s with toks:=tk}:=fun tk=>⟨.bl _,H,I.tok tk,rfl,q⟩
 cases x with
 |non=>cases (show u=Value.none from ru);cases (show k= .non from ty);exact PySem.W.kia_one PySem.W.kitx_none I.kIn True.intro (jj X.K .non c) (fun z=>nomatch z) fin
 |bl y=>cases (show u=Value.bool y from ru);cases (show k= .bl from ty);exact PySem.W.kia_one PySem.W.kitx_bool I.kIn True.intro (jj X.K .bl c) (fun z=>nomatch z) fin
 |int y=>obtain⟨t,rfl⟩:=(show ∃t,u=Value.int y t from ru);cases (show k= .int from ty);exact PySem.W.kia_one PySem.W.kitx_int I.kIn True.intro (jj X.K .int c) (fun z=>nomatch z) fin
 |str y=>obtain⟨t,rfl⟩:=(show ∃t,u=Value.str y t from ru);cases (show k= .str from ty);exact PySem.W.kia_one PySem.W.kitx_str I.kIn True.intro (jj X.K .str c) (fun z=>nomatch z) fin
 |ref a=>
  cases (show u=Value.ref a from ru)
  rcases ty with ⟨rfl,xs,sq⟩ |⟨rfl,xs,sq⟩ |⟨rfl,⟨kvs,ea⟩ |⟨kvs,ea⟩⟩
  · obtain⟨its,_,⟨ob,n,h1,h2,_⟩,_⟩:=I.list sq
    exact PySem.W.kia_one PySem.W.kitx_list I.kIn ⟨ob,h1,h2⟩ (jj X.K .lst c) (fun z=>nomatch z) fin
  · obtain⟨its,_,⟨ob,h1,h2,_⟩,_⟩:=I.tuple sq
    exact PySem.W.kia_one PySem.W.kitx_tuple I.kIn ⟨ob,h1,h2⟩ (jj X.K .tup c) (fun z=>nomatch z) fin
  · obtain⟨_,_,vs,_,pd⟩:=(show bJ X.prog X.w H s.heap a (.dK kvs)from I.hok a _ ea)
    obtain⟨ob,es,ep,h1,h2,_⟩:=pd
    exact PySem.W.kia_one PySem.W.kitx_dict I.kIn ⟨ob,h1,h2.1⟩ (jj X.K .dic c) (fun z=>nomatch z) fin
  · obtain⟨_,_,xs,_,ob,es,ep,h1,h2,_⟩:=(show bJ X.prog X.w H s.heap a (.dT kvs)from I.hok a _ ea)
    exact PySem.W.kia_one PySem.W.kitx_dict I.kIn ⟨ob,h1,h2.1⟩ (jj X.K .dic c) (fun z=>nomatch z) fin
 |_=>exact False.elim ty
theorem Ex{K:PySem.W.Frag}{μ:List Addr}{H:Hp}{G:M3.Hh}(S:Sim T K μ H G){d:M3.D}{v:V}{k:M3.Kd}(r:Den K H μ d v)(h:M3.kdOf G d=some k):TyD K H v k:=by
 cases d with
 |non=>cases (show v= .non from r);cases h;rfl
 |bl _=>cases r;cases h;rfl
 |int _=>cases r;cases h;rfl
 |str _=>cases r;cases h;rfl
 |tup ds=>obtain⟨a,vs,rfl,sq,_⟩:=r;cases h;exact .inr (.inl ⟨rfl,vs,sq⟩)
 |ref n=>
  obtain⟨a,ea,rfl⟩:=r
  unfold M3.kdOf at h
  dsimp only at h
  cases q:G[n]? with
  |none=>rw[q]at h;cases h
  |some ob=>
   rw[q]at h
   have od:=S.obj n a ob ea q
   cases ob with
   |lst xs=>cases h;obtain⟨vs,e1,_⟩:=od;exact .inl ⟨rfl,vs,SqL.of e1⟩
   |frz xs=>cases h;obtain⟨vs,e1,_⟩:=od;exact .inl ⟨rfl,vs,e1.sq⟩
   |dK kvs=>cases h;obtain⟨vs,e1,_⟩:=od;exact .inr (.inr ⟨rfl,.inl ⟨vs,e1⟩⟩)
   |dF kvs=>cases h
   |dT kvs=>cases h
   |ins C fs=>cases h
theorem JI(c:M3.Kd){n:Str}{p2:Pos}(hi:X.mg "isinstance"=none)(hm:X.mg n=none)(ha:PE X e (tE T X.K Y fa))(hn:bootBuiltins n=some (.type (kn c)):=by first |exact boot_int |exact boot_bool |exact boot_str |exact boot_tuple |exact boot_list |exact boot_dict)
 (hg:Gl X "isinstance":=by rfl) (hg2:Gl X n:=by rfl) (hn2:n≠"__name__":=by decide) (hdb:(n==("__debug__":Str))=false:=by decide)
 (he:starEach [e,.Name n p2] X.env=(false,eval e X.env) :: starEach [.Name n p2] X.env:=by rfl) (he2:starEach [.Name n p2] X.env=(false,eval (.Name n p2) X.env) :: starEach [] X.env:=by rfl)
 (hpl:(backTo pos (starEach [.Name n p2] X.env)).any (·.1)=false:=by rfl):PE X (.Call (.Name "isinstance" p) [e,.Name n p2] [] pos) (tE T X.K Y (M3.aw (M3.bIs c) (M3.aa fa M3.ai))):=by
 refine PE.of (pL DF hg hi boot_isinstance (dJ ha (dJ (sQ hg2 hm hn (v:= .ty (kn c)) rfl hn2 hdb) jm he2) he) (by decide) (by decide) he hpl) fun σ H Q ⟨μ,σ3,G,S,sd,h⟩=>?_
 refine⟨μ,σ3,G,S,sd,bi (M3.aN h) fun d G1 v H1 μ1 u1 S1 d1 h1=>?_⟩
 have h2:M3.run (M3.bIs c [d]) G1 (cJ T X.K μ H Q) (Y.x μ H):=h1
 unfold M3.run M3.bIs at h2
 dsimp only at h2
 cases q:M3.kdOf G1 d with
 |none=>rw[q]at h2;exact False.elim h2
 |some k=>
  rw[q]at h2
  exact⟨v,k,c,rfl,Ex S1 d1 q,h2 _ H1 μ1 u1 S1 rfl⟩
theorem xI{Z:Nat->M3.Hh->Prop}{x:M3.D}{G:M3.Hh}{P:Unit->M3.Hh->Prop}(h:M3.run (M3.isL x) G P Z):∃n xs,x= .ref n/\G[n]? =some (.lst xs)/\P () G:=by
 unfold M3.run M3.isL at h
 cases x with
 |ref n=>
  dsimp only at h
  cases q:G[n]? with
  |none=>rw[q]at h;exact False.elim h
  |some o=>
   rw[q]at h
   cases o with
   |lst xs=>exact⟨n,xs,rfl,q,h⟩
   |_=>exact False.elim h
 |_=>exact False.elim h
theorem yO{Z:Nat->M3.Hh->Prop}{n:Nat}{y:M3.D}{G:M3.Hh}{P:M3.D->M3.Hh->Prop}(h:M3.run (M3.ji (.ref n) y) G P Z):∃xs,G[n]? =some (.lst xs)/\xs.length < M3.aA/\P .non (G.set n (.lst (xs++[y]))):=by
 unfold M3.run M3.ji at h
 dsimp only at h
 cases q:G[n]? with
 |none=>rw[q]at h;exact False.elim h
 |some o=>
  rw[q]at h
  cases o with
  |lst xs=>
   dsimp only at h
   by_cases c:xs.length < M3.aA
   · rw[if_pos c]at h;exact⟨xs,rfl,c,h⟩
   · rw[if_neg c]at h;exact False.elim h
  |_=>exact False.elim h
theorem vW{apos:Pos}(ho:PE X o (tE T X.K Y fa))(he:PE X e (tE T X.K Y fb))
 (hbase:attributeBase o "append" X.env (eval o X.env)=eval o X.env:=by rfl)
 (hfew:((backTo pos (starEach (e :: []) X.env)).all (fun x=>!x.1)&&(backToKw pos (keywordEach [] X.env)).all (fun x=>x.1.isSome)
   &&decide ((e :: ([]:List Expr)).length+([]:List Keyword).length+(if ([]:List Keyword).isEmpty then 0 else 1) < 30))=true:=by rfl)
 (hline:(apos.endLine==pos.line)=true:=by rfl) (hs:starEach (e :: []) X.env=(false,eval e X.env) :: starEach [] X.env:=by rfl) (hplain:(backTo pos (starEach [] X.env)).any (·.1)=false:=by rfl):
 PE X (.Call (.Attribute o "append" apos) [e] [] pos) (tE T X.K Y (M3.zL fa fb)):=by
 refine PE.of (Cm PySem.F.plainAttrs_list PySem.F.slot_list_append PySem.F.type_list_append rZ ho (dJ he jm hs) hbase hfew hline hs hplain) fun σ H Q ⟨μ,σ3,G,S,sd,h⟩=>⟨μ,σ3,G,S,sd,bi h fun d G1 v H1 μ1 u1 S1 d1 h1=>?_⟩
 obtain⟨n,xs,rfl,q,h1⟩:=xI (M3.aN h1)
 obtain⟨a,ea,rfl⟩:=id d1
 obtain⟨vs,e1,r1⟩:=S1.obj n a _ ea q
 refine⟨.inl ⟨rfl,vs,SqL.of e1⟩,μ1,σ3,G1,S1,sd.up u1,bi h1 fun y G2 w H2 μ2 u2 S2 d2 h2=>?_⟩
 obtain⟨xs2,q2,hl,h3⟩:=yO h2
 have ea2:=u2.at ea
 obtain⟨vs2,e2,r2⟩:=S2.obj n a _ ea2 q2
 have up:=Up.set S2 (.lst (vs2++[w])) ea2 q2 rfl
 refine⟨a,vs2,w,rfl,rfl,e2,by rw[<-r2.length,<-bS];exact hl,?_⟩
 exact h3 _ _ μ2 ((u1.trans u2).trans up) (S2.set ea2 q2 rfl rfl ⟨_,aF,ax.up up (r2.append (ax.one d2))⟩) rfl
theorem IE{op:UnaryOp}{g1:M3.D->M3.M M3.D}{r:V->Hp->VK->Prop}(br:UnR X (unaryOp op) r/\∀μ H G x v Q,Sim T X.K μ H G->Den X.K H μ x v->M3.run (g1 x) G (cJ T X.K μ H Q) (Y.x μ H)->r v H Q)(ha:PE X a (tE T X.K Y fa)):PE X (.UnaryOp op a pos) (tE T X.K Y (M3.eUn g1 fa)):=
 PE.of (Ik br.1 ha) fun σ H Q ⟨μ,σ3,G,S,sd,h⟩=>⟨μ,σ3,G,S,sd,bi h fun x G1 v H1 μ1 u1 S1 d1 h1=>br.2 μ1 H1 G1 x v Q S1 d1 (cm h1 fun _ _ q=>q.up u1)⟩
theorem DE:UnR X (unaryOp .USub) (rU fun i=>.int (-i))/\∀μ H G x v Q,Sim T X.K μ H G->Den X.K H μ x v->M3.run (M3.yX x) G (cJ T X.K μ H Q) (Y.x μ H)->rU (fun i=>.int (-i)) v H Q:=⟨F6,by
 intro μ H G x v Q S d h
 cases x with
 |int i=>exact⟨i,d,h _ H μ (Up.refl _ _) S rfl⟩
 |_=>exact False.elim h⟩
structure xH (T:Tab) (K:PySem.W.Frag) (μ:List Addr) (H:Hp) (src:M3.Src) (J:It):Prop where
 go:∀(i:Nat) d μ' H' G',Up μ μ' H H'->Sim T K μ' H' G'->src.ck G'=true->src.xs[i]? =some d->J.go i H'
 yld:∀(i:Nat) d v μ' H' H'' G',Up μ μ' H H'->Sim T K μ' H' G'->src.ck G'=true->src.xs[i]? =some d->J.yld i H' v H''->fO H' H''/\Den K H'' μ' d v
 stop:∀μ' H' G',Up μ μ' H H'->Sim T K μ' H' G'->src.ck G'=true->J.stop src.xs.length H'
def JA(T:Tab)(K:PySem.W.Frag)(μ:List Addr)(H:Hp)(R:It->Hp->Prop)(src:M3.Src)(G':M3.Hh):Prop:=∀J H' μ',Up μ μ' H H'->Sim T K μ' H' G'->xH T K μ' H' src J->R J H'
def tI(T:Tab)(K:PySem.W.Frag)(Y:EX)(f:M3.I3):TI:=fun σ H R=>∃μ σ3 G,Sim T K μ H G/\StD K H μ σ3 σ/\M3.run (f σ3) G (JA T K μ H R) (Y.x μ H)
theorem PI.of{tg it:Expr}{t u:TI}(h:PI X tg it t)(f:∀σ H R,u σ H R->t σ H R):PI X tg it u:=fun pins s σ H R I q=>h pins s σ H R I (f σ H R q)
def JZ(K:PySem.W.Frag)(tl:TE):TI:=fun σ H R=>tl σ H fun x H1=>∃a,x= .ref a/\(((∃xs,SqL K H1 a xs)/\R (Itl K a) H1)\/((∃xs,SqT K H1 a xs)/\R (Itt K a) H1))
theorem GS{tg l:Expr}{tl:TE}(hl:PE X l tl):PI X tg l (JZ X.K tl):=by
 intro pins s σ H R I h
 refine thn (hl pins s σ H _ I h) fun v s1 ⟨x,H1,I1,r1,q1⟩=>?_
 obtain⟨a,e,q⟩:=q1
 subst e
 cases r1
 rcases q with ⟨⟨xs,hq⟩,q⟩ |⟨⟨xs,hq⟩,q⟩
 · obtain⟨its,rv,pl,hz⟩:=I1.list hq
   refine wpAny_pyIter_list pl.isList ?_
   refine⟨s1.heap.objs.size,[s1.heap.objs.size],_,_,H1,rfl,I1.kept (t':=s1.toks) fun b o e=>Heap.get?_push_of_some _ e,zf a _,⟨_,Heap.get?_push_size _ rfl,rfl,rfl⟩,fun b hb=>?_,q⟩
   have e:b=s1.heap.objs.size:=by simpa using hb
   subst e
   exact I1.AA (qO_ _) (I1.hok.fresh (qO_ _))
 · obtain⟨its,rv,pl,hz⟩:=I1.tuple hq
   refine wpAny_pyIter_tuple (show s1.heap.IsTuple a its.toArray from pl) ?_
   refine⟨s1.heap.objs.size,[s1.heap.objs.size],_,_,H1,rfl,I1.kept (t':=s1.toks) fun b o e=>Heap.get?_push_of_some _ e,xK a _,⟨_,Heap.get?_push_size _ rfl,rfl,rfl⟩,fun b hb=>?_,q⟩
   have e:b=s1.heap.objs.size:=by simpa using hb
   subst e
   exact I1.AA (qO_ _) (I1.hok.fresh (qO_ _))
theorem src_list{K:PySem.W.Frag}{μ:List Addr}{H:Hp}{n:Nat}{a:Addr}{xs:List M3.D}{o:M3.O}{ck:M3.Hh->Bool}(ea:μ[n]? =some a)(hck:∀G',ck G'=true->G'[n]? =some o)(ho:o= .lst xs\/o= .frz xs):xH T K μ H ⟨xs,ck⟩ (Itl K a):=by
 have key:∀{μ' H' G'},Up μ μ' H H'->Sim T K μ' H' G'->ck G'=true->∃vs,SqL K H' a vs/\ax K H' μ' xs vs:=by
  intro μ' H' G' u S c
  have ob:=S.obj n a o (u.at ea) (hck G' c)
  rcases ho with rfl |rfl
  · obtain⟨vs,e1,r⟩:=ob;exact⟨vs,SqL.of e1,r⟩
  · obtain⟨vs,e1,r⟩:=ob;exact⟨vs,e1.sq,r⟩
 refine⟨fun i d μ' H' G' u S c e=>?_,fun i d v μ' H' H'' G' u S c e y=>?_,fun μ' H' G' u S c=>?_⟩
 · obtain⟨vs,sq,r⟩:=key u S c
   obtain⟨v,e1,_⟩:=r.get e
   exact⟨vs,v,sq,e1⟩
 · obtain⟨vs,sq,r⟩:=key u S c
   obtain⟨w,e1,dw⟩:=r.get e
   have:=y.2 vs sq
   rw[e1]at this
   cases this
   obtain⟨rfl,_⟩:=y;exact⟨fun _ _ z=>z,dw⟩
 · obtain⟨vs,sq,r⟩:=key u S c
   exact⟨vs,sq,Nat.le_of_eq r.length.symm⟩
theorem rJ{tg:Expr}{f:M3.E3}(h:PE X e (tE T X.K Y f)):PI X tg e (tI T X.K Y (M3.iOf f)):=by
 refine PI.of (GS h) fun σ H R ⟨μ,σ3,G,S,sd,h⟩=>⟨μ,σ3,G,S,sd,bi h fun d G1 v H1 μ1 u1 S1 d1 h1=>?_⟩
 cases d with
 |tup ds=>
  obtain⟨a,vs,rfl,sq,r⟩:=d1
  refine⟨a,rfl,.inr ⟨⟨vs,sq⟩,h1 _ H1 μ1 u1 S1 ⟨fun i d μ' H' G' u S c e=>?_,fun i d v μ' H' H'' G' u S c e y=>?_,fun μ' H' G' u S c=>?_⟩⟩⟩
  · obtain⟨v,e1,_⟩:=r.get e
    exact⟨vs,v,SqT.keeps u.keeps sq,e1⟩
  · obtain⟨w,e1,dw⟩:=r.get e
    have:=y.2 vs (SqT.keeps u.keeps sq)
    rw[e1]at this
    cases this
    obtain⟨rfl,_⟩:=y;exact⟨fun _ _ z=>z,Den.up u dw⟩
  · exact⟨vs,SqT.keeps u.keeps sq,Nat.le_of_eq r.length.symm⟩
 |ref n=>
  obtain⟨a,ea,rfl⟩:=d1
  unfold M3.run M3.srcOf at h1
  dsimp only at h1
  cases q:G1[n]? with
  |none=>rw[q]at h1;exact False.elim h1
  |some o=>
   have ob:=S1.obj n a o ea q
   cases o with
   |lst xs=>
    rw[q]at h1
    obtain⟨vs,e1,r⟩:=ob
    exact⟨a,rfl,.inl ⟨⟨vs,SqL.of e1⟩,h1 _ H1 μ1 u1 S1 (src_list ea (fun G' c=>of_decide_eq_true c) (.inl rfl))⟩⟩
   |frz xs=>
    rw[q]at h1
    obtain⟨vs,e1,r⟩:=ob
    exact⟨a,rfl,.inl ⟨⟨vs,e1.sq⟩,h1 _ H1 μ1 u1 S1 (src_list ea (fun G' c=>of_decide_eq_true c) (.inr rfl))⟩⟩
   |_=>rw[q]at h1;exact False.elim h1
 |_=>exact False.elim h1
theorem Kk{K:PySem.W.Frag}{μ:List Addr}{H:Hp}(i:Int)(n:Nat):xH T K μ H ⟨M3.rng i n,fun _=>true⟩ (Itr i n):=by
 refine⟨fun j d μ' H' G' u S c e=>(M3.mU e).2,fun j d v μ' H' H'' G' u S c e y=>?_,fun μ' H' G' u S c=>Nat.le_of_eq M3.pB.symm⟩
 obtain⟨rfl,_⟩:=M3.mU e
 obtain⟨rfl,y⟩:=y;exact⟨fun _ _ z=>z,y⟩
theorem uY{i:Int}(h:M3.rM i=true):-(2 ^ 62)<=i/\i < 2 ^ 62:=of_decide_eq_true h
theorem l0{tg:Expr}(hm:X.mg "range"=none)(ha:PE X a (tE T X.K Y fa))(hg:Gl X "range":=by rfl)(hs:starEach [a] X.env=[(false,eval a X.env)]:=by rfl):PI X tg (.Call (.Name "range" p) [a] [] pos) (tI T X.K Y (M3.gs fa)):=by
 refine PI.of (yU hg hm (dJ ha jm hs) hs) fun σ H R ⟨μ,σ3,G,S,sd,h⟩=>⟨μ,σ3,G,S,sd,bi h fun d G1 v H1 μ1 u1 S1 d1 h1=>?_⟩
 cases d with
 |int j=>
  cases (show v= .int j from d1)
  obtain⟨c,h1⟩:=j5 (c:=M3.rM j=true) h1
  exact⟨j,rfl,(uY c).1,(uY c).2,h1 _ H1 μ1 u1 S1 (Kk 0 j.toNat)⟩
 |_=>exact False.elim h1
theorem vC{Z:Nat->M3.Hh->Prop}{ck:M3.Hh->Bool}{body:M3.D->M3.St->M3.M (M3.Fl×M3.St)}{σ:M3.St}{G:M3.Hh}{P:M3.Fl×M3.St->M3.Hh->Prop}(h:M3.run (M3.forL ck body [] σ) G P Z):ck G=true/\P (.next,σ) G:=by
 unfold M3.run M3.forL at h
 by_cases c:ck G=true
 · rw[if_pos c]at h;exact⟨c,h⟩
 · rw[if_neg c]at h;exact False.elim h
def Fb(ck:M3.Hh->Bool)(body:M3.D->M3.St->M3.M (M3.Fl×M3.St))(r:List M3.D)(p:M3.Fl×M3.St):M3.M (M3.Fl×M3.St):=match p.1 with
 | .next=>M3.forL ck body r p.2
 | .cont=>M3.forL ck body r p.2
 | .brk=>M3.ret (.next,p.2)
 | .ret d=>M3.ret (.ret d,p.2)
theorem rX{Z:Nat->M3.Hh->Prop}{ck:M3.Hh->Bool}{body:M3.D->M3.St->M3.M (M3.Fl×M3.St)}{x:M3.D}{r:List M3.D}{σ:M3.St}{G:M3.Hh}{P:M3.Fl×M3.St->M3.Hh->Prop}(h:M3.run (M3.forL ck body (x :: r) σ) G P Z):
 ck G=true/\M3.run (M3.bnd (body x σ) (Fb ck body r)) G P Z:=by
 have e:M3.forL ck body (x :: r) σ G=if ck G then M3.bnd (body x σ) (Fb ck body r) G else none:=by
  conv=>lhs;unfold M3.forL
  rfl
 unfold M3.run at h
 rw[e]at h
 by_cases c:ck G=true
 · rw[if_pos c]at h;exact⟨c,h⟩
 · rw[if_neg c]at h;exact False.elim h
theorem BY{tg iter:Expr}{body:List Stmt}{it:M3.I3}{g:M3.D->M3.St->M3.M M3.St}{f:M3.S3}(hp:PassesOwn (model X.prog X.w) X.A X.env X.xe)(hc:X.calm=true)(hi:PI X tg iter (tI T X.K Y it))(hg:PG X tg (tG T X.K Y g))(hb:PSs X body (tS T X.K Y f))
 (hs:∀x,foldedSetIterable iter X.env x=pure x:=by intro _;rfl):PS X (.For tg iter body [] pos) (tS T X.K Y (M3.k9 it g f)):=by
 refine PS.of (Av hp hc hi hg hb hs) fun D σ H ⟨μ,σ3,G,S,sd,h⟩=>⟨μ,σ3,G,S,sd,cm (M3.aN h) fun src G1 q J H1 μ1 u1 S1 sr=>?_⟩
 have q:M3.run (M3.forL src.ck (fun x σ=>M3.bnd (g x σ) f) src.xs σ3) G1 (eB T X.K μ H D) (Y.x μ1 H1):=Y.upE u1 q
 refine⟨fun i m σ' H'=>m=src.xs.length - i/\i<=src.xs.length/\∃μ' σ3' G',Up μ1 μ' H1 H'/\Sim T X.K μ' H' G'/\StD X.K H' μ' σ3' σ'/\M3.run (M3.forL src.ck (fun x σ=>M3.bnd (g x σ) f) (src.xs.drop i) σ3') G' (eB T X.K μ H D) (Y.x μ' H'),
  ⟨_,rfl,qf_ _,μ1,σ3,G1,Up.refl _ _,S1,sd.up u1,q⟩,?_⟩
 rintro i m σ' H' ⟨rfl,hi,μ',σ3',G',u',S',sd',q'⟩
 by_cases hlt:i < src.xs.length
 · rw[List.drop_eq_getElem_cons hlt]at q'
   obtain⟨c,q2⟩:=rX q'
   have ex:src.xs[i]? =some src.xs[i]:=qA_ hlt
   refine .inr ⟨sr.go i _ μ' H' G' u' S' c ex,fun σ2 H2=>∃μ2 σ4 G2,Up μ1 μ2 H1 H2/\Sim T X.K μ2 H2 G2/\StD X.K H2 μ2 σ4 σ2/\M3.run (M3.forL src.ck (fun x σ=>M3.bnd (g x σ) f) (src.xs.drop (i+1)) σ4) G2 (eB T X.K μ H D) (Y.x μ2 H2),
    fun σ2 H2 hN=>⟨_,by omega,rfl,hlt,hN⟩,fun x H'' y=>?_⟩
   obtain⟨sm,dx⟩:=sr.yld i _ x μ' H' H'' G' u' S' c ex y
   have us:Up μ' μ' H' H'':=Up.same sm
   refine⟨μ',σ3',G',_,S'.same sm,sd'.up us,dx,cm (Y.upE us (M3.aN (M3.aN q2))) fun σ5 G5 q5 σ6 H6 μ6 u6 S6 sd6=>?_⟩
   have u6:=us.trans u6
   refine⟨μ6,σ5,G5,S6,sd6,cm (Y.upE u6 q5) fun p G7 q7 σ7 H7 μ7 u7 S7 sd7=>?_⟩
   obtain⟨fl,σ8⟩:=p
   have up:=(u1.trans u').trans (u6.trans u7)
   cases fl with
   |next=>exact⟨μ7,σ8,G7,u'.trans (u6.trans u7),S7,sd7,Y.upE (u6.trans u7) q7⟩
   |cont=>exact⟨μ7,σ8,G7,u'.trans (u6.trans u7),S7,sd7,Y.upE (u6.trans u7) q7⟩
   |brk=>exact q7 σ7 H7 μ7 up S7 sd7
   |ret d=>exact q7 σ7 H7 μ7 up S7 sd7
 · have e:i=src.xs.length:=by omega
   subst e
   rw[List.drop_length]at q'
   obtain⟨c,q2⟩:=vC q'
   exact .inl ⟨sr.stop μ' H' G' u' S' c,q2 σ' H' μ' (u1.trans u') S' sd'⟩
def EX.of(T:Tab)(K:PySem.W.Frag)(E:XK):EX:=⟨fun μ H c G=>∀Ca dx H' μ',T.cls c=some Ca->Up μ μ' H H'->Sim T K μ' H' G->E (.ref Ca) dx H',fun u h Ca dx H' μ' e u' S=>h Ca dx H' μ' e (u.trans u') S⟩
def sp3(T:Tab)(K:PySem.W.Frag)(n:Nat)(f:List M3.D->M3.M M3.D):Sp:=fun vs H Q E=>vs.length=n/\∃μ ds G,Sim T K μ H G/\ax K H μ ds vs/\M3.run (f ds) G (cJ T K μ H Q) ((EX.of T K E).x μ H)
structure Fn3 (P:Program) (w:World) (K:PySem.W.Frag) (mg:Str->Option Value) (base:Heap) (CX:CXT) (T:Tab) (k:Nat) (x:Str) (n:Nat) (f:List M3.D->M3.M M3.D):Prop where
 ex:∃fa fd ps,aP P w K mg base CX k fa fd ps (sp3 T K n f)/\mg x=some (.ref fa)/\PySem.W.keepIn K (.ref fa)=true/\Binds K fd ps []
 len:∀ds G (Q:M3.D->M3.Hh->Prop) (Z:Nat->M3.Hh->Prop),M3.run (f ds) G Q Z->ds.length=n
theorem x_call{CX:CXT}{E:XK}{x:Str}{k n:Nat}{f:List M3.D->M3.M M3.D}(F:Fn3 X.prog X.w X.K X.mg X.base CX T k x n f)(hr:cU k X.A)(hx:eV CX X E)(ha:PA X (e :: es) (tA T X.K (EX.of T X.K E) f3))(hg:Gl X x:=by rfl)(hdb:(x==("__debug__":Str))=false:=by decide)
 (he:starEach (e :: es) X.env=(false,eval e X.env) :: starEach es X.env:=by rfl) (hpl:(backTo pos (starEach es X.env)).any (·.1)=false:=by rfl):PE X (.Call (.Name x p) (e :: es) [] pos) (tE T X.K (EX.of T X.K E) (M3.aw f f3)):=by
 obtain⟨fa,fd,ps,G,hm,hk,hb⟩:=F.ex
 refine PE.of (D8 G hr hg hm hk hb .nil hx ha hdb he hpl) fun σ H Q ⟨μ,σ3,G,S,sd,h⟩=>⟨μ,σ3,G,S,sd,oO h fun ds G1 vs H1 μ1 u1 S1 d1 h1=>?_⟩
 show sp3 T X.K n f (vs++[]) H1 Q E
 rw[qY_]
 exact⟨by rw[<-d1.length];exact F.len _ _ _ _ h1,μ1,ds,G1,S1,d1,cm h1 fun _ _ z=>z.up u1⟩
theorem ph{Z:Nat->M3.Hh->Prop}{n:Nat}{pad:M3.St}{body:M3.S3}{ds:List M3.D}{G:M3.Hh}{Q:M3.D->M3.Hh->Prop}(h:M3.run (M3.fnM n pad body ds) G Q Z):ds.length=n:=by
 unfold M3.fnM at h
 exact(j5 h).1
theorem StD.start{K:PySem.W.Frag}{H:Hp}{μ:List Addr}:∀{ds:List M3.D} {vs:List V} (k:Nat),ax K H μ ds vs->StD K H μ (ds.map some++List.replicate k none) (vs.map some++List.replicate k none):=by
 intro ds vs k r
 refine⟨by simp [r.length],fun i d e=>?_⟩
 by_cases h:i < ds.length
 · rw[qK_ (by simpa using h),qQ_]at e
   cases q:ds[i]? with
   |none=>rw[q]at e;cases e
   |some d'=>
    rw[q]at e
    cases e
    obtain⟨v,e1,r1⟩:=r.get q
    refine⟨v,?_,r1⟩
    rw[qK_ (by simpa using (qB_.mp e1).1),qQ_,e1];rfl
 · rw[qL_ (by simpa using h),List.getElem?_replicate]at e
   split at e <;> cases e
theorem gX{X:Cx}{E:XK}:eV CX0 X E:=fun _ _ _ _ _ _ _ h=>h.elim
theorem bf{P:Program}{w:World}{K:PySem.W.Frag}{mg:Str->Option Value}{base:Heap}{x qual:Str}{st:Stmt}{fa:Addr}{fd:FuncData}{N ps:List Str}{k n:Nat}{pad:M3.St}{body:M3.S3}(F:Fun K x qual st fa fd)(S:au N ps (aj st))
 (hn:ps.length=n) (hpad:pad=List.replicate (N.length - n) none)
 (h:∀(cdv:Value) (A:Around) (outer:List Env) (s:Shared) (H:Hp) (E:XK),cU k (A.deeper (envOfC qual (aj st) s.heap.objs.size fa cdv))->PSs (lj CX0 P w K mg base N qual (aj st) fa cdv A outer s H E).nox (gm st) (tS T K (EX.of T K E) body)):
 aP P w K mg base CX0 (k+1) fa fd ps (sp3 T K n (M3.fnM n pad body)):=by
 refine F.ok S (fun vs H Q E q=>by rw[hn];exact q.1) (fun cdv A outer s H vs Q E hr q=>⟨_,h cdv A outer s H E hr,?_⟩)
 obtain⟨hl,μ,ds,G,Sm,d,q⟩:=q
 unfold M3.fnM at q
 obtain⟨c,q⟩:=j5 q
 have e1:L2.start N vs=vs.map some++List.replicate (N.length - n) none:=by unfold L2.start;rw[hl]
 rw[e1]
 refine⟨μ,_,G,Sm,by rw[hpad];exact StD.start _ d,cm (M3.aN q) fun r G1 q1 σ' H' μ' u S' sd'=>?_⟩
 obtain⟨fl,σ2⟩:=r
 cases fl with
 |next=>exact q1 .non H' μ' u S' rfl
 |brk=>exact False.elim q1
 |cont=>exact False.elim q1
 |ret d=>exact fun v dv=>q1 v H' μ' u S' dv
theorem fn3{P:Program}{w:World}{K:PySem.W.Frag}{mg:Str->Option Value}{base:Heap}{x qual:Str}{st:Stmt}{fa:Addr}{fd:FuncData}{N ps:List Str}{k n:Nat}{pad:M3.St}{body:M3.S3}(F:Fun K x qual st fa fd)(S:au N ps (aj st))(hm:mg x=some (.ref fa))(hb:Binds K fd ps [])
 (hn:ps.length=n) (hpad:pad=List.replicate (N.length - n) none)
 (h:∀(cdv:Value) (A:Around) (outer:List Env) (s:Shared) (H:Hp) (E:XK),cU k (A.deeper (envOfC qual (aj st) s.heap.objs.size fa cdv))->PSs (lj CX0 P w K mg base N qual (aj st) fa cdv A outer s H E).nox (gm st) (tS T K (EX.of T K E) body)):
 Fn3 P w K mg base CX0 T (k+1) x n (M3.fnM n pad body):=⟨⟨fa,fd,ps,bf F S hn hpad h,hm,F.kp,hb⟩,fun ds G Q Z q=>ph q⟩
end
structure Blk (X:Cx) (x:Str) (caps:List (Str×Nat)) (scope:Scope) (cl:List (Str×Addr)):Prop where
 kind:scope.kind= .function
 GN:∀y∈scope.names,y.2≠.cell
 loc:∀y∈scope.names,y.2= .local->scope.names.lookup y.1=some .local
 own:scope.names.lookup x=some .local
 Dg:closureFor scope X.env=pure cl
 nd:(x :: caps.map (·.1)).Nodup
 sub:∀y c,cl.lookup y=some c->X.env.cells.lookup y=some c
 has:∀y,((relabel scope X.env).names.lookup y=some .cell\/(relabel scope X.env).names.lookup y=some .free)->∃c,cl.lookup y=some c
 nox:cl.lookup x=none
 cap:∀(j:Nat) y i,caps[j]? =some (y,i)->X.N[i]? =some y/\(X.env.kindOf y=some .cell\/X.env.kindOf y=some .free)/\((relabel scope X.env).names.lookup y=some .cell\/(relabel scope X.env).names.lookup y=some .free)
def blk(X:Cx)(x:Str)(caps:List (Str×Nat))(scope:Scope)(cl:List (Str×Addr))(s₃:Shared)(H₃:Hp)(C:Addr)(fp:List Addr)(E':Value->Shared->Prop):Cx:=
 {X with N:=x :: caps.map (·.1),s₀:=s₃,H₀:=H₃,env:=compEnvC scope cl C X.env,outer:=X.stack,stack:=X.stack,ex:=fp,fn:=fun y=>decide (y=x),xe:=E'}
def σ0(σ:L2.St)(caps:List (Str×Nat)):L2.St:=none :: caps.map fun p=>(σ[p.2]?).join
section
variable{X:Cx}{x:Str}{caps:List (Str×Nat)}{scope:Scope}{cl:List (Str×Addr)}{pins:List (Addr×Obj)}{σ:L2.St}{H:Hp}{s₃:Shared}{fp:List Addr}{E':Value->Shared->Prop}
theorem Gx(B:Blk X x caps scope cl)(I:L2.Inv X pins σ H s₃)(hf:∀b∈fp,nJ X pins H b)(hfl:∀b∈fp,b < s₃.heap.objs.size):(blk X x caps scope cl s₃ H s₃.heap.objs.size fp E').Ok where
 mod:=I.mod
 kind:=B.kind
 glob:=I.ok.glob
 blt:=I.ok.blt
 above:=qO_ _
 inj:=fun y z c h1 h2=>I.ok.inj y z c (B.sub y c h1) (B.sub z c h2)
 has:=fun y hy=>B.has y hy
 cab:=fun y c hy h=>by
  have e:y=x:=of_decide_eq_true hy
  subst e
  rw[show (blk X y caps scope cl s₃ H s₃.heap.objs.size fp E').env.cells.lookup y=cl.lookup y from rfl,B.nox]at h
  cases h
 hd:=I.ok.hd
 frames:=I.ok.frames
 stk:= .inl rfl
 exf:=fun b hb=>⟨Nat.ne_of_lt (hfl b hb),fun y c e=>(hf b hb).2.2.2.2.1 y c (B.sub y c e)⟩
 bs:=I.bs
 bsz:=Nat.le_trans I.ok.bsz I.sz
 w6:=fun b o e hb=>by
  rcases (hf b hb).2.2.2.1 with z |z
  · exact I.ok.w6 b o e z
  · exact absurd (qd_ (Heap.lt_size e) (Nat.le_trans I.ok.bsz z)) (qe_ _)
 zd:=fun b hb z=>by
  rcases qS_.mp (I.jG b z)with e |e
  · exact(hf b hb).2.1 e
  · exact(hf b hb).2.2.1 e
 m7:=I.stack
 frf:=I.o7
theorem Dw(B:Blk X x caps scope cl)(I:L2.Inv X pins σ H s₃)(hf:∀b∈fp,nJ X pins H b)(hfl:∀b∈fp,b < s₃.heap.objs.size){h₁:Heap}{tk:Nat}{m:Str->Option Value}(hns:h₁.Ns s₃.heap.objs.size m)(hk:∀b o,s₃.heap.get? b=some o->h₁.get? b=some o):
 L2.Inv (blk X x caps scope cl s₃ H s₃.heap.objs.size fp E') pins (σ0 σ caps) H {s₃ with heap:=h₁,toks:=tk}:=by
 refine⟨Gx B I hf hfl,rfl,I.bare,Un.kept hk,⟨m,hns,fun i y v e1 e2 e3=>?_⟩,fun y c e=>?_,I.hok.fresh (qO_ _),fun y c e=>I.fS y c (B.sub y c e),fun p hp=>?_,I.hok.kept hk,by simp [σ0,blk]⟩
 · cases i with
   |zero=>simp [σ0]at e2
   |succ j=>
    have e2:(caps.map fun p=>(σ[p.2]?).join)[j]? =some (some v):=by simpa [σ0] using e2
    have e1:(caps.map (·.1))[j]? =some y:=by simpa [blk] using e1
    rw[qQ_]at e1 e2
    cases q:caps[j]? with
    |none=>rw[q]at e1;cases e1
    |some p=>
     obtain⟨y',i⟩:=p
     rw[q]at e1 e2
     cases e1
     have e2:(σ[i]?).join=some v:=Option.some.inj e2
     have e3:σ[i]? =some (some v):=by
      cases z:σ[i]? with
      |none=>rw[z]at e2;cases e2
      |some w=>rw[z]at e2;exact congrArg some e2
     obtain⟨h1,h2,h3⟩:=B.cap j y' i q
     obtain⟨m',_,hl⟩:=I.loc
     obtain⟨u,ru,l⟩:=hl i y' v h1 e3 (h2.elim (fun z=>.inr (.inl z)) fun z=>.inr (.inr z))
     refine⟨u,ru,.inr ⟨h3,?_⟩⟩
     rcases l with ⟨k,_⟩ |⟨_,c,ec,⟨ob,ho,hd⟩⟩
     · rcases h2 with z |z
       · rw[z]at k;cases k
       · rw[z]at k;cases k
     · obtain⟨c',ec'⟩:=B.has y' h3
       have:=B.sub y' c' ec'
       rw[ec]at this
       cases this
       exact⟨c,ec',ob,hk _ _ ho,hd⟩
 · obtain⟨v,ob,ho,hd⟩:=I.cell y c (B.sub y c e)
   exact⟨v,ob,hk _ _ ho,hd⟩
 · obtain⟨e,n,ne,nf,d⟩:=I.pin p hp
   refine⟨hk _ _ e,n,Nat.ne_of_lt (Heap.lt_size e),fun z=>?_,d⟩
   rcases qS_.mp (I.jG p.1 z)with q |q
   · exact ne q
   · exact nf q
end
theorem Sim.lt{X:Cx}{T:Tab}{pins:List (Addr×Obj)}{σ:L2.St}{H:Hp}{s:Shared}{μ:List Addr}{G:M3.Hh}(I:L2.Inv X pins σ H s)(S:Sim T X.K μ H G):∀a∈μ,a < s.heap.objs.size:=by
 intro a ha
 obtain⟨n,hn,e⟩:=List.getElem_of_mem ha
 have e1:μ[n]? =some a:=by rw[<-e];exact qA_ hn
 have hg:n < G.length:=by rw[<-S.len];exact hn
 have ob:=S.obj n a _ e1 (qA_ hg)
 generalize G[n]=o at ob
 cases q:isF o with
 |false=>
  obtain⟨u,hu⟩:=ob.live q
  exact I.hok.lt hu
 |true=>
  cases o with
  |frz xs=>
   obtain⟨vs,sq,_⟩:=ob
   obtain⟨its,_,⟨ob',n',e',_⟩,_⟩:=I.list sq.sq
   exact Heap.lt_size e'
  |_=>cases q
def PTs(X:Cx)(ifs:List Expr)(t:TT):Prop:=
 ∀(pins:List (Addr×Obj)) (s:Shared) (σ:L2.St) (H:Hp) (Q:Bool->Hp->Prop),L2.Inv X pins σ H s->t σ H Q->
  wpAny (model X.prog X.w) X.A (forIn ifs true fun c r=>if r=true then do let ok <-isTrue c X.env (eval c X.env);pure (ForInStep.yield ok)else pure (ForInStep.yield r)) (TP X pins σ Q) X.xe s
theorem eI{X:Cx}{T:Tab}{Y:EX}:PTs X [] (tT T X.K Y M3.jr):=fun pins s σ H Q I ⟨μ,σ3,G,S,sd,h⟩=>wpAny_tests_nil ⟨H,I,h H μ (Up.refl _ _) S⟩
theorem D5{X:Cx}{T:Tab}{Y:EX}{c:Expr}{f:M3.T3}(h:PT X c (tT T X.K Y f)):PTs X [c] (tT T X.K Y f):=fun pins s σ H Q I q=>wpAny_tests_one (h pins s σ H Q I q)
theorem zt{Z:Nat->M3.Hh->Prop}{ck:M3.Hh->Bool}{cond:M3.D->M3.M Bool}{elt:M3.D->M3.M M3.D}{acc:List M3.D}{G:M3.Hh}{P:List M3.D->M3.Hh->Prop}(h:M3.run (M3.bX ck cond elt [] acc) G P Z):ck G=true/\P acc G:=by
 unfold M3.run M3.bX at h
 by_cases c:ck G=true
 · rw[if_pos c]at h;exact⟨c,h⟩
 · rw[if_neg c]at h;exact False.elim h
def Bf(ck:M3.Hh->Bool)(cond:M3.D->M3.M Bool)(elt:M3.D->M3.M M3.D)(x:M3.D)(r acc:List M3.D)(c:Bool):M3.M (List M3.D):=
 if c then M3.bnd (elt x) (fun y=>if acc.length < M3.aA then M3.bX ck cond elt r (acc++[y])else M3.fail)else M3.bX ck cond elt r acc
theorem wZ{Z:Nat->M3.Hh->Prop}{ck:M3.Hh->Bool}{cond:M3.D->M3.M Bool}{elt:M3.D->M3.M M3.D}{x:M3.D}{r acc:List M3.D}{G:M3.Hh}{P:List M3.D->M3.Hh->Prop}(h:M3.run (M3.bX ck cond elt (x :: r) acc) G P Z):
 ck G=true/\M3.run (M3.bnd (cond x) (Bf ck cond elt x r acc)) G P Z:=by
 have e:M3.bX ck cond elt (x :: r) acc G=if ck G then M3.bnd (cond x) (Bf ck cond elt x r acc) G else none:=by
  conv=>lhs;unfold M3.bX
  rfl
 unfold M3.run at h
 rw[e]at h
 by_cases c:ck G=true
 · rw[if_pos c]at h;exact⟨c,h⟩
 · rw[if_neg c]at h;exact False.elim h
theorem StD.dU{K:PySem.W.Frag}{H:Hp}{μ:List Addr}{σ3:M3.St}{σ:L2.St}(sd:StD K H μ σ3 σ)(caps:List (Str×Nat))(o:Option V):StD K H μ (none :: M3.dU σ3 (caps.map (·.2))) (o :: caps.map fun p=>(σ[p.2]?).join):=by
 refine⟨by simp [M3.dU],fun i d e=>?_⟩
 cases i with
 |zero=>simp at e
 |succ j=>
  have e:(M3.dU σ3 (caps.map (·.2)))[j]? =some (some d):=by simpa using e
  unfold M3.dU at e
  rw[qQ_,qQ_]at e
  cases q:caps[j]? with
  |none=>rw[q]at e;cases e
  |some p=>
   rw[q]at e
   have e:(σ3[p.2]?).join=some d:=Option.some.inj e
   have e3:σ3[p.2]? =some (some d):=by
    cases z:σ3[p.2]? with
    |none=>rw[z]at e;cases e
    |some w=>rw[z]at e;exact congrArg some e
   obtain⟨v,h1,h2⟩:=sd.at_ _ _ e3
   refine⟨v,?_,h2⟩
   show (caps.map fun p=>(σ[p.2]?).join)[j]? =some (some v)
   rw[qQ_,q]
   show some (σ[p.2]?).join=some (some v)
   rw[h1];rfl
section
variable{X:Cx}{T:Tab}{Y:EX}{elt iter:Expr}{x:Str}{px:Pos}{ifs:List Expr}{scope:Scope}{cl:List (Str×Addr)}{caps:List (Str×Nat)}{pos:Pos}{fe:M3.E3}{ft:M3.T3}
theorem Up.off{μ μ1:List Addr}{H H1:Hp}{p:Addr}{ws ws':List V}(u:Up μ μ1 H H1)(hp:H p=none)(hw:H1 p=some (.lst ws)):Up μ μ1 H (upd H1 p (.lst ws')):=by
 refine⟨u.pre,⟨fun b xs e=>?_,fun b o v e=>?_⟩,fun b o e n=>?_⟩
 · rw[aE (cj e hp)];exact u.keeps.tup b xs e
 · rw[aE (cj e hp)];exact u.keeps.frz b o v e
 · rw[aE (cj e hp)];exact u.rest b o e n
theorem Sim.off{T:Tab}{K:PySem.W.Frag}{μ:List Addr}{H:Hp}{G:M3.Hh}{p:Addr}{ws ws':List V}(S:Sim T K μ H G)(hp:p∉μ)(hw:H p=some (.lst ws)):Sim T K μ (upd H p (.lst ws')) G:=by
 have k:Keeps H (upd H p (.lst ws')):=Keeps.write hw (fun _ z=>nomatch z) (fun _ _ z=>nomatch z)
 refine⟨S.len,fun n a o e1 e2=>(S.obj n a o e1 e2).mono (List.prefix_refl _) k fun y e=>?_,S.inj⟩
 rw[aE (by rintro rfl;exact hp (qD_ e1))]
 exact e
theorem FJ{α:Type}{K:PySem.W.Frag}{μ:List Addr}{H:Hp}{m:M3.M M3.D}{k:M3.D->M3.M α}{G:M3.Hh}{P:α->M3.Hh->Prop}{R:VK}{Z:Nat->M3.Hh->Prop}(h:M3.run (M3.bnd m k) G P Z)(hz:∀c G,Z c G->Y.x μ H c G)
 (f:∀d G1 v H1 μ1,Up μ μ1 H H1->Sim T K μ1 H1 G1->Den K H1 μ1 d v->M3.run (k d) G1 P Z->R v H1):M3.run m G (cJ T K μ H R) (Y.x μ H):=
 M3.ao (M3.aN h) (fun d G1 q v H1 μ1 u S r=>f d G1 v H1 μ1 u S r q) hz
theorem HL{α:Type}{K:PySem.W.Frag}{μ:List Addr}{H:Hp}{m:M3.M Bool}{k:Bool->M3.M α}{G:M3.Hh}{P:α->M3.Hh->Prop}{R:Bool->Hp->Prop}{Z:Nat->M3.Hh->Prop}(h:M3.run (M3.bnd m k) G P Z)(hz:∀c G,Z c G->Y.x μ H c G)
 (f:∀b G1 H1 μ1,Up μ μ1 H H1->Sim T K μ1 H1 G1->M3.run (k b) G1 P Z->R b H1):M3.run m G (oI T K μ H R) (Y.x μ H):=
 M3.ao (M3.aN h) (fun d G1 q H1 μ1 u S=>f d G1 H1 μ1 u S q) hz
structure Kn (X:Cx) (T:Tab) (pins:List (Addr×Obj)) (σ:L2.St) (μ:List Addr) (H:Hp) (P:List M3.D->M3.Hh->Prop) (sz:Nat) (p C:Addr) (s':Shared):Prop where
 ex:∃ys ws H' μ' G',L2.Inv X pins σ H' s'/\Up μ μ' H H'/\Sim T X.K μ' H' G'/\H' p=some (.lst ws)/\p∉μ'/\ax X.K H' μ' ys ws/\P ys G'/\H' C=none/\H p=none
 ns:∃m,s'.heap.Ns C m
 ge:sz<=C
theorem sE(B:Blk X x caps scope cl)(hc:X.calm=true)(he:∀s₃ H₃ C fp E',PE (blk X x caps scope cl s₃ H₃ C fp E') elt (tE T X.K Y fe))(ht:∀s₃ H₃ C fp E',PTs (blk X x caps scope cl s₃ H₃ C fp E') ifs (tT T X.K Y ft))
 {pins:List (Addr×Obj)} {σ:L2.St} {H:Hp} {s₂:Shared} {it:Addr} {fp:List Addr} {tn:Nat->Heap->Prop} {J:It} {μ:List Addr} {σ3:M3.St} {G:M3.Hh} {src:M3.Src} {E:Value->Shared->Prop}
 (I:L2.Inv X pins σ H s₂) (Tn:Turn X.prog X.w X.K (.Name x px) J fp it tn) (st:tn 0 s₂.heap) (hf:∀b∈fp,nJ X pins H b) (S:Sim T X.K μ H G) (sd:StD X.K H μ σ3 σ) (sr:xH T X.K μ H src J)
 {P:List M3.D->M3.Hh->Prop} (h:M3.run (M3.bX src.ck (fun z=>ft (some z :: M3.dU σ3 (caps.map (·.2)))) (fun z=>fe (some z :: M3.dU σ3 (caps.map (·.2)))) src.xs []) G P (Y.x μ H))
 {RR:Value->Addr->Result->Shared->Prop} (fin:∀p C s',Kn X T pins σ μ H P s₂.heap.objs.size p C s'->RR (.ref p) C (.ok .next) s'):
 wpAny (model X.prog X.w) X.A (newList []) (fun acc s₃=>wpAny (model X.prog X.w) X.A (newFunctionEnv scope X.env.globals cl [] X.env.qual none .none (some X.env)) (fun cenv s₄=>
  codeAny (model X.prog X.w) X.A (.compStart (.ListComp elt [⟨.Name x px,iter,ifs,0⟩] scope pos) 0 (.ref it) acc {cenv with scope:=relabel scope X.env}) (RR acc cenv.locals) s₄) E s₃) E s₂:=by
 refine wpAny_newObj_type (wpAny_newFunctionEnv B.GN (by intro y hy;simp at hy) (fun h₁ hns₁ hsb₁=>?_) B.kind)
 have hp0:H s₂.heap.objs.size=none:=I.hok.fresh (qO_ _)
 have I3:L2.Inv X pins σ (upd H s₂.heap.objs.size (.lst [])) {s₂ with heap:=s₂.heap.push {cls:= .type "list",data:= .seq ([]:List Value).toArray},toks:=s₂.toks}:=
  I.laid (t':=s₂.toks) (fun b u e=>Heap.get?_push_of_some _ e) (qO_ _) ⟨qf_ _,[],0,.nil,Heap.get?_push_size _ rfl⟩
 have hpμ:s₂.heap.objs.size∉μ:=fun z=>qe_ _ (S.lt I _ z)
 have S3:=S.same (fO.new (.lst []) hp0)
 have up0:Up μ μ H (upd H s₂.heap.objs.size (.lst [])):=Up.same (fO.new _ hp0)
 have hfl:∀b∈fp,b < s₂.heap.objs.size:=fun b hb=>by
  obtain⟨o,e,_⟩:=Tn.obj 0 _ st b hb
  exact Heap.lt_size e
 have hf3:∀b∈fp,nJ X pins (upd H s₂.heap.objs.size (.lst [])) b:=fun b hb=>⟨by rw[aE (Nat.ne_of_lt (hfl b hb))];exact(hf b hb).1,(hf b hb).2⟩
 generalize hpp:s₂.heap.objs.size=p at*
 generalize hH3:upd H p (.lst [])=H₃ at*
 have hpH:H₃ p=some (.lst []):=by rw[<-hH3];exact aF
 generalize hs3:({s₂ with heap:=s₂.heap.push {cls:= .type "list",data:= .seq ([]:List Value).toArray},toks:=s₂.toks}:Shared)=s₃ at*
 have hsz3:s₃.heap.objs.size=p+1:=by rw[<-hs3];show (s₂.heap.push _).objs.size=p+1;rw[Heap.size_push,hpp]
 have hfl3:∀b∈fp,b < s₃.heap.objs.size:=fun b hb=>by rw[hsz3];exact Nat.lt_succ_of_lt (hfl b hb)
 have e3:s₂.heap.push {cls:= .type "list",data:= .seq ([]:List Value).toArray}=s₃.heap:=by rw[<-hs3]
 have keep1:∀b o,s₃.heap.get? b=some o->h₁.get? b=some o:=fun b o e=>(hsb₁.2 b (Nat.ne_of_lt (Heap.lt_size e))).trans (Heap.get?_push_of_some _ e)
 generalize hC:s₃.heap.objs.size=C at*
 have I4:∀E',L2.Inv (blk X x caps scope cl s₃ H₃ C fp E') pins (σ0 σ caps) H₃ {s₃ with heap:=h₁,toks:=s₃.toks+([]:List (Str×Value)).length}:=fun E'=>by
  subst hC
  exact Dw B I3 hf3 hfl3 hns₁ keep1
 have hch:∀b∈fp,(b∈X.ex\/X.s₀.heap.objs.size<=b)/\b≠X.env.locals/\(∀x c,X.env.cells.lookup x=some c->c≠b)/\∀q∈X.pn++pins,q.1≠b:=fun b hb=>⟨(hf b hb).2.2.2.1,(hf b hb).2.1,(hf b hb).2.2.2.2.1,(hf b hb).2.2.2.2.2⟩
 have tn1:tn 0 h₁:=Tn.keep 0 _ _ st fun b hb o e=>keep1 b o (by rw[<-e3];exact Heap.get?_push_of_some _ e)
 have loop:∀s₄:Shared,s₄={s₃ with heap:=h₁,toks:=s₃.toks+([]:List (Str×Value)).length}->
  codeAny (model X.prog X.w) X.A (.compLoop (.ListComp elt [⟨.Name x px,iter,ifs,0⟩] scope pos) 0 (.ref it) (.ref p) (compEnvC scope cl C X.env)) (RR (.ref p) C) s₄:=by
  rintro s₄ rfl
  generalize hE:notedBy (model X.prog X.w) X.A (compEnvC scope cl C X.env) (fun e s'=>RR (.ref p) C (.error e) s')=E'
  refine codeAny_compLoop_tests (fun k s'=>∃(i:Nat),∃ys ws o H' μ' G',L2.Inv (blk X x caps scope cl s₃ H₃ C fp E') pins (o :: caps.map fun q=>(σ[q.2]?).join) H' s'/\tn i s'.heap/\(∀b∈fp,H' b=none)/\i<=src.xs.length/\k=src.xs.length+1 - i/\
   Up μ μ' H H'/\Sim T X.K μ' H' G'/\H' p=some (.lst ws)/\p∉μ'/\ax X.K H' μ' ys ws/\M3.run (M3.bX src.ck (fun z=>ft (some z :: M3.dU σ3 (caps.map (·.2)))) (fun z=>fe (some z :: M3.dU σ3 (caps.map (·.2)))) (src.xs.drop i) ys) G' P (Y.x μ H)) ?_ (src.xs.length+1)
   ⟨0,[],[],none,H₃,μ,G,I4 E',tn1,fun b hb=>(hf3 b hb).1,qf_ _,rfl,up0,S3,hpH,hpμ,rfl,h⟩
  rintro k s' ⟨i,ys,ws,o,H',μ',G',I',tn',fr',hi,rfl,up',S',hpw,hpm,dws,q'⟩
  rw[hE]
  have fpok:∀{H'':Hp},(∀b∈fp,H'' b=none)->∀b∈fp,nJ (blk X x caps scope cl s₃ H₃ C fp E') pins H'' b:=fun {H''} hn b hb=>by
   refine⟨hn b hb,?_,fun z=>?_,.inl hb,fun y c e=>(hf b hb).2.2.2.2.1 y c (B.sub y c e),(hf b hb).2.2.2.2.2⟩
   · exact Nat.ne_of_lt (hfl3 b hb)
   · rcases qS_.mp (I3.jG b z)with e |e
     · exact(hf b hb).2.1 e
     · exact(hf b hb).2.2.1 e
  by_cases hlt:i < src.xs.length
  · rw[List.drop_eq_getElem_cons hlt]at q'
    obtain⟨c,q2⟩:=wZ q'
    have ex:src.xs[i]? =some src.xs[i]:=qA_ hlt
    generalize src.xs[i]=d at ex q2
    refine wpAny_mono (Tn.item (blk X x caps scope cl s₃ H₃ C fp E') rfl rfl rfl hc i pins s' _ H' E' I' (fpok fr') tn' (sr.go i d μ' H' G' up' S' c ex)) (fun r s1 ⟨u,hr,h1⟩=>?_) fun _ _ z=>z
    subst hr
    have go:wpAny (model X.prog X.w) X.A (letOwnedTupleGo (.Name x px) (.ref it) u >>= fun _=>assign (.Name x px) (compEnvC scope cl C X.env) u) (fun _ s₂=>
     wpAny (model X.prog X.w) X.A (forIn ifs true fun c r=>if r=true then do let ok <-isTrue c (compEnvC scope cl C X.env) (eval c (compEnvC scope cl C X.env));pure (ForInStep.yield ok)else pure (ForInStep.yield r)) (fun ok s₃'=>
      if ok=true then wpAny (model X.prog X.w) X.A (eval elt (compEnvC scope cl C X.env)) (fun y s₄=>
       wpAny (model X.prog X.w) X.A (call (.builtin "list.append") [.ref p,y]) (fun _ s₅=>∃m,m < src.xs.length+1 - i/\∃(i:Nat),∃ys ws o H' μ' G',L2.Inv (blk X x caps scope cl s₃ H₃ C fp E') pins (o :: caps.map fun q=>(σ[q.2]?).join) H' s₅/\tn i s₅.heap/\(∀b∈fp,H' b=none)/\i<=src.xs.length/\m=src.xs.length+1 - i/\
    Up μ μ' H H'/\Sim T X.K μ' H' G'/\H' p=some (.lst ws)/\p∉μ'/\ax X.K H' μ' ys ws/\M3.run (M3.bX src.ck (fun z=>ft (some z :: M3.dU σ3 (caps.map (·.2)))) (fun z=>fe (some z :: M3.dU σ3 (caps.map (·.2)))) (src.xs.drop i) ys) G' P (Y.x μ H)) E' s₄) E' s₃'
     else ∃m,m < src.xs.length+1 - i/\∃(i:Nat),∃ys ws o H' μ' G',L2.Inv (blk X x caps scope cl s₃ H₃ C fp E') pins (o :: caps.map fun q=>(σ[q.2]?).join) H' s₃'/\tn i s₃'.heap/\(∀b∈fp,H' b=none)/\i<=src.xs.length/\m=src.xs.length+1 - i/\
    Up μ μ' H H'/\Sim T X.K μ' H' G'/\H' p=some (.lst ws)/\p∉μ'/\ax X.K H' μ' ys ws/\M3.run (M3.bX src.ck (fun z=>ft (some z :: M3.dU σ3 (caps.map (·.2)))) (fun z=>fe (some z :: M3.dU σ3 (caps.map (·.2)))) (src.xs.drop i) ys) G' P (Y.x μ H)) E' s₂) E' s1:=by
     refine wpAny_bind (thn h1 fun _ s2 ⟨xv,H'',I5,r5,y5,tn5,fr5⟩=>?_)
     obtain⟨sm,dx⟩:=sr.yld i d xv μ' H' H'' G' up' S' c ex y5
     have us:Up μ' μ' H' H'':=Up.same sm
     have up':=up'.trans us
     have S':=S'.same sm
     have hpw:=sm _ _ hpw
     have dws:=ax.up us dws
     have I5':=I5.pinned (fpok fr5) (Tn.obj _ _ tn5)
     have back:∀{σ7:L2.St} {H7:Hp} {s7:Shared},L2.Inv (blk X x caps scope cl s₃ H₃ C fp E') (pins++qG fp s2.heap) σ7 H7 s7->tn (i+1) s7.heap/\∀b∈fp,H7 b=none:=fun {σ7 H7 s7} I7=>by
      refine⟨Tn.keep _ _ _ tn5 fun b hb ob eb=>(I7.pin (b,ob) (qE_ _ (qE_ _ (iP hb eb)))).1,fun b hb=>?_⟩
      obtain⟨ob,eb,_⟩:=Tn.obj _ _ tn5 b hb
      exact(I7.pin (b,ob) (qE_ _ (qE_ _ (iP hb eb)))).2.1
     refine thn (ur (X:=blk X x caps scope cl s₃ H₃ C fp E') (i:=0) (pos:=px) B.nd rfl (.inl (lookup_relabel_local B.own)) (.inl (qZ_ rfl)) _ s2 _ _ xv u (fun σ2 H2=>σ2=some xv :: caps.map (fun q=>(σ[q.2]?).join)/\H2=H'') I5' r5 ⟨rfl,rfl⟩) fun _ s3 ⟨σ6,H6,I6,e6,e7⟩=>?_
     subst e6 e7
     have sd6:StD X.K H6 μ' (some d :: M3.dU σ3 (caps.map (·.2))) (some xv :: caps.map fun q=>(σ[q.2]?).join):=((sd.up up').dU caps (some xv)).set 0 dx
     refine thn (ht s₃ H₃ C fp E' _ s3 _ H6 (fun b H8=>∃μ8 G8,Up μ' μ8 H6 H8/\Sim T X.K μ8 H8 G8/\M3.run (Bf src.ck (fun z=>ft (some z :: M3.dU σ3 (caps.map (·.2)))) (fun z=>fe (some z :: M3.dU σ3 (caps.map (·.2)))) d (src.xs.drop (i+1)) ys b) G8 P (Y.x μ H)) I6
      ⟨μ',_,G',S',sd6,HL (Y:=Y) q2 (fun _ _ z=>Y.up up' z) fun b G8 H8 μ8 u8 S8 h8=>⟨μ8,G8,u8,S8,h8⟩⟩) fun b s4 ⟨H8,I8,μ8,G8,u8,S8,h8⟩=>?_
     obtain⟨hpw8,hpm8⟩:=u8.rest p _ hpw hpm
     cases b with
     |false=>
      obtain⟨tn8,fr8⟩:=back I8
      exact⟨_,by omega,i+1,ys,ws,some xv,H8,μ8,G8,I8.jK,tn8,fr8,hlt,rfl,up'.trans u8,S8,hpw8,hpm8,ax.up u8 dws,h8⟩
     |true=>
      refine thn (he s₃ H₃ C fp E' _ s4 _ H8 (fun v H9=>∃y μ9 G9,Up μ8 μ9 H8 H9/\Sim T X.K μ9 H9 G9/\Den X.K H9 μ9 y v/\M3.run (if ys.length < M3.aA then M3.bX src.ck (fun z=>ft (some z :: M3.dU σ3 (caps.map (·.2)))) (fun z=>fe (some z :: M3.dU σ3 (caps.map (·.2)))) (src.xs.drop (i+1)) (ys++[y])else M3.fail) G9 P (Y.x μ H)) I8
       ⟨μ8,_,G8,S8,sd6.up u8,FJ (Y:=Y) h8 (fun _ _ z=>Y.up (up'.trans u8) z) fun y G9 v H9 μ9 u9 S9 d9 h9=>⟨y,μ9,G9,u9,S9,d9,h9⟩⟩) fun yv s5 ⟨v,H9,I9,rv,y,μ9,G9,u9,S9,d9,h9⟩=>?_
      obtain⟨hpw9,hpm9⟩:=u9.rest p _ hpw8 hpm8
      obtain⟨hl,h9⟩:=j5 h9
      have dws9:=ax.up (u8.trans u9) dws
      refine thn (rZ (X:=blk X x caps scope cl s₃ H₃ C fp E') _ s5 _ H9 (.ref p) [v] (.ref p) [yv] (fun _ H10=>H10=upd H9 p (.lst (ws++[v]))) I9 rfl (.cons rv .nil) ⟨p,ws,v,rfl,rfl,hpw9,by rw[<-dws9.length,<-bS];exact hl,rfl⟩) fun _ s6 ⟨_,H10,I10,_,e10⟩=>?_
      subst e10
      obtain⟨tn10,fr10⟩:=back I10
      have k10:Keeps H9 (upd H9 p (.lst (ws++[v]))):=Keeps.write hpw9 (fun _ z=>nomatch z) (fun _ _ z=>nomatch z)
      exact⟨_,by omega,i+1,ys++[y],ws++[v],some xv,_,μ9,G9,I10.jK,tn10,fr10,hlt,rfl,((up'.trans u8).trans u9).off hp0 hpw9,S9.off hpm9 hpw9,aF,hpm9,ax.mono (List.prefix_refl _) k10 (dws9.append (ax.one d9)),h9⟩
    exact go
  · have e:i=src.xs.length:=by omega
    subst e
    rw[List.drop_length]at q'
    obtain⟨c,q2⟩:=zt q'
    refine wpAny_mono (Tn.done (blk X x caps scope cl s₃ H₃ C fp E') rfl rfl rfl hc _ pins s' _ H' E' I' (fpok fr') tn' (sr.stop μ' H' G' up' S' c)) (fun r s1 ⟨hr,I5⟩=>?_) fun _ _ z=>z
    subst hr
    have I6:L2.Inv X pins σ H' s1:=I3.Bs (ch:=fp) I5.os I5.base I5.hok I5.bare hch
    obtain⟨m,hm,_⟩:=I5.loc
    exact fin p C s1 ⟨⟨ys,ws,H',μ',G',I6,up',S',hpw,hpm,dws,q2,I5.free,hp0⟩,⟨m,hm⟩,by rw[hsz3];exact Nat.le_succ _⟩
 exact codeAny_compStart_list (loop _ rfl) (Tn.self _ 0 _ _ _ tn1 (loop _ rfl))
end
theorem Sim.adopt{T:Tab}{K:PySem.W.Frag}{μ:List Addr}{H:Hp}{G:M3.Hh}{p:Addr}{ws:List V}{ys:List M3.D}(S:Sim T K μ H G)(hp:p∉μ)(hw:H p=some (.lst ws))(d:ax K H μ ys ws):Sim T K (μ++[p]) H (G++[.lst ys]):=by
 have pre:μ <+: μ++[p]:=⟨[p],rfl⟩
 have old:∀(n:Nat) a o',(μ++[p])[n]? =some a->(G++[.lst ys])[n]? =some o'->(μ[n]? =some a/\G[n]? =some o')\/(n=G.length/\a=p/\o'= .lst ys):=by
  intro n a o' e1 e2
  by_cases h:n < G.length
  · rw[qK_ (by rw[S.len];exact h)]at e1
    rw[qK_ h]at e2
    exact .inl ⟨e1,e2⟩
  · have hn:n=G.length:=by
     have:=(qB_.mp e2).1
     rw[qN_]at this
     simp at this
     omega
    subst hn
    rw[<-S.len]at e1
    simp at e1 e2
    exact .inr ⟨rfl,e1.symm,e2.symm⟩
 refine⟨by simp [S.len],fun n a o' e1 e2=>?_,fun n m a o1 o2 hnm e1 e2 e3 e4=>?_⟩
 · rcases old n a o' e1 e2 with ⟨h1,h2⟩ |⟨_,rfl,rfl⟩
   · exact(S.obj n a o' h1 h2).mono pre (Keeps.refl _) fun _ z=>z
   · exact⟨ws,hw,ax.mono pre (Keeps.refl _) d⟩
 · rcases old n a o1 e1 e3 with ⟨h1,h2⟩ |⟨rfl,rfl,rfl⟩
   · rcases old m a o2 e2 e4 with ⟨h3,h4⟩ |⟨rfl,rfl,rfl⟩
     · exact S.inj n m a o1 o2 hnm h1 h3 h2 h4
     · exact absurd (qD_ h1) hp
   · rcases old m a o2 e2 e4 with ⟨h3,h4⟩ |⟨h3,_,_⟩
     · exact absurd (qD_ h3) hp
     · exact absurd h3.symm hnm
theorem Up.adopt{μ μ':List Addr}{H H':Hp}{p:Addr}(u:Up μ μ' H H')(hp:H p=none):Up μ (μ'++[p]) H H':=
 ⟨u.pre.trans ⟨[p],rfl⟩,u.keeps,fun b o e n=>⟨(u.rest b o e n).1,fun z=>by
   rcases qG_.mp z with z |z
   · exact(u.rest b o e n).2 z
   · simp at z;subst z;rw[hp]at e;cases e⟩⟩
section
variable{X:Cx}{T:Tab}{Y:EX}{elt iter:Expr}{x:Str}{px:Pos}{ifs:List Expr}{scope:Scope}{cl:List (Str×Addr)}{caps:List (Str×Nat)}{pos:Pos}{fe:M3.E3}{ft:M3.T3}{it:M3.I3}
theorem yf{pins:List (Addr×Obj)}{σ σ':L2.St}{H H':Hp}{s₂ s':Shared}{C:Addr}(I:L2.Inv X pins σ H s₂)(hge:s₂.heap.objs.size<=C)(I':L2.Inv X pins σ' H' s')(hC:H' C=none){h':Heap}(hs:Heap.SameBut C s'.heap h'):L2.Inv X pins σ' H' {s' with heap:=h'}:=by
 refine I'.turned (t':=s'.toks) (it:=C) (fun b o hb e=>(hs.2 b hb).trans e) hC (Nat.ne_of_gt (qd_ I.lt hge)) (.inr (Nat.le_trans I.sz hge)) (fun y c e z=>?_) fun q hq z=>?_
 · obtain⟨v,w⟩:=I.cell y c e
   exact absurd (qd_ w.lt (by rw[z];exact hge)) (qe_ _)
 · exact absurd (qd_ (Heap.lt_size (I.pin q hq).1) (by rw[z];exact hge)) (qe_ _)
theorem mh(B:Blk X x caps scope cl)(hc:X.calm=true)(hi:PI X (.Name x px) iter (tI T X.K Y it))(ht:∀s₃ H₃ C fp E',PTs (blk X x caps scope cl s₃ H₃ C fp E') ifs (tT T X.K Y ft))(he:∀s₃ H₃ C fp E',PE (blk X x caps scope cl s₃ H₃ C fp E') elt (tE T X.K Y fe))
 (hs:∀x,foldedSetIterable iter X.env x=pure x:=by intro _;rfl):PE X (.ListComp elt [⟨.Name x px,iter,ifs,0⟩] scope pos) (tE T X.K Y (M3.fT it (caps.map (·.2)) ft fe)):=by
 intro pins s σ H Q I ⟨μ,σ3,G,S,sd,h⟩
 rw[eval_ListComp]
 refine wpAny_comprehension_free (use:=none) rfl hs B.Dg B.kind B.loc (thn (hi pins s σ H (fun J H1=>∃src μ1 G1,Up μ μ1 H H1/\Sim T X.K μ1 H1 G1/\xH T X.K μ1 H1 src J/\
  M3.run (M3.bnd (M3.bX src.ck (fun x=>ft (some x :: M3.dU σ3 (caps.map (·.2)))) (fun x=>fe (some x :: M3.dU σ3 (caps.map (·.2)))) src.xs []) fun ys=>M3.new (.lst ys)) G1 (cJ T X.K μ H Q) (Y.x μ1 H1)) I
  ⟨μ,σ3,G,S,sd,cm (M3.aN h) fun src G1 q J H1 μ1 u1 S1 sr=>⟨src,μ1,G1,u1,S1,sr,Y.upE u1 q⟩⟩) fun v s1 h1=>thn h1 fun itv s2 h2=>?_)
 obtain⟨ita,fp,tn,J,H1,e,I2,Tn,st2,f2,src,μ1,G1,u1,S1,sr,q⟩:=h2
 subst e
 refine sE (RR:=fun acc C=>compPost (model X.prog X.w) X.A X.xe none (EP X pins σ Q) acc C) B hc he ht I2 Tn st2 f2 S1 (sd.up u1) sr (M3.aN q) fun p C s' ce=>?_
 obtain⟨⟨ys,ws,H',μ',G',I',u',S',hpw,hpm,d,hP,hC,hp0⟩,⟨m,hm⟩,hge⟩:=ce
 refine⟨m,hm,fun h' hsb=>⟨.ref p,H',yf I2 hge I' hC hsb,rfl,?_⟩⟩
 refine hP _ H' (μ'++[p]) (u1.trans (u'.adopt hp0)) (S'.adopt hpm hpw d) ⟨p,?_,rfl⟩
 rw[<-S'.len];simp
theorem iA{i:Nat}{y:Str}{py spos:Pos}(B:Blk X x caps scope cl)(hc:X.calm=true)(hN:X.N.Nodup)(hiN:X.N[i]? =some y)(hy:X.env.scope.names.lookup y=some .local)
 (hi:PI X (.Name x px) iter (tI T X.K Y it)) (ht:∀s₃ H₃ C fp E',PTs (blk X x caps scope cl s₃ H₃ C fp E') ifs (tT T X.K Y ft)) (he:∀s₃ H₃ C fp E',PE (blk X x caps scope cl s₃ H₃ C fp E') elt (tE T X.K Y fe))
 (hsw:swapsWith (.ListComp elt [⟨.Name x px,iter,ifs,0⟩] scope pos) (some (.Name y py)) spos.line X.env=pure true:=by rfl)
 (hs:∀x,foldedSetIterable iter X.env x=pure x:=by intro _;rfl):PS X (.Assign [.Name y py] (.ListComp elt [⟨.Name x px,iter,ifs,0⟩] scope pos) spos) (tS T X.K Y (M3.bx i (M3.fT it (caps.map (·.2)) ft fe))):=by
 intro pins s σ H D I ⟨μ,σ3,G,S,sd,h⟩
 rw[exec_Assign_Name_used _ _ _ _ hsw]
 refine wpAny_bind (wpAny_standAt (wpAny_bind ?_))
 show wpAny _ X.A (do let _ <-comprehension (.ListComp elt [⟨.Name x px,iter,ifs,0⟩] scope pos) scope X.env _ (newList []) false (eval iter X.env) (some (assign (.Name y py) X.env))) _ _ s
 refine wpAny_bind (wpAny_mono (wpAny_comprehension_free (use:=some (assign (.Name y py) X.env)) (Q:=fun _ s'=>SP X pins D .next s') rfl hs B.Dg B.kind B.loc
  (thn (hi pins s σ H (fun J H1=>∃src μ1 G1,Up μ μ1 H H1/\Sim T X.K μ1 H1 G1/\xH T X.K μ1 H1 src J/\
  M3.run (M3.bnd (M3.bX src.ck (fun x=>ft (some x :: M3.dU σ3 (caps.map (·.2)))) (fun x=>fe (some x :: M3.dU σ3 (caps.map (·.2)))) src.xs []) fun ys=>M3.bnd (M3.new (.lst ys)) fun d=>M3.ret (.next,σ3.set i (some d))) G1 (eB T X.K μ H D) (Y.x μ1 H1)) I
  ⟨μ,σ3,G,S,sd,cm (M3.aN (by
    have h:M3.run (M3.bnd (M3.bnd (it σ3) fun src=>M3.bnd (M3.bX src.ck (fun x=>ft (some x :: M3.dU σ3 (caps.map (·.2)))) (fun x=>fe (some x :: M3.dU σ3 (caps.map (·.2)))) src.xs []) fun ys=>M3.new (.lst ys)) fun d=>M3.ret (.next,σ3.set i (some d))) G (eB T X.K μ H D) (Y.x μ H):=h
    rw[M3.kT]at h
    exact h)) fun src G1 q J H1 μ1 u1 S1 sr=>⟨src,μ1,G1,u1,S1,sr,Y.upE u1 (by rw[M3.kT]at q;exact q)⟩⟩) fun v s1 h1=>thn h1 fun itv s2 h2=>?_)) (fun _ s' hq=>wpAny_pure (wpAny_pure hq)) fun _ _ e=>e)
 obtain⟨ita,fp,tn,J,H1,e,I2,Tn,st2,f2,src,μ1,G1,u1,S1,sr,q⟩:=h2
 subst e
 refine sE (RR:=fun acc C=>compPost (model X.prog X.w) X.A X.xe (some (assign (.Name y py) X.env)) (fun _ s'=>SP X pins D .next s') acc C) B hc he ht I2 Tn st2 f2 S1 (sd.up u1) sr (M3.aN q) fun p C s' ce=>?_
 obtain⟨⟨ys,ws,H',μ',G',I',u',S',hpw,hpm,d,hP,hC,hp0⟩,⟨m,hm⟩,hge⟩:=ce
 show wpAny _ X.A (assign (.Name y py) X.env (.ref p)) _ _ _
 refine wpAny_assign_Name (rR I' hN hiN (.inl hy) (v:= .ref p) rfl (fun s3 I3 ⟨a,hsa,hal⟩=>?_) (.inr hy))
 have hCa:C≠a:=by
  rintro rfl
  rcases hal with z |z
  · exact absurd I2.lt (by rw[<-z];exact Nat.not_lt.mpr hge)
  · obtain⟨v,w⟩:=I2.cell _ _ z
    exact absurd (qd_ w.lt hge) (qe_ _)
 refine⟨m,hm.sameBut hsa hCa,fun h' hsb=>⟨_,H',yf I2 hge I3 hC hsb,?_⟩⟩
 have Sa:=S'.adopt hpm hpw d
 have ua:=(u1.trans (u'.adopt hp0))
 have dn:Den X.K H' (μ'++[p]) (.ref G'.length) (.ref p):=⟨p,by rw[<-S'.len];simp,rfl⟩
 exact hP _ H' (μ'++[p]) ua Sa ((sd.up ua).set i dn)
theorem Blk.nil(hkind:scope.kind= .function)(hno:scope.names.all (fun y=>decide (y.2= .local))=true)(hloc:∀y∈scope.names,scope.names.lookup y.1=some .local)(hown:scope.names.lookup x=some .local):Blk X x [] scope []:=by
 have hl:∀y∈scope.names,y.2= .local:=fun y hy=>of_decide_eq_true (List.all_eq_true.mp hno y hy)
 refine⟨hkind,fun y hy z=>?_,fun y hy _=>hloc y hy,hown,closureFor_none fun y hy z=>?_,(by simp),(fun y c e=>by cases e),(fun y hy=>?_),rfl,(fun j y i e=>by simp at e)⟩
 · rw[hl y hy]at z;cases z
 · rw[hl y hy]at z;cases z
 · exfalso
   have key:∀(l:List (Str×NameKind)),(∀z∈l,z.2= .local)->∀k,(l.map fun(n,k)=>if (k==NameKind.free&&X.env.scope.kind== .function&&X.env.kindOf n==some .cell)then (n,NameKind.cell)else (n,k)).lookup y=some k->k= .local:=by
    intro l
    induction l with
    |nil=>intro _ k e;cases e
    |cons z r ih=>
     intro hz k e
     obtain⟨n,kk⟩:=z
     have hk:kk= .local:=hz (n,kk) qI_
     subst hk
     rw[List.map_cons]at e
     simp only[show (NameKind.local==NameKind.free)=false from rfl,Bool.false_and,Bool.false_eq_true,if_false,List.lookup_cons]at e
     cases q:y==n with
     |true=>rw[q]at e;cases e;rfl
     |false=>rw[q]at e;exact ih (fun w hw=>hz w (qR_ _ hw)) k e
   rcases hy with z |z
   · exact absurd (key _ hl _ z) (by decide)
   · exact absurd (key _ hl _ z) (by decide)
end
def Eu(K:PySem.W.Frag)(mg:Str->Option Value)(x:Str)(d:M3.D):Prop:=∃v u,mg x=some u/\RelV v u/\∀H μ,Den K H μ d v
section
variable{X:Cx}{T:Tab}{Y:EX}{a b e:Expr}{fa fb:M3.E3}{pos:Pos}
theorem Gz{x:Str}{d:M3.D}(h:Eu X.K X.mg x d)(hg:Gl X x:=by rfl)(hd:(x==("__debug__":Str))=false:=by decide):PE X (.Name x pos) (tE T X.K Y (M3.eC d)):=by
 obtain⟨v,u,h1,h2,h3⟩:=h
 exact m8 (Eg hg h1 h2 hd) h3
theorem Eo(hu:X.A.units+64 < cLine):OpR X (compareOp .Eq) (ra T X.K false)/\Br2 T X.K Y M3.oEq (ra T X.K false):=GP (by omega)
theorem Iu(hu:X.A.units+64 < cLine):OpR X (compareOp .NotEq) (ra T X.K true)/\Br2 T X.K Y M3.oNe (ra T X.K true):=Gs (by omega)
theorem Ci(hu:X.A.units+64 < cLine):OpR X (compareOp .NotIn) (Bp T X.K true)/\Br2 T X.K Y M3.nG (Bp T X.K true):=zm (by omega)
theorem IG(hu:X.A.units+64 < cLine):OpR X (compareOp .Lt) (DK X.K)/\Br2 T X.K Y M3.oLt (DK X.K):=Fq (by omega)
theorem EY(hu:X.A.units+64 < cLine):OpR X (compareOp .Gt) (DQ X.K)/\Br2 T X.K Y M3.oGt (DQ X.K):=Gj (by omega)
theorem IA(hu:X.A.units+64 < cLine):OpR X (compareOp .GtE) (rI0 fun i j=>.bl (decide (j<=i)))/\Br2 T X.K Y M3.oGe (rI0 fun i j=>.bl (decide (j<=i))):=Gu
theorem zh(hu:X.A.units+64 < cLine)(ha:PE X a (tE T X.K Y fa))(hb:PE X b (tE T X.K Y fb))(hs:pv b:=by intro _ _;rfl):PE X (.Subscript a b pos) (tE T X.K Y (M3.eOp M3.oIx fa fb)):=JW (by omega) ha hb hs
theorem x4{K:PySem.W.Frag}{a:Addr}{od:Option Addr}{its:Array Value}{n:Nat}{sl:Array (Option Value)}{ds:List M3.D}{vs:List V}(l:K.lookup a=some ⟨.type "tuple",od,.seq its n,sl⟩)(hz:its.size<=sizeLine)(r:Vals vs its.toList)(d:∀H μ,ax K H μ ds vs):∀H μ,Den K H μ (.tup ds) (.ref a):=
 fun H μ=>⟨a,vs,rfl,.inr ⟨_,its,n,l,rfl,rfl,hz,r⟩,d H μ⟩
theorem F1{T:Tab}{K:PySem.W.Frag}{f:List M3.D->M3.M M3.D}{n:Nat}(h:∀ns:List Int,ns.length<=n->M3.run (f [.ref 0]) [.frz (ns.map M3.D.int)] (fun d _=>d= .bl true) fun _ _=>False)
 {H:Hp} {a:Addr} {ns:List Int} (hl:ns.length<=n) (hO:A7 H) (sq:SqL K H a (ns.map V.int)):sp3 T K 1 f [.ref a] H (fun v _=>v= .bl true) fun _ _ _=>False:=by
 have sf:SqF K H a (ns.map V.int):=by
  rcases sq with (sq |⟨o,sq⟩) |sq
  · rcases hO a with z |⟨o,xs,z⟩
    · rw[z]at sq;cases sq
    · rw[z]at sq;cases sq
  · exact .inl ⟨o,sq⟩
  · exact .inr sq
 refine⟨rfl,[a],[.ref 0],[.frz (ns.map M3.D.int)],⟨rfl,fun k b o e1 e2=>?_,fun k m b o o' hkm e1 e2 e3 e4=>?_⟩,⟨.ref a,[],rfl,⟨a,rfl,rfl⟩,rfl⟩,M3.ao (h ns hl) (fun d G' e v H' μ' u S r=>?_) fun _ _ z=>z.elim⟩
 · cases k with
   |zero=>cases e1;cases e2;exact⟨_,sf,ax.s8⟩
   |succ k=>simp at e1
 · cases k with
   |zero=>cases e3;exact .inl rfl
   |succ k=>simp at e1
 · subst e;exact r
end
structure yw (T:Tab) (K:PySem.W.Frag) (f:Nat):Prop where
 cl:∀C Ca,C < 1000->T.cls C=some Ca->Cls K Ca/\jo K Ca (T.nm f)
 inj:∀g,T.nm g=T.nm f->g=f
abbrev mZ(T:Tab)(K:PySem.W.Frag)(H:Hp)(μ:List Addr):List (Nat×M3.D)->List (Str×V)->Prop:=Paired (fun(p:Nat×M3.D) (q:Str×V)=>q.1=T.nm p.1/\Den K H μ p.2 q.2)
section
variable{X:Cx}{T:Tab}{Y:EX}{a b e o:Expr}{es:List Expr}{fa fb:M3.E3}{f3:M3.A3}{pos pos' p apos:Pos}
theorem mZ.get{K:PySem.W.Frag}{H:Hp}{μ:List Addr}{f:Nat}(hf:∀g,T.nm g=T.nm f->g=f):∀{fs:List (Nat×M3.D)} {ws:List (Str×V)} {d:M3.D},mZ T K H μ fs ws->fs.lookup f=some d->∃v,ws.lookup (T.nm f)=some v/\Den K H μ d v
 |_,_,_,.nil,e=>by cases e
 |(g,x) :: fs,(s,w) :: ws,d,.cons ⟨h1,h2⟩ t,e=>by
  have h1:s=T.nm g:=h1
  subst h1
  by_cases h:g=f
  · subst h
    simp at e
    subst e
    exact⟨w,by simp,h2⟩
  · have hn:¬T.nm f=T.nm g:=fun z=>h (hf g z.symm)
    have h':(f==g)=false:=by simpa using fun z=>h (Eq.symm z)
    have hn':(T.nm f==T.nm g)=false:=by simpa using hn
    rw[List.lookup_cons,h']at e
    rw[List.lookup_cons,hn']
    exact mZ.get hf t e
theorem mZ.none{K:PySem.W.Frag}{H:Hp}{μ:List Addr}{m:Str}(hm:∀g,T.nm g≠m):∀{fs:List (Nat×M3.D)} {ws:List (Str×V)},mZ T K H μ fs ws->ws.lookup m=Option.none
 |_,_,.nil=>rfl
 |(g,x) :: fs,(s,w) :: ws,.cons ⟨h1,h2⟩ t=>by
  have h1:s=T.nm g:=h1
  subst h1
  have hn':(m==T.nm g)=false:=by simpa using fun z=>hm g (Eq.symm z)
  rw[List.lookup_cons,hn']
  exact mZ.none hm t
theorem mZ.put{K:PySem.W.Frag}{H:Hp}{μ:List Addr}{f:Nat}(hf:∀g,T.nm g=T.nm f->g=f){d:M3.D}{v:V}(dv:Den K H μ d v):∀{fs:List (Nat×M3.D)} {ws:List (Str×V)},mZ T K H μ fs ws->mZ T K H μ (M3.putN f d fs) (iE (T.nm f) v ws)
 |_,_,.nil=>.cons ⟨rfl,dv⟩ .nil
 |(g,x) :: fs,(s,w) :: ws,.cons ⟨h1,h2⟩ t=>by
  have h1:s=T.nm g:=h1
  subst h1
  unfold M3.putN iE
  by_cases h:g=f
  · subst h
    rw[if_pos rfl,if_pos rfl]
    exact .cons ⟨rfl,dv⟩ t
  · rw[if_neg h,if_neg fun z=>h (hf g z)]
    exact .cons ⟨rfl,h2⟩ (mZ.put hf dv t)
theorem ou{f:Nat}{n:Str}(F:yw T X.K f)(he:PE X e (tE T X.K Y fa))(hn:n=T.nm f:=by rfl)(hb:attributeBase e n X.env (eval e X.env)=eval e X.env:=by rfl):PE X (.Attribute e n pos) (tE T X.K Y (M3.aU fa f)):=by
 subst hn
 refine PE.of (HF he hb) fun σ H Q ⟨μ,σ3,G,S,sd,h⟩=>⟨μ,σ3,G,S,sd,bi h fun d G1 v H1 μ1 u1 S1 d1 h1=>?_⟩
 unfold M3.run M3.Bj at h1
 cases d with
 |ref k=>
  dsimp only at h1
  obtain⟨a,ea,rfl⟩:=d1
  cases q:G1[k]? with
  |none=>rw[q]at h1;exact False.elim h1
  |some ob=>
   have od:=S1.obj k a ob ea q
   rw[q]at h1
   cases ob with
   |ins C fs=>
    dsimp only at h1
    obtain⟨Ca,dx,ws,hc,e1,r⟩:=od
    by_cases hC:C < 1000
    rotate_left
    · rw[if_neg hC]at h1;exact False.elim h1
    rw[if_pos hC]at h1
    cases ql:fs.lookup f with
    |none=>rw[ql]at h1;exact False.elim h1
    |some d=>
     rw[ql]at h1
     obtain⟨w,e2,dw⟩:=mZ.get F.inj r ql
     exact⟨a,Ca,dx,ws,w,rfl,e1,(F.cl C Ca hC hc).1,(F.cl C Ca hC hc).2,e2,h1 w H1 μ1 u1 S1 dw⟩
   |_=>exact False.elim h1
 |_=>exact False.elim h1
theorem yB{f:Nat}{n:Str}(F:yw T X.K f)(ho:PE X o (tE T X.K Y fa))(he:PE X e (tE T X.K Y fb))(hn:n=T.nm f:=by rfl)(hs:swapsWith e (some (.Attribute o n pos')) pos.line X.env=pure false:=by rfl):PS X (.Assign [.Attribute o n pos'] e pos) (tS T X.K Y (M3.bw fa f fb)):=by
 subst hn
 refine PS.of (GI ho he hs) fun D σ H ⟨μ,σ3,G,S,sd,h⟩=>⟨μ,σ3,G,S,sd,bi h fun y G1 w H1 μ1 u1 S1 d1 h1=>⟨μ1,σ3,G1,S1,sd.up u1,bi h1 fun x G2 v H2 μ2 u2 S2 d2 h2=>?_⟩⟩
 have h2:=M3.aN h2
 unfold M3.run M3.zS at h2
 cases x with
 |ref k=>
  dsimp only at h2
  obtain⟨a,ea,rfl⟩:=d2
  cases q:G2[k]? with
  |none=>rw[q]at h2;exact False.elim h2
  |some ob=>
   have od:=S2.obj k a ob ea q
   rw[q]at h2
   cases ob with
   |ins C fs=>
    dsimp only at h2
    obtain⟨Ca,dx,ws,hc,e1,r⟩:=od
    by_cases c:C < 1000/\fs.length < 1000
    · rw[if_pos c]at h2
      have up:=Up.set S2 (.ins Ca dx (iE (T.nm f) w ws)) ea q rfl
      refine⟨a,Ca,dx,ws,rfl,e1,(F.cl C Ca c.1 hc).1,(F.cl C Ca c.1 hc).2,by rw[<-Paired.length r];exact c.2,?_⟩
      have r2:mZ T X.K (upd H2 a (.ins Ca dx (iE (T.nm f) w ws))) μ2 fs ws:=Paired.imp' (fun _ _ z=>⟨z.1,Den.up up z.2⟩) r
      exact h2 _ _ μ2 ((u1.trans u2).trans up) (S2.set ea q rfl rfl ⟨Ca,dx,_,hc,aF,mZ.put F.inj (Den.up (u2.trans up) d1) r2⟩) (sd.up ((u1.trans u2).trans up))
    · rw[if_neg c]at h2;exact False.elim h2
   |_=>exact False.elim h2
 |_=>exact False.elim h2
structure Mt3 (P:Program) (w:World) (K:PySem.W.Frag) (mg:Str->Option Value) (base:Heap) (CX:CXT) (T:Tab) (k:Nat) (C:Nat) (m:Str) (n:Nat) (f:List M3.D->M3.M M3.D):Prop where
 ex:∃Ca fa fd ps,T.cls C=some Ca/\Cls K Ca/\Meth K Ca m fa/\aP P w K mg base CX k fa fd ps (sp3 T K n f)/\Binds K fd ps []
 no:∀g,T.nm g≠m
 len:∀ds G (Q:M3.D->M3.Hh->Prop) (Z:Nat->M3.Hh->Prop),M3.run (f ds) G Q Z->ds.length=n
theorem Hy{Z:Nat->M3.Hh->Prop}{C:Nat}{x:M3.D}{G:M3.Hh}{P:Unit->M3.Hh->Prop}(h:M3.run (M3.isC C x) G P Z):∃k fs,x= .ref k/\G[k]? =some (.ins C fs)/\P () G:=by
 unfold M3.run M3.isC at h
 cases x with
 |ref k=>
  dsimp only at h
  cases q:G[k]? with
  |none=>rw[q]at h;exact False.elim h
  |some ob=>
   rw[q]at h
   cases ob with
   |ins C' fs=>
    dsimp only at h
    by_cases c:C'=C
    · rw[if_pos c]at h;subst c;exact⟨k,fs,rfl,q,h⟩
    · rw[if_neg c]at h;exact False.elim h
   |_=>exact False.elim h
 |_=>exact False.elim h
theorem wo{CX:CXT}{E:XK}{P:Program}{w:World}{K:PySem.W.Frag}{mg:Str->Option Value}{base:Heap}{k n:Nat}{C:Nat}{Ca:Addr}{m:Str}{g:List M3.D->M3.M M3.D}(hc:T.cls C=some Ca)(no:∀g,T.nm g≠m)(len:∀ds G (Q:M3.D->M3.Hh->Prop) (Z:Nat->M3.Hh->Prop),M3.run (g ds) G Q Z->ds.length=n)
 {σ:L2.St} {H:Hp} {Q:VK} (h:tE T K (EX.of T K E) (M3.aH C g fa f3) σ H Q):BI Ca m (sp3 T K n g) [] E (tE T K (EX.of T K E) fa) (tA T K (EX.of T K E) f3) σ H Q:=by
 obtain⟨μ,σ3,G,S,sd,h⟩:=h
 refine⟨μ,σ3,G,S,sd,bi h fun x G1 v H1 μ1 u1 S1 d1 h1=>?_⟩
 obtain⟨i,fs,rfl,q,h2⟩:=Hy (M3.aN h1)
 obtain⟨a,ea,rfl⟩:=id d1
 obtain⟨Ca',dx,ws,hc',e1,r⟩:=S1.obj i a _ ea q
 rw[hc]at hc'
 cases hc'
 refine⟨a,dx,ws,rfl,e1,mZ.none no r,μ1,σ3,G1,S1,sd.up u1,oO h2 fun ds G2 vs H2 μ2 u2 S2 d2 h3=>?_⟩
 rw[qY_]
 have dd:ax K H2 μ2 (.ref i :: ds) (.ref a :: vs):=⟨_,_,rfl,Den.up u2 d1,d2⟩
 exact⟨by rw[<-dd.length];exact len _ _ _ _ h3,μ2,_,G2,S2,dd,cm h3 fun _ _ z=>z.up (u1.trans u2)⟩
theorem xD{CX:CXT}{E:XK}{k n:Nat}{C:Nat}{m:Str}{g:List M3.D->M3.M M3.D}{pl:Sem Bool}(F:Mt3 X.prog X.w X.K X.mg X.base CX T k C m n g)(hr:cU k X.A)(hx:eV CX X E)(ho:PE X o (tE T X.K (EX.of T X.K E) fa))(ha:PA X (e :: es) (tA T X.K (EX.of T X.K E) f3))
 (hst:starEach (e :: es) X.env=(false,eval e X.env) :: starEach es X.env:=by rfl) (hpl:(backTo pos (starEach es X.env)).any (·.1)=false:=by rfl)
 (ht:eval (.Call (.Attribute o m apos) (e :: es) [] pos) X.env=(do
   let ov <-eval o X.env
   standAt apos.atName
   let (f,first) <-holding [ov] (getMethod ov m pl)
   callWith pos f first (backTo pos (starEach (e :: es) X.env)) (backToKw pos (keywordEach [] X.env))):=by rfl):
 PE X (.Call (.Attribute o m apos) (e :: es) [] pos) (tE T X.K (EX.of T X.K E) (M3.aH C g fa f3)):=by
 obtain⟨Ca,fa',fd,ps,hc,cl,hm,G,hb⟩:=F.ex
 exact PE.of (DO (pl:=pl) ho cl hm G hr hb .nil hx ha hst hpl ht) fun _ _ _ h=>wo (CX:=CX) (P:=X.prog) (w:=X.w) (mg:=X.mg) (base:=X.base) (k:=k) hc F.no F.len h
theorem yA{CX:CXT}{E:XK}{k n:Nat}{C:Nat}{m:Str}{g:List M3.D->M3.M M3.D}{pl:Sem Bool}(F:Mt3 X.prog X.w X.K X.mg X.base CX T k C m n g)(hr:cU k X.A)(hx:eV CX X E)(ho:PE X o (tE T X.K (EX.of T X.K E) fa))
 (ht:eval (.Call (.Attribute o m apos) [] [] pos) X.env=(do
   let ov <-eval o X.env
   standAt apos.atName
   let (f,first) <-holding [ov] (getMethod ov m pl)
   callWith pos f first (backTo pos (starEach [] X.env)) (backToKw pos (keywordEach [] X.env))):=by rfl):
 PE X (.Call (.Attribute o m apos) [] [] pos) (tE T X.K (EX.of T X.K E) (M3.aH C g fa M3.ai)):=by
 obtain⟨Ca,fa',fd,ps,hc,cl,hm,G,hb⟩:=F.ex
 refine PE.of (Cg (pl:=pl) ho cl hm G hr hb .nil hx ht) fun σ H Q h=>?_
 obtain⟨μ,σ3,G,S,sd,h⟩:=wo (f3:=M3.ai) (CX:=CX) (P:=X.prog) (w:=X.w) (mg:=X.mg) (base:=X.base) (k:=k) hc F.no F.len h
 refine⟨μ,σ3,G,S,sd,cm h fun d G1 q v H1 μ1 u1 S1 d1=>?_⟩
 obtain⟨a,dx,fs,e1,e2,e3,μ2,σ4,G2,S2,sd2,h2⟩:=q v H1 μ1 u1 S1 d1
 exact⟨a,dx,fs,e1,e2,e3,h2 [] H1 μ2 (Up.refl _ _) S2 rfl⟩
structure Ct3 (P:Program) (w:World) (K:PySem.W.Frag) (mg:Str->Option Value) (base:Heap) (CX:CXT) (T:Tab) (k:Nat) (x:Str) (C:Nat) (n:Nat) (f:List M3.D->M3.M M3.D):Prop where
 ex:∃Ca fa fd ps,T.cls C=some Ca/\Mk K Ca fa/\mg x=some (.ref Ca)/\aP P w K mg base CX k fa fd ps (sp3 T K n f)/\Binds K fd ps []
 len:∀ds G (Q:M3.D->M3.Hh->Prop) (Z:Nat->M3.Hh->Prop),M3.run (f ds) G Q Z->ds.length=n
theorem Az{E:XK}{K:PySem.W.Frag}{n:Nat}{C:Nat}{Ca:Addr}{g:List M3.D->M3.M M3.D}(hc:T.cls C=some Ca)(len:∀ds G (Q:M3.D->M3.Hh->Prop) (Z:Nat->M3.Hh->Prop),M3.run (g ds) G Q Z->ds.length=n)
 {H1:Hp} {μ μ1:List Addr} {H:Hp} {G1:M3.Hh} {ds:List M3.D} {vs:List V} {Q:VK} (u1:Up μ μ1 H H1) (S1:Sim T K μ1 H1 G1) (d1:ax K H1 μ1 ds vs) (h:M3.run (M3.bnd (M3.new (.ins C [])) fun x=>M3.bnd (g (x :: ds)) fun r=>M3.bnd (M3.xO r) fun _=>M3.ret x) G1 (cJ T K μ H Q) ((EX.of T K E).x μ1 H1)):
 ∀x dx,H1 x=none->H1 dx=none->dx≠x->sp3 T K n g (.ref x :: vs) (upd (upd H1 dx (.own x)) x (.ins Ca dx [])) (fun v H2=>v= .non/\Q (.ref x) H2) E:=by
 intro x dx hx hdx hne
 have hx2:upd H1 dx (.own x) x=none:=by rw[aE (Ne.symm hne)];exact hx
 have ua:Up μ1 μ1 H1 (upd H1 dx (.own x)):=Up.same (fO.new _ hdx)
 have Sa:=S1.same (fO.new (.own x) hdx)
 have ub:=Up.new (μ:=μ1) (.ins Ca dx []) hx2
 have Sb:=Sa.new (o:= .ins C []) hx2 rfl ⟨Ca,dx,[],hc,aF,.nil⟩
 have uab:=ua.trans ub
 have dx':Den K (upd (upd H1 dx (.own x)) x (.ins Ca dx [])) (μ1++[x]) (.ref G1.length) (.ref x):=⟨x,by rw[<-S1.len];simp,rfl⟩
 have dd:ax K (upd (upd H1 dx (.own x)) x (.ins Ca dx [])) (μ1++[x]) (.ref G1.length :: ds) (.ref x :: vs):=⟨_,_,rfl,dx',ax.up uab d1⟩
 have h2:M3.run (M3.bnd (g (.ref G1.length :: ds)) fun r=>M3.bnd (M3.xO r) fun _=>M3.ret (M3.D.ref G1.length)) (G1++[.ins C []]) (cJ T K μ H Q) ((EX.of T K E).x μ1 H1):=h
 refine⟨by rw[<-dd.length];exact len _ _ _ _ (M3.aN h2),_,_,_,Sb,dd,M3.ao (M3.aN h2) (fun r G2 q v H2 μ2 u2 S2 dr=>?_) fun c G2 z=>(EX.of T K E).up uab z⟩
 cases r with
 |non=>exact⟨dr,q _ H2 μ2 ((u1.trans uab).trans u2) S2 (Den.up u2 dx')⟩
 |_=>exact False.elim q
theorem Cy{CX:CXT}{E:XK}{x:Str}{k n:Nat}{C:Nat}{g:List M3.D->M3.M M3.D}(F:Ct3 X.prog X.w X.K X.mg X.base CX T k x C n g)(hr:cU (k+1) X.A)(hx:eV CX X E)(ha:PA X (e :: es) (tA T X.K (EX.of T X.K E) f3))(hg:Gl X x:=by rfl)(hdb:(x==("__debug__":Str))=false:=by decide)
 (he:starEach (e :: es) X.env=(false,eval e X.env) :: starEach es X.env:=by rfl) (hpl:(backTo pos (starEach es X.env)).any (·.1)=false:=by rfl):PE X (.Call (.Name x p) (e :: es) [] pos) (tE T X.K (EX.of T X.K E) (M3.jq C g f3)):=by
 obtain⟨Ca,fa',fd,ps,hc,M,hm,G,hb⟩:=F.ex
 refine PE.of (DR M G hr hg hm hb .nil hx ha hdb he hpl) fun σ H Q ⟨μ,σ3,G,S,sd,h⟩=>⟨μ,σ3,G,S,sd,oO h fun ds G1 vs H1 μ1 u1 S1 d1 h1=>?_⟩
 rw[qY_]
 exact Az hc F.len u1 S1 d1 h1
theorem yl{CX:CXT}{E:XK}{x:Str}{k n:Nat}{C:Nat}{g:List M3.D->M3.M M3.D}(F:Ct3 X.prog X.w X.K X.mg X.base CX T k x C n g)(hr:cU (k+1) X.A)(hx:eV CX X E)(hg:Gl X x:=by rfl)(hdb:(x==("__debug__":Str))=false:=by decide):
 PE X (.Call (.Name x p) [] [] pos) (tE T X.K (EX.of T X.K E) (M3.jq C g M3.ai)):=by
 obtain⟨Ca,fa',fd,ps,hc,M,hm,G,hb⟩:=F.ex
 refine PE.of (BA M G hr hg hm hb .nil hx hdb) fun σ H Q ⟨μ,σ3,G,S,sd,h⟩=>?_
 exact Az (ds:=[]) (vs:=[]) hc F.len (Up.refl _ _) S rfl h
end
section
variable{X:Cx}{T:Tab}{Y:EX}{a b e o i:Expr}{es:List Expr}{fa fb fc:M3.E3}{ft:M3.T3}{f3:M3.A3}{pos pos' p p2 apos:Pos}
abbrev iC{κ:Type}(K:PySem.W.Frag)(H:Hp)(μ:List Addr):List (κ×M3.D)->List (κ×V)->Prop:=Paired (fun(p:κ×M3.D) (q:κ×V)=>p.1=q.1/\Den K H μ p.2 q.2)
theorem iC.any{κ:Type} [DecidableEq κ]{K:PySem.W.Frag}{H:Hp}{μ:List Addr}(k:κ):∀{kvs:List (κ×M3.D)} {ws:List (κ×V)},iC K H μ kvs ws->(kvs.any fun kv=>decide (kv.1=k))=ws.any fun kv=>decide (kv.1=k)
 |_,_,.nil=>rfl
 |(k1,d) :: kvs,(k2,v) :: ws,.cons ⟨h1,h2⟩ t=>by
  cases (show k1=k2 from h1)
  rw[List.any_cons,List.any_cons,iC.any k t]
theorem iC.map{κ:Type} [DecidableEq κ]{K:PySem.W.Frag}{H:Hp}{μ:List Addr}(k:κ){d:M3.D}{v:V}(dv:Den K H μ d v):∀{kvs:List (κ×M3.D)} {ws:List (κ×V)},iC K H μ kvs ws->iC K H μ (kvs.map fun kv=>if kv.1=k then (kv.1,d)else kv) (ws.map fun kv=>if kv.1=k then (kv.1,v)else kv)
 |_,_,.nil=>.nil
 |(k1,x) :: kvs,(k2,w) :: ws,.cons ⟨h1,h2⟩ t=>by
  cases (show k1=k2 from h1)
  rw[List.map_cons,List.map_cons]
  by_cases h:k1=k
  · rw[if_pos h,if_pos h];exact .cons ⟨rfl,dv⟩ (iC.map k dv t)
  · rw[if_neg h,if_neg h];exact .cons ⟨rfl,h2⟩ (iC.map k dv t)
theorem iC.snoc{κ:Type}{K:PySem.W.Frag}{H:Hp}{μ:List Addr}(k:κ){d:M3.D}{v:V}(dv:Den K H μ d v):∀{kvs:List (κ×M3.D)} {ws:List (κ×V)},iC K H μ kvs ws->iC K H μ (kvs++[(k,d)]) (ws++[(k,v)])
 |_,_,.nil=>.cons ⟨rfl,dv⟩ .nil
 |_,_,.cons h t=>.cons h (iC.snoc k dv t)
theorem iC.put{κ:Type} [DecidableEq κ]{K:PySem.W.Frag}{H:Hp}{μ:List Addr}(k:κ){d:M3.D}{v:V}(dv:Den K H μ d v){kvs:List (κ×M3.D)}{ws:List (κ×V)}(r:iC K H μ kvs ws):iC K H μ (M3.put kvs k d) (putK ws k v):=by
 unfold M3.put putK
 rw[iC.any k r]
 by_cases h:(ws.any fun kv=>decide (kv.1=k))=true
 · rw[if_pos h,if_pos h];exact iC.map k dv r
 · rw[if_neg h,if_neg h];exact iC.snoc k dv r
theorem CJ:PE X (.Dict [] [] pos) (tE T X.K Y M3.pY):=by
 refine PE.of AO fun σ H Q ⟨μ,σ3,G,S,sd,h⟩ q hq=>?_
 have u2:=Up.new (μ:=μ) (.dK []) hq
 refine h _ _ (μ++[q]) u2 (S.new hq rfl ⟨[],aF,.nil⟩) ⟨q,?_,rfl⟩
 rw[<-S.len];simp
theorem set_dict(hu:X.A.units+64 < cLine):uv X (fun o i v H Q=>∃a H',o= .ref a/\A0 H a i v H'/\Q H'):=by
 intro pins s σ H o i v ov iv u Q I ro ri rv h
 obtain⟨a,H',rfl,g,q⟩:=h
 cases (show ov=Value.ref a from ro)
 exact zP (by omega) I g ri rv fun s' I'=>⟨H',I',q⟩
theorem uv.or{t t':Ba}(h:uv X t)(h':uv X t'):uv X (fun o i v H Q=>t o i v H Q\/t' o i v H Q):=by
 intro pins s σ H o i v ov iv u Q I ro ri rv q
 rcases q with q |q
 · exact h pins s σ H o i v ov iv u Q I ro ri rv q
 · exact h' pins s σ H o i v ov iv u Q I ro ri rv q
theorem ax.set{K:PySem.W.Frag}{H:Hp}{μ:List Addr}{d:M3.D}{v:V}(dv:Den K H μ d v):∀{ds:List M3.D} {vs:List V} (j:Nat),ax K H μ ds vs->ax K H μ (ds.set j d) (vs.set j v)
 | [],_,_,h=>by cases (show _=[]from h);rfl
 |_ :: _,_,0,⟨w,r,e,h,t⟩=>by subst e;exact⟨v,r,rfl,dv,t⟩
 |_ :: _,_,j+1,⟨w,r,e,h,t⟩=>by subst e;exact⟨w,r.set j v,rfl,h,ax.set dv j t⟩
theorem EJ(hu:X.A.units+64 < cLine)(ho:PE X o (tE T X.K Y fa))(hi:PE X i (tE T X.K Y fb))(he:PE X e (tE T X.K Y fc))
 (ha:∀v,assign (.Subscript o i pos') X.env v=(do
   let ov <-holding [v] (eval o X.env)
   let iv <-holding [v,ov] (eval i X.env)
   standAt pos'
   holding [v,ov,iv] (setItem ov iv v)
   release [v,ov,iv] []):=by intro _;rfl)
 (hs:swapsWithSole [.Subscript o i pos'] e pos.line X.env=pure false:=by rfl) (hw:swappedStores [.Subscript o i pos'] e X.env=pure none:=by rfl)
 (h1:(assignEach [.Subscript o i pos'] X.env).map (·.2)=[assign (.Subscript o i pos') X.env]:=by rfl):PS X (.Assign [.Subscript o i pos'] e pos) (tS T X.K Y (M3.xX fa fb fc)):=by
 refine PS.of (xJ he (BH ho hi (uv.or set_list (set_dict hu)) ha) hs hw h1) fun D σ H ⟨μ,σ3,G,S,sd,h⟩=>⟨μ,σ3,G,S,sd,bi h fun w G1 wv H1 μ1 u1 S1 d1 h1=>?_⟩
 refine⟨μ1,σ3,G1,S1,sd.up u1,bi h1 fun x G2 xv H2 μ2 u2 S2 d2 h2=>⟨μ2,σ3,G2,S2,sd.up (u1.trans u2),bi h2 fun y G3 yv H3 μ3 u3 S3 d3 h3=>?_⟩⟩
 have h3:=M3.aN h3
 have dw:=Den.up (u2.trans u3) d1
 unfold M3.run M3.yM at h3
 cases x with
 |ref n=>
  dsimp only at h3
  obtain⟨c,ec,rfl⟩:=Den.up u3 d2
  cases q:G3[n]? with
  |none=>rw[q]at h3;exact False.elim h3
  |some ob=>
   have od:=S3.obj n c ob ec q
   rw[q]at h3
   cases ob with
   |lst xs=>
    obtain⟨vs,e1,r⟩:=od
    cases y with
    |int k=>
     dsimp only at h3
     cases qk:M3.ixN xs.length k with
     |none=>rw[qk]at h3;exact False.elim h3
     |some j=>
      rw[qk]at h3
      have up:=Up.set S3 (.lst (vs.set j wv)) ec q rfl
      refine .inl ⟨c,vs,k,j,rfl,d3,e1,by rw[<-r.length];exact qk,?_⟩
      exact h3 _ _ μ3 (((u1.trans u2).trans u3).trans up) (S3.set ec q rfl rfl ⟨_,aF,ax.up up (ax.set dw j r)⟩) (sd.up (((u1.trans u2).trans u3).trans up))
    |_=>exact False.elim h3
   |dK kvs=>
    obtain⟨ws,e1,r⟩:=od
    dsimp only at h3
    cases qk:M3.pQ y with
    |none=>rw[qk]at h3;exact False.elim h3
    |some k=>
     rw[qk]at h3
     dsimp only at h3
     by_cases cl:kvs.length < M3.aA
     · rw[if_pos cl]at h3
       cases sT qk d3
       have up:=Up.set S3 (.dK (putK ws k wv)) ec q rfl
       refine .inr ⟨c,_,rfl,A0.k e1 (by rw[<-Paired.length r,<-bS];exact cl),?_⟩
       have r2:iC X.K (upd H3 c (.dK (putK ws k wv))) μ3 kvs ws:=Paired.imp' (fun _ _ z=>⟨z.1,Den.up up z.2⟩) r
       exact h3 _ _ μ3 (((u1.trans u2).trans u3).trans up) (S3.set ec q rfl rfl ⟨_,aF,iC.put k (Den.up up dw) r2⟩) (sd.up (((u1.trans u2).trans u3).trans up))
     · rw[if_neg cl]at h3;exact False.elim h3
   |_=>exact False.elim h3
 |_=>exact False.elim h3
def Jo(T:Tab)(K:PySem.W.Frag)(μ:List Addr)(H:Hp)(Q:Option Int->Hp->Prop)(d:Option Int)(G':M3.Hh):Prop:=∀H' μ',Up μ μ' H H'->Sim T K μ' H' G'->Q d H'
def tP(T:Tab)(K:PySem.W.Frag)(Y:EX)(f:M3.P3):TO:=fun σ H Q=>∃μ σ3 G,Sim T K μ H G/\StD K H μ σ3 σ/\M3.run (f σ3) G (Jo T K μ H Q) (Y.x μ H)
theorem PO.of{e:Option Expr}{t u:TO}(h:PO X e t)(f:∀σ H Q,u σ H Q->t σ H Q):PO X e u:=fun pins s σ H Q I q=>h pins s σ H Q I (f σ H Q q)
theorem Ao:PO X none (tP T X.K Y M3.vG):=PO.of Dv fun σ H Q ⟨μ,σ3,G,S,sd,h⟩=>h H μ (Up.refl _ _) S
theorem Am(h:PE X e (tE T X.K Y fa)):PO X (some e) (tP T X.K Y (M3.m5 fa)):=by
 refine PO.of (DU h) fun σ H Q ⟨μ,σ3,G,S,sd,h⟩=>⟨μ,σ3,G,S,sd,bi h fun d G1 v H1 μ1 u1 S1 d1 h1=>?_⟩
 cases d with
 |int k=>exact⟨k,d1,h1 H1 μ1 u1 S1⟩
 |_=>exact False.elim h1
theorem ax.cut{K:PySem.W.Frag}{H:Hp}{μ:List Addr}{ds:List M3.D}{vs:List V}(r:ax K H μ ds vs)(lo hi:Option Int):ax K H μ (M3.cutD ds lo hi) (rm vs lo hi):=by
 have dr:∀(n:Nat) {ds:List M3.D} {vs:List V},ax K H μ ds vs->ax K H μ (ds.drop n) (vs.drop n):=by
  intro n
  induction n with
  |zero=>intro ds vs r;simpa using r
  |succ n ih=>
   intro ds vs r
   cases ds with
   |nil=>cases (show vs=[]from r);rfl
   |cons d ds=>obtain⟨w,t,rfl,_,r⟩:=r;simpa using ih r
 have tk:∀(n:Nat) {ds:List M3.D} {vs:List V},ax K H μ ds vs->ax K H μ (ds.take n) (vs.take n):=by
  intro n
  induction n with
  |zero=>intro ds vs r;simp;rfl
  |succ n ih=>
   intro ds vs r
   cases ds with
   |nil=>cases (show vs=[]from r);rfl
   |cons d ds=>obtain⟨w,t,rfl,h,r⟩:=r;exact⟨w,t.take n,rfl,h,ih r⟩
 have es:∀(n d:Nat) (o:Option Int),M3.sIx n d o=HT.sIx n d o:=by
  intro n d o
  cases o <;> rfl
 unfold M3.cutD rm
 rw[es,es,r.length]
 exact tk _ (dr _ r)
theorem yK{lo hi:Option Expr}{fl fh:M3.P3}(he:PE X e (tE T X.K Y fa))(hl:PO X lo (tP T X.K Y fl))(hh:PO X hi (tP T X.K Y fh)):PE X (.Subscript e (.Slice lo hi none p2) pos) (tE T X.K Y (M3.eSl fa fl fh)):=by
 refine PE.of (BJ (L2.SlR.or F7 DW) he hl hh) fun σ H Q ⟨μ,σ3,G,S,sd,h⟩=>⟨μ,σ3,G,S,sd,bi h fun x G1 v H1 μ1 u1 S1 d1 h1=>?_⟩
 refine⟨μ1,σ3,G1,S1,sd.up u1,M3.ao (M3.aN h1) (fun l G2 h2 H2 μ2 u2 S2=>⟨μ2,σ3,G2,S2,sd.up (u1.trans u2),M3.ao (M3.aN h2) (fun k G3 h3 H3 μ3 u3 S3=>?_) fun _ _ z=>Y.up u2 z⟩) fun _ _ z=>z⟩
 have d3:=Den.up (u2.trans u3) d1
 have u:=(u1.trans u2).trans u3
 unfold M3.run M3.oSl at h3
 cases x with
 |tup xs=>
  dsimp only at h3
  obtain⟨c,vs,rfl,sq,r⟩:=d3
  by_cases cw:M3.sIx xs.length 0 l=0/\M3.sIx xs.length xs.length k=xs.length
  · rw[if_pos cw]at h3;exact False.elim h3
  · rw[if_neg cw]at h3
    refine .inl ⟨c,vs,rfl,sq,fun z=>cw ?_,fun q hq=>?_⟩
    · have es:∀(n d:Nat) (o:Option Int),M3.sIx n d o=HT.sIx n d o:=by
       intro n d o
       cases o <;> rfl
      rw[es,es,r.length];exact z
    · have u4:Up μ3 μ3 H3 (upd H3 q (.tup (rm vs l k))):=Up.same (fO.new _ hq)
      exact h3 _ _ μ3 (u.trans u4) (S3.same (fO.new _ hq)) ⟨q,_,rfl,SqT.of aF,ax.up u4 (r.cut l k)⟩
 |ref n=>
  dsimp only at h3
  obtain⟨c,ec,rfl⟩:=d3
  have fin:∀{xs:List M3.D} {vs:List V},SqL X.K H3 c vs->ax X.K H3 μ3 xs vs->cJ T X.K μ H Q (.ref G3.length) (G3++[.lst (M3.cutD xs l k)])->IV X.K (.ref c) l k H3 Q:=by
   intro xs vs sq r hq
   refine⟨c,vs,rfl,sq,fun q hn=>?_⟩
   have u4:=Up.new (μ:=μ3) (.lst (rm vs l k)) hn
   refine hq _ _ (μ3++[q]) (u.trans u4) (S3.new hn rfl ⟨_,aF,ax.up u4 (r.cut l k)⟩) ⟨q,?_,rfl⟩
   rw[<-S3.len];simp
  cases qn:G3[n]? with
  |none=>rw[qn]at h3;exact False.elim h3
  |some ob=>
   have od:=S3.obj n c ob ec qn
   rw[qn]at h3
   cases ob with
   |lst xs=>obtain⟨vs,e1,r⟩:=od;exact .inr (fin (SqL.of e1) r h3)
   |frz xs=>obtain⟨vs,e1,r⟩:=od;exact .inr (fin e1.sq r h3)
   |_=>exact False.elim h3
 |_=>exact False.elim h3
theorem yu{c:Expr}{body:List Stmt}{f:M3.S3}(hp:PassesOwn (model X.prog X.w) X.A X.env X.xe)(hc:PT X c (tT T X.K Y ft))(hb:PSs X body (tS T X.K Y f)):PS X (.While c body [] pos) (tS T X.K Y (M3.tN ft f)):=by
 refine PS.of (Bt hp hc hb) fun D σ H ⟨μ,σ3,G,S,sd,h⟩=>?_
 have h:M3.run (M3.iJ ft f M3.tR σ3) G (eB T X.K μ H D) (Y.x μ H):=h
 generalize M3.tR=n at h
 refine⟨fun m σ' H'=>∃μ' σ3' G',Up μ μ' H H'/\Sim T X.K μ' H' G'/\StD X.K H' μ' σ3' σ'/\M3.run (M3.iJ ft f m σ3') G' (eB T X.K μ H D) (Y.x μ' H'),⟨n,μ,σ3,G,Up.refl _ _,S,sd,h⟩,?_⟩
 rintro m σ' H' ⟨μ',σ3',G',u',S',sd',q⟩
 cases m with
 |zero=>exact False.elim q
 |succ m=>
  refine⟨μ',σ3',G',S',sd',rL q fun b G1 H1 μ1 u1 S1 h1=>?_⟩
  cases b with
  |false=>exact h1 σ' H1 μ1 (u'.trans u1) S1 (sd'.up u1)
  |true=>
   refine⟨fun σ2 H2=>∃μ2 σ4 G2,Up μ μ2 H H2/\Sim T X.K μ2 H2 G2/\StD X.K H2 μ2 σ4 σ2/\M3.run (M3.iJ ft f m σ4) G2 (eB T X.K μ H D) (Y.x μ2 H2),fun σ2 H2 hN=>⟨m,Nat.lt_succ_self _,hN⟩,?_⟩
   refine⟨μ1,σ3',G1,S1,sd'.up u1,cm (M3.aN h1) fun p G7 q7 σ7 H7 μ7 u7 S7 sd7=>?_⟩
   obtain⟨fl,σ8⟩:=p
   have up:=(u'.trans u1).trans u7
   cases fl with
   |next=>exact⟨μ7,σ8,G7,up,S7,sd7,Y.upE u7 q7⟩
   |cont=>exact⟨μ7,σ8,G7,up,S7,sd7,Y.upE u7 q7⟩
   |brk=>exact q7 σ7 H7 μ7 up S7 sd7
   |ret d=>exact q7 σ7 H7 μ7 up S7 sd7
end
open PySem PySem.Spec PyProof.Rows L2
def Tr(h:Heap)(e:Addr)(c:Value)(t:Option (Addr×Value)):Prop:=
 ∃oe vs,h.get? e=some oe/\oe.cls=c/\oe.data= .fields vs/\match t with
  |none=>vs[1]? =some .none
  |some (g,z)=>vs[1]? =some (.ref g)/\g≠e/\∃og ts,h.get? g=some og/\og.data= .fields ts/\ts[3]? =some z
structure sS (fs:List Addr) (e:Addr) (t:Option (Addr×Value)) (g:Addr) (h h':Heap):Prop where
 same:∀b o,h.get? b=some o->b∉fs->b≠e->(∀q,t=some q->b≠q.1)->h'.get? b=some o
 plain:∀b o,h.get? b=some o->(∀ws,o.data≠.fields ws)->∃sl,h'.get? b=some {o with slots:=sl}
 head:(∃z,t=some (g,z))\/h.objs.size<=g
 size:h.objs.size<=h'.objs.size
section
variable{M:Model}{A:Around}{E:Value->Shared->Prop}{s:Shared}{base:Heap}{env:Env}{outer:List Env}{L e:Addr}{c:Value}
theorem rO{oe:Obj}{vs:Array Value}{hd0:Value}{hn:Bool}{Q:Unit->Shared->Prop}(hA:A.frames=some (env :: outer))(fr:s.heap.FunFrames base (env :: outer))(hL:env.frame=some L)
 (ge:s.heap.get? e=some oe) (de:oe.data= .fields vs) (z1:1 < vs.size)
 (k:∀h' g,s.heap.objs.size<=g->Tr h' e oe.cls (some (g,rawInt L))->(∀b o,s.heap.get? b=some o->b∉frs (env :: outer)->b≠e->h'.get? b=some o)->(∀b o,s.heap.get? b=some o->(∀ws,o.data≠.fields ws)->∃sl,h'.get? b=some {o with slots:=sl})->
   s.heap.objs.size<=h'.objs.size->Q () {s with heap:=h'}):
 wpAny M A (do let a <-frameOf env;let pl <-entryPlaceOf L hn;let b <-EntryCells.newEntry hd0 a .none (rawInt L) .none pl;setField (.ref e) 1 b) Q E s:=by
 have ne:e∉frs (env :: outer):=fun z=>by
  obtain⟨_,o,q,nf⟩:=fr.mem z
  rw[ge]at q
  cases q
  exact nf vs de
 refine wpAny_bind (wpAny_frameOf_fun hA fr hL fun h1 so=>?_)
 refine wpAny_bind (wpAny_entryPlaceOf fun pl ip=>?_)
 unfold EntryCells.newEntry newFields
 refine wpAny_bind (wpAny_newObj_type ?_ (ip.sizeOk5 _ _ _ _ _))
 have g1:h1.get? e=some oe:=(so.2.1 e ne).trans ge
 generalize hob:({cls:= .type "traceback",dict:=none,data:= .fields ([hd0,.ref L,.none,rawInt L,.none]++(if pl.isEmpty then List.replicate 6 Value.none else pl)).toArray}:Obj)=ob
 have dob:∃ts:Array Value,ob.data= .fields ts/\ts[3]? =some (rawInt L):=by
  rw[<-hob]
  exact⟨_,rfl,by simp⟩
 have fob:ob.isFreed=false:=by rw[<-hob];rfl
 have g2:(h1.push ob).get? e=some oe:=Heap.get?_push_of_some _ g1
 have net:h1.objs.size≠e:=Nat.ne_of_gt (Heap.lt_size g1)
 refine wpAny_setField g2 de z1 (k _ h1.objs.size (by rw[so.1];exact qO_ _) ?_ (fun b o q n1 n2=>?_) (fun b o q nf=>?_) ?_)
 · have d3:=Obj.data_mapFields de (·.setIfInBounds 1 (Value.ref h1.objs.size))
   obtain⟨ts,q1,q2⟩:=dob
   refine⟨_,_,Heap.get?_update_self _ g2 (Obj.isFreed_of_fields d3),Obj.cls_mapFields _ _,d3,by simp [z1],net,ob,ts,?_,q1,q2⟩
   rw[Heap.get?_update_other _ _ (Ne.symm net)]
   exact Heap.get?_push_size _ fob
 · rw[Heap.get?_update_other _ _ (Ne.symm n2)]
   exact Heap.get?_push_of_some _ ((so.2.1 b n1).trans q)
 · have nb:b≠e:=by
    rintro rfl
    rw[ge]at q
    cases q
    exact nf vs de
   obtain⟨sl,q1⟩:=so.2.2 b o q
   refine⟨sl,?_⟩
   rw[Heap.get?_update_other _ _ (Ne.symm nb)]
   exact Heap.get?_push_of_some _ q1
 · rw[Heap.size_after_update,Heap.size_push,so.1]
   exact Nat.le_succ _
theorem vf{t:Option (Addr×Value)}{Q:Unit->Shared->Prop}(hA:A.frames=some (env :: outer))(fr:s.heap.FunFrames base (env :: outer))(hL:env.frame=some L)(tr:Tr s.heap e c t)
 (k:∀h' g,sS (frs (env :: outer)) e t g s.heap h'->Tr h' e c (some (g,rawInt L))->Q () {s with heap:=h'}):wpAny M A (noteFrame (.ref e) env) Q E s:=by
 obtain⟨oe,vs,ge,ce,de,ht⟩:=tr
 subst ce
 unfold noteFrame
 simp only[hL]
 cases t with
 |none=>
  refine wpAny_bind (wpAny_field ge de ht ?_)
  rw[if_neg (by decide)]
  refine rO hA fr hL ge de (Array.getElem?_eq_some_iff.mp ht).1 fun h' g hg tr' sm pl sz=>k h' g ⟨fun b o q n1 n2 _=>sm b o q n1 n2,pl,.inr hg,sz⟩ tr'
 |some q=>
  obtain⟨g0,z⟩:=q
  obtain⟨h1,hne,og,ts,gg,dg,h3⟩:=ht
  refine wpAny_bind (wpAny_field ge de h1 ?_)
  rw[if_pos (by rfl)]
  refine wpAny_bind (wpAny_field gg dg h3 ?_)
  by_cases hz:(z==rawInt L)=true
  · rw[if_pos hz]
    have hz':z=rawInt L:=by simpa using hz
    subst hz'
    refine wpAny_pure (k s.heap g0 ⟨fun b o q _ _ _=>q,fun b o q _=>⟨o.slots,q⟩,.inl ⟨_,rfl⟩,qO_ _⟩ ⟨oe,vs,ge,rfl,de,h1,hne,og,ts,gg,dg,h3⟩)
  · rw[if_neg hz]
    refine wpAny_bind (wpAny_setField gg dg (Array.getElem?_eq_some_iff.mp h3).1 ?_)
    have oth:∀b,b≠g0->(s.heap.update g0 (Obj.mapFields (·.setIfInBounds 3 Value.none))).get? b=s.heap.get? b:=fun b n=>Heap.get?_update_other _ _ (Ne.symm n)
    have nog:∀b o,s.heap.get? b=some o->(∀ws,o.data≠.fields ws)->b≠g0:=fun b o q nf w=>by
     rw[w,gg]at q
     cases q
     exact nf ts dg
    refine rO (s:={s with heap:=s.heap.update g0 (Obj.mapFields (·.setIfInBounds 3 Value.none))}) hA (fr.of_keeps fun b o q nf=>⟨o,(oth b (nog b o q nf)).trans q,rfl⟩) hL ((oth e (Ne.symm hne)).trans ge) de (Array.getElem?_eq_some_iff.mp h1).1 fun h' g hg tr' sm pl sz=>?_
    have e0:(s.heap.update g0 (Obj.mapFields (·.setIfInBounds 3 Value.none))).objs.size=s.heap.objs.size:=Heap.size_after_update ..
    refine k h' g ⟨fun b o q n1 n2 n3=>sm b o ((oth b (n3 _ rfl)).trans q) n1 n2,fun b o q nf=>pl b o ((oth b (nog b o q nf)).trans q) nf,.inr (by rw[<-e0];exact hg),by rw[<-e0];exact sz⟩ tr'
theorem pN{g:Addr}{z:Value}{f:Option Addr}{Q:Unit->Shared->Prop}(tr:Tr s.heap e c (some (g,z)))
 (k:∀h',(∀b o,b≠g->s.heap.get? b=some o->h'.get? b=some o)->Tr h' e c (some (g,f.elim .none fun f=>rawInt f))->s.heap.objs.size<=h'.objs.size->(∀b o,s.heap.get? b=some o->(∀ws,o.data≠.fields ws)->h'.get? b=some o)->Q () {s with heap:=h'}):wpAny M A (setFlight (.ref e) f) Q E s:=by
 obtain⟨oe,vs,ge,ce,de,h1,hne,og,ts,gg,dg,h3⟩:=tr
 unfold setFlight
 refine wpAny_bind (wpAny_field ge de h1 ?_)
 rw[if_pos (by rfl)]
 have z3:=(Array.getElem?_eq_some_iff.mp h3).1
 refine wpAny_setField gg dg z3 (k _ (fun b o n q=>?_) ?_ ?_ fun b o q nf=>?_)
 · rw[Heap.get?_update_other _ _ (Ne.symm n)];exact q
 · have d3:=Obj.data_mapFields dg (·.setIfInBounds 3 (f.elim Value.none fun f=>rawInt f))
   exact⟨oe,vs,by rw[Heap.get?_update_other _ _ hne];exact ge,ce,de,h1,hne,_,_,Heap.get?_update_self _ gg (Obj.isFreed_of_fields d3),d3,by simp [z3]⟩
 · rw[Heap.size_after_update];exact qO_ _
 · have n:b≠g:=by
    rintro rfl
    rw[gg]at q
    cases q
    exact nf ts dg
   rw[Heap.get?_update_other _ _ (Ne.symm n)];exact q
end
def Fly(k:Heap)(H:Hp)(h:Heap)(e:Addr)(c:Value)(t:Option (Addr×Value)):Prop:=Tr h e c t/\H e=none/\k.get? e=none/\∀q,t=some q->H q.1=none/\k.get? q.1=none
theorem Fly.old{n m:Heap}{H:Hp}{h:Heap}{e:Addr}{c:Value}{t:Option (Addr×Value)}(f:Fly n H h e c t)(hm:∀b o,m.get? b=some o->∃o',n.get? b=some o'):Fly m H h e c t:=by
 have go:∀b,n.get? b=none->m.get? b=none:=fun b z=>by
  cases q:m.get? b with
  |none=>rfl
  |some o=>
   obtain⟨o',w⟩:=hm b o q
   rw[z]at w;cases w
 exact⟨f.1,f.2.1,go _ f.2.2.1,fun q z=>⟨(f.2.2.2 q z).1,go _ (f.2.2.2 q z).2⟩⟩
def CX1(P:Program)(w:World):CXT:=fun outer H s E x s'=>∃e H' c dx t,x= .ref e/\s'.os=s.os/\AllBare s'.gens/\Un (frs outer) [] H H' s.heap s'.heap/\HOk P w H' s'.heap/\Fly s.heap H' s'.heap e c t/\E c dx H'
def XOk(X:Cx)(E:XK):Prop:=∀σ H s e c dx t,L2.Inv X [] σ H s->Fly X.s₀.heap H s.heap e c t->E c dx H->X.xe (.ref e) s
structure Own (X:Cx):Prop where
 stk:X.stack=X.env :: X.outer
 fr:X.env.frame=some X.env.locals
 pn:X.pn=[]
 ex:X.ex=[]
section
variable{X:Cx}{σ:L2.St}{H:Hp}{s:Shared}{e:Addr}{c:Value}{t:Option (Addr×Value)}
theorem Inv.turn(I:L2.Inv X [] σ H s)(O:Own X)(f:Fly X.s₀.heap H s.heap e c t){g:Addr}{h':Heap}(tn:sS (frs X.stack) e t g s.heap h'):L2.Inv X [] σ H {s with heap:=h'}:=by
 obtain⟨tr,he,ne,nt⟩:=f
 have nex:∀b,b∉X.ex:=fun b z=>by rw[O.ex]at z;simp at z
 have fro:∀b,b∈frs X.stack->∃o,s.heap.get? b=some o/\∀vs,o.data≠.fields vs:=fun b hb=>(I.stack.mem hb).2
 have sub:∀b,b∈X.fs->b∈frs X.stack:=fun b hb=>by
  rw[O.stk]
  unfold frs
  rw[List.filterMap_cons,O.fr]
  exact qR_ _ hb
 have older:∀b o,X.s₀.heap.get? b=some o->b≠e/\(∀q,t=some q->b≠q.1)/\b≠X.env.locals:=fun b o q=>
  ⟨fun z=>(by rw[z,ne]at q;cases q),fun p w z=>(by rw[z,(nt p w).2]at q;cases q),Nat.ne_of_lt (qd_ (Heap.lt_size q) I.ok.above)⟩
 have cel:∀{d:Addr} {v:Option Value},s.heap.IsCell d v->h'.IsCell d v:=fun {d v} ⟨o,q,dd⟩=>by
  obtain⟨sl,z⟩:=tn.plain d o q fun ws w=>by rw[dd]at w;cases w
  exact⟨_,z,dd⟩
 refine⟨I.ok,I.os,I.bare,⟨fun b o q n nf nx=>?_,fun b o q n hf nx=>?_,I.base.free,fun b o q nx=>?_,I.base.pX,I.base.oa,I.base.qA⟩,?_,fun x d q=>?_,I.free,I.fS,fun p hp=>?_,fun b u q=>?_,I.len⟩
 · obtain⟨n1,n2,n3⟩:=older b o q
   refine tn.same b o (I.base.keep b o q n nf nx) (fun z=>?_) n1 n2
   rcases qS_.mp (I.jG b z)with w |w
   · exact n3 w
   · exact nf w
 · obtain⟨sl,q1⟩:=I.base.slot b o q n hf nx
   obtain⟨o',q2,nf⟩:=fro b (sub b hf)
   rw[q1]at q2;cases q2
   obtain⟨sl2,z⟩:=tn.plain b _ q1 nf
   exact⟨sl2,z⟩
 · obtain⟨n1,n2,n3⟩:=older b o q
   obtain⟨o1,q1⟩:=I.base.there b o q nx
   by_cases hf:b∈frs X.stack
   · obtain⟨o',q2,nf⟩:=fro b hf
     obtain⟨sl,z⟩:=tn.plain b o' q2 nf
     exact⟨_,z⟩
   · exact⟨o1,tn.same b o1 q1 hf n1 n2⟩
 · obtain⟨m,⟨o,es,ep,q,d,r⟩,hm⟩:=I.loc
   obtain⟨sl,z⟩:=tn.plain _ o q fun ws w=>by rw[d]at w;cases w
   refine⟨m,⟨_,es,ep,z,d,r⟩,fun i x v h1 h2 h3=>?_⟩
   obtain⟨u,ru,lk⟩:=hm i x v h1 h2 h3
   refine⟨u,ru,?_⟩
   rcases lk with lk |⟨k,d',hd,ic⟩
   · exact .inl lk
   · exact .inr ⟨k,d',hd,cel ic⟩
 · obtain⟨v,w⟩:=I.cell x d q
   exact⟨v,cel w⟩
 · rw[O.pn]at hp;simp at hp
 · refine(I.hok b u q).gO (fun d v hc w=>?_) (fun _ z=>z) fun _ _ z=>z
   have hd:∃u',H d=some u':=by
    rcases hc with z |z
    · rw[z];exact⟨u,q⟩
    · exact⟨_,z⟩
   obtain⟨u',hu'⟩:=hd
   refine tn.same d v w (fun z=>?_) (fun z=>?_) fun p y z=>?_
   · rw[I.o7 d z]at hu';cases hu'
   · rw[z,he]at hu';cases hu'
   · rw[z,(nt p y).1]at hu';cases hu'
theorem Fly.turn(I:L2.Inv X [] σ H s)(f:Fly X.s₀.heap H s.heap e c t){g:Addr}{z:Value}{h':Heap}{fs:List Addr}(tn:sS fs e t g s.heap h')(tr:Tr h' e c (some (g,z))):Fly X.s₀.heap H h' e c (some (g,z)):=by
 refine⟨tr,f.2.1,f.2.2.1,fun q w=>?_⟩
 cases w
 rcases tn.head with ⟨y,w⟩ |w
 · exact f.2.2.2 (g,y) w
 · exact⟨I.hok.fresh w,Heap.get?_none_of_le (Nat.le_trans I.sz w)⟩
theorem Ap{M:Model}{A:Around}{EE:Value->Shared->Prop}{Q:Unit->Shared->Prop}(O:Own X)(hA:A.frames=some X.stack)(I:L2.Inv X [] σ H s)(f:Fly X.s₀.heap H s.heap e c t)
 (k:∀h' g,L2.Inv X [] σ H {s with heap:=h'}->Fly X.s₀.heap H h' e c (some (g,rawInt X.env.locals))->Q () {s with heap:=h'}):wpAny M A (noteFrame (.ref e) X.env) Q EE s:=by
 have fr:=I.stack
 rw[O.stk]at fr hA
 refine vf hA fr O.fr f.1 fun h' g tn tr=>k h' g (Inv.turn I O f (by rw[O.stk];exact tn)) (Fly.turn I f tn tr)
theorem xi{M:Model}{A:Around}{EE:Value->Shared->Prop}{Q:Unit->Shared->Prop}{g:Addr}{z:Value}{fo:Option Addr}(O:Own X)(I:L2.Inv X [] σ H s)(f:Fly X.s₀.heap H s.heap e c (some (g,z)))
 (k:∀h',L2.Inv X [] σ H {s with heap:=h'}->Fly X.s₀.heap H h' e c (some (g,fo.elim .none fun f=>rawInt f))->Q () {s with heap:=h'}):wpAny M A (setFlight (.ref e) fo) Q EE s:=
 pN f.1 fun h' sm tr sz pl=>k h' (Inv.turn (g:=g) I O f ⟨fun b o q _ _ n=>sm b o (n _ rfl) q,fun b o q nf=>⟨o.slots,pl b o q nf⟩,.inl ⟨_,rfl⟩,sz⟩) ⟨tr,f.2.1,f.2.2.1,fun q w=>by cases w;exact f.2.2.2 (g,z) rfl⟩
theorem Bh{E:XK}(O:Own X)(h:XOk X E):eV (CX1 X.prog X.w) X E:=by
 rintro pins σ H s x s' I ⟨e,H',c,dx,t,rfl,os,bare,un,hok,f,q⟩
 have I':L2.Inv X pins σ H' s':=I.Bs (ch:=[]) os un hok bare (fun b z=>absurd z (by simp))
 have I0:L2.Inv X [] σ H' s':=I'.o8 fun p hp=>absurd hp (by simp)
 exact h σ H' s' e c dx t I0 (f.old fun b o z=>I.base.there b o z (by rw[O.ex];simp)) q
end
theorem jO{P:Program}{w:World}{K:PySem.W.Frag}{mg:Str->Option Value}{base:Heap}{N:List Str}{qual:Str}{scope:Scope}{fa:Addr}{cd:Value}{A:Around}{outer:List Env}{s:Shared}{H:Hp}{E:XK}:
 XOk (lj (CX1 P w) P w K mg base N qual scope fa cd A outer s H E) E:=by
 intro σ H' s' e c dx t I f q
 have O:Own (lj (CX1 P w) P w K mg base N qual scope fa cd A outer s H E):=⟨rfl,rfl,rfl,rfl⟩
 show wpAny _ _ (leaving _ _) _ _ _
 unfold leaving
 refine wpAny_bind (Ap O I.ok.frames I f fun h1 g I1 f1=>?_)
 refine xi O I1 f1 fun h2 I2 f2=>?_
 exact⟨e,H',c,dx,_,rfl,I2.os,I2.bare,I2.base,I2.hok,f2,q⟩
theorem jM{CX:CXT}{P:Program}{w:World}{K:PySem.W.Frag}{mg:Str->Option Value}{base:Heap}{N:List Str}{qual:Str}{scope:Scope}{fa:Addr}{cd:Value}{A:Around}{outer:List Env}{s:Shared}{H:Hp}{E:XK}:
 Own (lj CX P w K mg base N qual scope fa cd A outer s H E):=⟨rfl,rfl,rfl,rfl⟩
theorem vq{CX:CXT}{P:Program}{w:World}{K:PySem.W.Frag}{mg:Str->Option Value}{base:Heap}{N:List Str}{qual:Str}{scope:Scope}{fa:Addr}{cd:Value}{A:Around}{outer:List Env}{s:Shared}{H:Hp}{E:XK}:
 PassesOwn (model P w) (lj CX P w K mg base N qual scope fa cd A outer s H E).A (lj CX P w K mg base N qual scope fa cd A outer s H E).env (lj CX P w K mg base N qual scope fa cd A outer s H E).xe:=by
 intro x s' h
 have h:wpAny (model P w) (A.deeper (envOfC qual scope s.heap.objs.size fa cd)) (leaving (envOfC qual scope s.heap.objs.size fa cd) x) (fun _ s''=>CX outer H s E x s'') (fun e' s''=>CX outer H s E e' s'') s':=h
 exact PassesOwn.leaving (Q₁:=fun x s''=>CX outer H s E x s'') x s' h
section
variable{T:Tab}
theorem fM{P:Program}{w:World}{K:PySem.W.Frag}{mg:Str->Option Value}{base:Heap}{x qual:Str}{st:Stmt}{fa:Addr}{fd:FuncData}{N ps:List Str}{k n:Nat}{pad:M3.St}{body:M3.S3}(F:Fun K x qual st fa fd)(S:au N ps (aj st))
 (hn:ps.length=n) (hpad:pad=List.replicate (N.length - n) none)
 (h:∀(cdv:Value) (A:Around) (outer:List Env) (s:Shared) (H:Hp) (E:XK),cU k (A.deeper (envOfC qual (aj st) s.heap.objs.size fa cdv))->PSs (lj (CX1 P w) P w K mg base N qual (aj st) fa cdv A outer s H E) (gm st) (tS T K (EX.of T K E) body)):
 aP P w K mg base (CX1 P w) (k+1) fa fd ps (sp3 T K n (M3.fnM n pad body)):=by
 obtain⟨oc,od,kV,doc,pm,an,cdv,ct,osl,rfl,lk,hcd⟩:=F.ex
 refine E5 lk hcd S (fun vs H Q E q=>by rw[hn];exact q.1) fun A outer s H vs Q E hr q=>⟨_,h cdv A outer s H E hr,?_⟩
 obtain⟨hl,μ,ds,G,Sm,d,q⟩:=q
 unfold M3.fnM at q
 obtain⟨c,q⟩:=j5 q
 have e1:L2.start N vs=vs.map some++List.replicate (N.length - n) none:=by unfold L2.start;rw[hl]
 rw[e1]
 refine⟨μ,_,G,Sm,by rw[hpad];exact StD.start _ d,cm (M3.aN q) fun r G1 q1 σ' H' μ' u S' sd'=>?_⟩
 obtain⟨fl,σ2⟩:=r
 cases fl with
 |next=>exact q1 .non H' μ' u S' rfl
 |brk=>exact False.elim q1
 |cont=>exact False.elim q1
 |ret d=>exact fun v dv=>q1 v H' μ' u S' dv
end
theorem bJ.at{P:Program}{w:World}{H:Hp}{h:Heap}{a:Addr}{o:HO}(x:bJ P w H h a o):∃u,h.get? a=some u:=by
 cases o with
 |lst xs=>obtain⟨_,_,_,_,z⟩:=x;exact⟨_,z⟩
 |tup xs=>
  obtain⟨_,_,_,z⟩:=x
  obtain⟨u,z,_⟩:=z
  exact⟨u,z⟩
 |dK kvs=>obtain⟨_,_,_,_,_,_,_,z,_⟩:=x;exact⟨_,z⟩
 |dT kvs=>obtain⟨_,_,_,_,_,_,_,z,_⟩:=x;exact⟨_,z⟩
 |set S n=>obtain⟨_,_,_,_,z,_⟩:=x;exact⟨_,z⟩
 |ins C dx fs=>obtain⟨_,_,_,z,_⟩:=x;exact⟨_,z⟩
 |own y=>exact x
 |xd fs=>obtain⟨_,⟨_,_,_,z,_⟩,_⟩:=x;exact⟨_,z⟩
 |rng lo hi=>obtain⟨_,_,_,z⟩:=x;exact⟨_,z⟩
 |frz ob u=>exact⟨_,x.1⟩
 |tbl ps=>exact⟨_,x⟩
 |met f y=>exact⟨_,x⟩
 |ext φ=>exact x.2.1
def veM:List Value:=[.type "ValueError",.type "Exception",.type "BaseException",.type "object"]
structure XCl (K:PySem.W.Frag) (mg:Str->Option Value) (x:Str) (C:Addr):Prop where
 bd:mg x=some (.ref C)
 ex:PySem.W.excIn K C veM "ValueError.__new__"=true
theorem XCl.obj{K:PySem.W.Frag}{mg:Str->Option Value}{x:Str}{C:Addr}(z:XCl K mg x C){h₁:Heap}(X₁:K.In h₁):
 ∃bm N nm q bs hdct sn sub ab col dd k0 k1 k2 k3 k5 mN,∀h:Heap,K.In h->h.get? C=some (excClassObj nm q C N bs bm hdct sn sub ab col dd k0 k1 k2 k3 k5 "ValueError.__new__")/\h.Ns N mN/\mN "__init__"=none/\OwnTail h veM bm:=by
 have q:=z.ex
 unfold PySem.W.excIn at q
 split at q
 case h_2=>cases q
 rename_i dd cd sl at_
 split at q
 case h_2=>cases q
 rename_i C' bm k0 k1 k2 k3 n k5 em es
 simp only[Bool.and_eq_true,beq_iff_eq,Bool.not_eq_true']at q
 obtain⟨⟨⟨⟨⟨e1,e2⟩,e3⟩,e4⟩,e5⟩,e6⟩:=q
 subst e1 e2
 obtain⟨nm,bs,mro,ns,qn,hd,sn,sub,ab,col,del⟩:=cd
 have em:mro= .ref C' :: bm:=em
 have e3:del=false:=e3
 subst em e3
 have e7:sl=#[k0,k1,k2,k3,some (.builtin "ValueError.__new__"),k5]:=by
  cases sl with
  |mk l=>exact congrArg Array.mk es
 subst e7
 have n1:h₁.Ns ns (h₁.nsMap ns):= .of_isNs (PySem.W.isNs_of_in X₁ e5)
 refine⟨bm,ns,nm,qn,bs,hd,sn,sub,ab,col,dd,k0,k1,k2,k3,k5,h₁.nsMap ns,fun h Xh=>⟨Xh _ _ at_,?_,PySem.W.nsMap_none_of_in X₁ e5 e6,PySem.W.tail_of_in Xh e4⟩⟩
 refine n1.at fun o eo=>?_
 have e5:=e5
 unfold PySem.W.nsOkIn at e5
 split at e5
 case h_2=>cases e5
 rename_i lk
 have:=X₁ _ _ lk
 rw[eo]at this
 cases this
 exact Xh _ _ lk
section
variable{X:Cx}{T:Tab}{E:XK}
theorem BN{σ:L2.St}{H:Hp}{s:Shared}{pins:List (Addr×Obj)}{h':Heap}{e C:Addr}{us:List Value}{dx:Option Addr}(O:Own X)(ok:XOk X E)(I:L2.Inv X pins σ H s)(m:Heap.MadeExcOf s.heap h' e (.ref C) us)(q:E (.ref C) dx H):X.xe (.ref e) {s with heap:=h'}:=by
 have I1:L2.Inv X pins σ H {s with heap:=h'}:=I.kept (t':=s.toks) m.keeps
 have I0:L2.Inv X [] σ H {s with heap:=h'}:=I1.o8 fun p hp=>absurd hp (by simp)
 obtain⟨t,g,_,_⟩:=m.there
 refine ok σ H _ e (.ref C) dx none I0 ⟨⟨_,_,g,rfl,rfl,rfl⟩,?_,?_,fun q z=>nomatch z⟩ q
 · cases z:H e with
   |none=>rfl
   |some u=>
    obtain⟨u',w⟩:=bJ.at (I.hok e u z)
    rw[m.new]at w;cases w
 · cases z:X.s₀.heap.get? e with
   |none=>rfl
   |some o=>
    obtain⟨o',w⟩:=I.base.there e o z (by rw[O.ex];simp)
    rw[m.new]at w;cases w
variable{x:Str}{np cpos pos:Pos}{e0:Expr}{es:List Expr}{fa:M3.A3}{c:Nat}{C:Addr}
theorem y_raise(O:Own X)(ok:XOk X E)(hh:X.A.handled=none)(k:XCl X.K X.mg x C)(hc:T.cls c=some C)(ha:PA X (e0 :: es) (tA T X.K (EX.of T X.K E) fa))(hg:Gl X x:=by rfl)(hdb:(x==("__debug__":Str))=false:=by decide)
 (he:starEach (e0 :: es) X.env=(false,eval e0 X.env) :: starEach es X.env:=by rfl) (hpl:(backTo cpos (starEach es X.env)).any (·.1)=false:=by rfl):PS X (.Raise (some (.Call (.Name x np) (e0 :: es) [] cpos)) none pos) (tS T X.K (EX.of T X.K E) (M3.mj c fa)):=by
 intro pins s σ H D I ⟨μ,σ3,G,S,sd,h⟩
 obtain⟨bm,N,nm,q,bs,hdct,sn,sub,ab,col,dd,k0,k1,k2,k3,k5,mN,hk⟩:=k.obj I.kIn
 obtain⟨hC,hN,hni,tl⟩:=hk s.heap I.kIn
 have hbase:bm.contains (.type "BaseException")=true:=tl.hasType (by decide)
 refine wpAny_Raise_call_subT (C:=C) (nm:=nm) (q:=q) (N:=N) (bs:=bs) (bm:=bm) (hdct:=hdct) (sn:=sn) (sub:=sub) (ab:=ab) (col:=col) (dd:=dd) (k0:=k0) (k1:=k1) (k2:=k2) (k3:=k3) (k5:=k5) (bmB:=veM) PySem.F.excBase_ValueError (mN:=mN) hbase hh
  (by rw[he];show (false||(backTo cpos (starEach es X.env)).any (·.1))=false;rw[hpl];rfl) hni (kY I hg k.bd ⟨rfl,?_⟩ hdb)
 have key:=ha cpos pins s σ H (fun vs H1=>vs.length<=sizeLine/\∃dx,E (.ref C) dx H1) I ⟨μ,σ3,G,S,sd,oO h fun ds G1 vs H1 μ1 u1 S1 d1 h1=>?_⟩
 · rw[he]at key ⊢
   refine Calls.evalArgs_plain (thn key fun us s2 ⟨vs,H1,I1,r1,hl,dx,q1⟩=>?_)
   obtain⟨hC',hN',hni',tl'⟩:=hk s2.heap I1.kIn
   exact⟨rfl,by rw[<-r1.length];exact hl,hC',hN',tl',fun h' e m=>BN O ok I1 m q1⟩
 · obtain⟨hl,h1⟩:=j5 h1
   exact⟨by rw[<-d1.length,<-bS];exact hl,none,h1 C none H1 μ1 hc (Up.refl _ _) S1⟩
end
theorem jT{α β:Type} [BEq α] [LawfulBEq α]:∀{l:List (α×β)} {a:α} {b:β},l.lookup a=some b->(a,b)∈l
 | [],_,_,h=>by cases h
 |(c,d) :: r,a,b,h=>by
  rw[List.lookup_cons]at h
  cases q:a==c with
  |true=>
   rw[q]at h
   cases h
   rw[eq_of_beq q]
   exact qI_
  |false=>
   rw[q]at h
   exact qR_ _ (jT h)
theorem Blk.of{X:Cx}{x:Str}{caps:List (Str×Nat)}{scope:Scope}{cl:List (Str×Addr)}(kind:scope.kind= .function)(h1:(scope.names.all fun y=>decide (y.2≠.cell))=true)
 (h2:(scope.names.all fun y=>decide (y.2= .local->scope.names.lookup y.1=some .local))=true) (own:scope.names.lookup x=some .local) (Dg:closureFor scope X.env=pure cl) (nd:(x :: caps.map (·.1)).Nodup)
 (sub:(cl.map fun p=>X.env.cells.lookup p.1)=cl.map fun p=>some p.2) (has:((relabel scope X.env).names.all fun p=>decide ((p.2= .cell\/p.2= .free)->(cl.lookup p.1).isSome=true))=true) (nox:cl.lookup x=none)
 (cap1:(caps.map fun p=>X.N[p.2]?)=caps.map fun p=>some p.1) (cap2:(caps.all fun p=>decide ((X.env.kindOf p.1=some .cell\/X.env.kindOf p.1=some .free)/\((relabel scope X.env).names.lookup p.1=some .cell\/(relabel scope X.env).names.lookup p.1=some .free)))=true):Blk X x caps scope cl:=by
 refine⟨kind,fun y hy=>of_decide_eq_true (List.all_eq_true.mp h1 y hy),fun y hy=>of_decide_eq_true (List.all_eq_true.mp h2 y hy),own,Dg,nd,fun y c e=>?_,fun y hy=>?_,nox,fun j y i e=>?_⟩
 · have m:=jT e
   obtain⟨j,hj,e1⟩:=List.getElem_of_mem m
   have e2:=congrArg (·[j]?) sub
   simp only[qQ_,qA_ hj,e1,Option.map_some]at e2
   exact Option.some.inj e2
 · have go:∀k,(relabel scope X.env).names.lookup y=some k->(k= .cell\/k= .free)->∃c,cl.lookup y=some c:=fun k hk hz=>
    Option.isSome_iff_exists.mp (of_decide_eq_true (List.all_eq_true.mp has _ (jT hk)) hz)
   rcases hy with z |z
   · exact go _ z (.inl rfl)
   · exact go _ z (.inr rfl)
 · have hm:(y,i)∈caps:=qD_ e
   obtain⟨q1,q2⟩:=of_decide_eq_true (List.all_eq_true.mp cap2 _ hm)
   refine⟨?_,q1,q2⟩
   have e2:=congrArg (·[j]?) cap1
   simp only[qQ_,e,Option.map_some]at e2
   exact Option.some.inj e2
theorem y8{Z:Nat->M3.Hh->Prop}{n:Nat}{y:M3.D}{G:M3.Hh}{P:M3.D->M3.Hh->Prop}(h:M3.run (M3.iQ (.ref n) y) G P Z):∃m xs ys,y= .ref m/\G[n]? =some (.lst xs)/\G[m]? =some (.lst ys)/\xs.length+ys.length<=M3.aA/\P .non (G.set n (.lst (xs++ys))):=by
 unfold M3.run M3.iQ at h
 cases y with
 |ref m=>
  dsimp only at h
  cases q:G[n]? with
  |none=>rw[q]at h;exact False.elim h
  |some o=>
   rw[q]at h
   cases q2:G[m]? with
   |none=>rw[q2]at h;cases o <;> exact False.elim h
   |some o2=>
    rw[q2]at h
    cases o with
    |lst xs=>
     cases o2 with
     |lst ys=>
      dsimp only at h
      by_cases c:xs.length+ys.length<=M3.aA
      · rw[if_pos c]at h;exact⟨m,xs,ys,rfl,rfl,q2,c,h⟩
      · rw[if_neg c]at h;exact False.elim h
     |_=>exact False.elim h
    |_=>exact False.elim h
 |_=>exact False.elim h
theorem CA{Z:Nat->M3.Hh->Prop}{n:Nat}{y:M3.D}{G:M3.Hh}{P:M3.D->M3.Hh->Prop}(h:M3.run (M3.mf (.ref n) y) G P Z):∃i xs k z,y= .int i/\G[n]? =some (.lst xs)/\M3.ixN xs.length i=some k/\xs[k]? =some z/\-(2 ^ 62)<=i/\i < 2 ^ 62/\P z (G.set n (.lst (xs.eraseIdx k))):=by
 unfold M3.run M3.mf at h
 cases y with
 |int i=>
  dsimp only at h
  cases q:G[n]? with
  |none=>rw[q]at h;exact False.elim h
  |some o=>
   rw[q]at h
   cases o with
   |lst xs=>
    dsimp only at h
    cases qk:M3.ixN xs.length i with
    |none=>rw[qk]at h;exact False.elim h
    |some k=>
     rw[qk]at h
     dsimp only at h
     cases qz:xs[k]? with
     |none=>rw[qz]at h;exact False.elim h
     |some z=>
      rw[qz]at h
      dsimp only at h
      by_cases c:-(2 ^ 62)<=i/\i < 2 ^ 62
      · rw[if_pos c]at h;exact⟨i,xs,k,z,rfl,rfl,qk,qz,c.1,c.2,h⟩
      · rw[if_neg c]at h;exact False.elim h
   |_=>exact False.elim h
 |_=>exact False.elim h
theorem ax.erase{K:PySem.W.Frag}{μ:List Addr}{H:Hp}:∀{ds:List M3.D} {vs:List V} (k:Nat),ax K H μ ds vs->ax K H μ (ds.eraseIdx k) (vs.eraseIdx k)
 | [],vs,k,h=>by cases (show vs=[]from h);simp [ax]
 |_ :: ds,_,0,⟨v,r,e,h,t⟩=>by subst e;exact t
 |_ :: ds,_,k+1,⟨v,r,e,h,t⟩=>by subst e;exact⟨v,r.eraseIdx k,rfl,h,ax.erase k t⟩
section
variable{X:Cx}{T:Tab}{Y:EX}{o e:Expr}{fa fb:M3.E3}{pos apos:Pos}
theorem mD(ho:PE X o (tE T X.K Y fa))(he:PE X e (tE T X.K Y fb))
 (hbase:attributeBase o "extend" X.env (eval o X.env)=eval o X.env:=by rfl)
 (hfew:((backTo pos (starEach (e :: []) X.env)).all (fun x=>!x.1)&&(backToKw pos (keywordEach [] X.env)).all (fun x=>x.1.isSome)&&decide ((e :: ([]:List Expr)).length+([]:List Keyword).length+(if ([]:List Keyword).isEmpty then 0 else 1) < 30))=true:=by rfl)
 (hline:(apos.endLine==pos.line)=true:=by rfl) (hs:starEach (e :: []) X.env=(false,eval e X.env) :: starEach [] X.env:=by rfl) (hplain:(backTo pos (starEach [] X.env)).any (·.1)=false:=by rfl):
 PE X (.Call (.Attribute o "extend" apos) [e] [] pos) (tE T X.K Y (M3.uO fa fb)):=by
 refine PE.of (Cm PySem.F.plainAttrs_list PySem.F.slot_list_extend PySem.F.type_list_extend zD ho (dJ he jm hs) hbase hfew hline hs hplain) fun σ H Q ⟨μ,σ3,G,S,sd,h⟩=>⟨μ,σ3,G,S,sd,bi h fun d G1 v H1 μ1 u1 S1 d1 h1=>?_⟩
 obtain⟨n,xs,rfl,q,h1⟩:=xI (M3.aN h1)
 obtain⟨a,ea,rfl⟩:=id d1
 obtain⟨vs,e1,r1⟩:=S1.obj n a _ ea q
 refine⟨.inl ⟨rfl,vs,SqL.of e1⟩,μ1,σ3,G1,S1,sd.up u1,bi h1 fun y G2 w H2 μ2 u2 S2 d2 h2=>?_⟩
 obtain⟨m,xs2,ys2,rfl,q2,q3,hl,h3⟩:=y8 h2
 have ea2:=u2.at ea
 obtain⟨b,eb,rfl⟩:=id d2
 obtain⟨vs2,e2,r2⟩:=S2.obj n a _ ea2 q2
 obtain⟨ws2,e3,r3⟩:=S2.obj m b _ eb q3
 have up:=Up.set S2 (.lst (vs2++ws2)) ea2 q2 rfl
 refine⟨a,b,vs2,ws2,rfl,rfl,e2,e3,by rw[<-r2.length,<-r3.length,<-bS];exact hl,?_⟩
 exact h3 _ _ μ2 ((u1.trans u2).trans up) (S2.set ea2 q2 rfl rfl ⟨_,aF,ax.up up (r2.append r3)⟩) rfl
theorem ye(ho:PE X o (tE T X.K Y fa))(he:PE X e (tE T X.K Y fb))
 (hbase:attributeBase o "pop" X.env (eval o X.env)=eval o X.env:=by rfl)
 (hfew:((backTo pos (starEach (e :: []) X.env)).all (fun x=>!x.1)&&(backToKw pos (keywordEach [] X.env)).all (fun x=>x.1.isSome)&&decide ((e :: ([]:List Expr)).length+([]:List Keyword).length+(if ([]:List Keyword).isEmpty then 0 else 1) < 30))=true:=by rfl)
 (hline:(apos.endLine==pos.line)=true:=by rfl) (hs:starEach (e :: []) X.env=(false,eval e X.env) :: starEach [] X.env:=by rfl) (hplain:(backTo pos (starEach [] X.env)).any (·.1)=false:=by rfl):
 PE X (.Call (.Attribute o "pop" apos) [e] [] pos) (tE T X.K Y (M3.tM fa fb)):=by
 refine PE.of (Cm PySem.F.plainAttrs_list PySem.F.slot_list_pop PySem.F.type_list_pop Be ho (dJ he jm hs) hbase hfew hline hs hplain) fun σ H Q ⟨μ,σ3,G,S,sd,h⟩=>⟨μ,σ3,G,S,sd,bi h fun d G1 v H1 μ1 u1 S1 d1 h1=>?_⟩
 obtain⟨n,xs,rfl,q,h1⟩:=xI (M3.aN h1)
 obtain⟨a,ea,rfl⟩:=id d1
 obtain⟨vs,e1,r1⟩:=S1.obj n a _ ea q
 refine⟨.inl ⟨rfl,vs,SqL.of e1⟩,μ1,σ3,G1,S1,sd.up u1,bi h1 fun y G2 w H2 μ2 u2 S2 d2 h2=>?_⟩
 obtain⟨i,xs2,k,z,rfl,q2,qk,qz,hi,hj,h3⟩:=CA h2
 have ea2:=u2.at ea
 obtain⟨vs2,e2,r2⟩:=S2.obj n a _ ea2 q2
 obtain⟨zv,ez,dz⟩:=r2.get qz
 rw[r2.length]at qk
 have sq:=sI (show L2.ixN vs2.length i=some k from qk)
 have up:=Up.set S2 (.lst (vs2.eraseIdx k)) ea2 q2 rfl
 have ei:w=V.int i:=d2
 subst ei
 refine⟨a,vs2,i,k,zv,rfl,rfl,e2,by omega,by omega,sq.1,ez,?_⟩
 exact h3 _ _ μ2 ((u1.trans u2).trans up) (S2.set ea2 q2 rfl rfl ⟨_,aF,ax.up up (ax.erase k r2)⟩) (Den.up up dz)
end
theorem qL:∀{kvs:List (L2.Key×V)} {vs:List (L2.Key×Value)},KV kvs vs->Vals (kvs.map (·.2)) (vs.map (·.2))
 |_,_,.nil=>.nil
 |_,_,.cons r t=>.cons r.2 (qL t)
section
variable{X:Cx}{T:Tab}{Y:EX}{o:Expr}{fa:M3.E3}{p pos apos ipos:Pos}
theorem v7{to:TE}(hc:X.A.handled=none)(ho:PE X o to)(hm:X.mg "list"=none)(hg:Gl X "list":=by rfl)
 (hbase:attributeBase o "values" X.env (eval o X.env)=eval o X.env:=by rfl) (hline:(apos.endLine==ipos.line)=true:=by rfl)
 (he:starEach [.Call (.Attribute o "values" apos) [] [] ipos] X.env=(false,eval (.Call (.Attribute o "values" apos) [] [] ipos) X.env) :: starEach [] X.env:=by rfl) (hpl:(backTo pos (starEach [] X.env)).any (·.1)=false:=by rfl):
 PE X (.Call (.Name "list" p) [.Call (.Attribute o "values" apos) [] [] ipos] [] pos) (fun σ H Q=>to σ H fun x H1=>∃a kvs,x= .ref a/\H1 a=some (.dK kvs)/\∀l,H1 l=none->Q (.ref l) (upd H1 l (.lst (kvs.map (·.2))))):=by
 intro pins s σ H Q I h
 refine wpAny_Call_Name_kw (nE I hg hm boot_list ?_ (by decide) (by decide))
 refine PyProof.Rows.callWith_type1 (Q:=EP X pins σ Q) ?_ he hpl
 rw[he]
 show wpAny _ _ (spliced ((false,eval (.Call (.Attribute o "values" apos) [] [] ipos) X.env) :: backTo pos (starEach [] X.env))) _ _ s
 refine Calls.spliced_cons ?_
 refine wpAny_Call_method0_late hbase hline (thn (ho pins s σ H _ I h) fun v s1 ⟨x,H1,I1,r1,a,kvs,e,ha,q⟩=>?_)
 subst e
 cases r1
 obtain⟨h1,h2⟩:=xb I1 (x:= .ref a) rfl (T:="dict") (.inr (.inr (.inl ⟨rfl,.inl ⟨kvs,ha⟩⟩)))
 refine⟨"dict","dict.values",PySem.F.plainAttrs_dict,PySem.F.slot_dict_values,PySem.F.type_dict_values,h1,h2,Calls.callWith_builtin rfl (PySem.evalArgs_none ?_)⟩
 obtain⟨hz,hS,vs,rv,dd⟩:=Bd I1.hok ha
 refine call_meetsIn PySem.F.slot_dict_values dd.typeIs PySem.F.entry_dict_values (PySem.F.args_dict_values_1 _) (meets_dict_values (bN X.prog X.w) a hS) ⟨⟨vs,dd⟩,?_⟩
 show wpAny _ _ (spliced []) _ _ _
 refine Calls.spliced_nil ?_
 have I2:L2.Inv X pins σ H1 {s1 with heap:=s1.heap.push {cls:= .type "dict_values",data:= .fields #[.ref a]}}:=I1.kept (t':=s1.toks) fun b u e=>Heap.get?_push_of_some _ e
 obtain⟨ep,hat⟩:=dd.dictAt
 refine PySem.W.kdl_call (PySem.W.kdl_values (knd:=bN X.prog X.w) (d:=a) (r:=s1.heap.objs.size) (kvs:=vs) (ep:=ep)) hc ⟨⟨_,Heap.get?_push_size _ rfl,rfl,rfl⟩,hat.push _⟩ (by rw[<-rv.length];exact hz) fun h' tk acc c' hk hS' items=>?_
 have ev:acc.toList=vs.map (·.2):=PySem.W.kdl_vals_eq acc.toList (by rw[Array.length_toList];exact items.1) fun j v e=>items.2 j v (by rw[<-Array.getElem?_toList];exact e)
 have rr:Vals (kvs.map (·.2)) acc.toList:=by rw[ev];exact qL rv
 refine⟨.ref (s1.heap.push {cls:= .type "dict_values",data:= .fields #[.ref a]}).objs.size,_,I2.laid (t':=tk) hk (qO_ _) (show bJ X.prog X.w _ h' _ (.lst (kvs.map (·.2)))from⟨by rw[qM_];exact hz,acc.toList,c',rr,by rw[Array.toArray_toList];exact hS'⟩),rfl,q _ (I2.hok.fresh (qO_ _))⟩
theorem ax.EN{K:PySem.W.Frag}{H:Hp}{μ:List Addr}:∀{kvs:List (M3.Key×M3.D)} {ws:List (L2.Key×V)},Paired (fun(p:M3.Key×M3.D) (q:L2.Key×V)=>p.1=q.1/\Den K H μ p.2 q.2) kvs ws->ax K H μ (kvs.map (·.2)) (ws.map (·.2))
 |_,_,.nil=>rfl
 |_,_,.cons r t=>⟨_,_,rfl,r.2,ax.EN t⟩
theorem wF(hc:X.A.handled=none)(ho:PE X o (tE T X.K Y fa))(hm:X.mg "list"=none)(hg:Gl X "list":=by rfl)
 (hbase:attributeBase o "values" X.env (eval o X.env)=eval o X.env:=by rfl) (hline:(apos.endLine==ipos.line)=true:=by rfl)
 (he:starEach [.Call (.Attribute o "values" apos) [] [] ipos] X.env=(false,eval (.Call (.Attribute o "values" apos) [] [] ipos) X.env) :: starEach [] X.env:=by rfl) (hpl:(backTo pos (starEach [] X.env)).any (·.1)=false:=by rfl):
 PE X (.Call (.Name "list" p) [.Call (.Attribute o "values" apos) [] [] ipos] [] pos) (tE T X.K Y (M3.AG fa)):=by
 refine PE.of (v7 hc ho hm hg hbase hline he hpl) fun σ H Q ⟨μ,σ3,G,S,sd,h⟩=>⟨μ,σ3,G,S,sd,bi h fun d G1 v H1 μ1 u1 S1 d1 h1=>?_⟩
 unfold M3.run M3.vZ at h1
 cases d with
 |ref n=>
  dsimp only at h1
  obtain⟨a,ea,rfl⟩:=id d1
  cases q:G1[n]? with
  |none=>rw[q]at h1;exact False.elim h1
  |some ob=>
   have od:=S1.obj n a ob ea q
   rw[q]at h1
   cases ob with
   |dK kvs=>
    obtain⟨ws,e1,r⟩:=od
    refine⟨a,ws,rfl,e1,fun l hl=>?_⟩
    have up:=Up.new (μ:=μ1) (.lst (ws.map (·.2))) hl
    exact h1 _ _ (μ1++[l]) (u1.trans up) (S1.new hl rfl ⟨_,aF,ax.up up (ax.EN r)⟩) ⟨l,by rw[<-S1.len];simp,rfl⟩
   |_=>exact False.elim h1
 |_=>exact False.elim h1
end
def ApP(pins:List (Addr×Obj))(e:Addr)(t:Option (Addr×Value)):Prop:=∀p∈pins,p.1≠e/\∀q,t=some q->p.1≠q.1
section
variable{X:Cx}{σ:L2.St}{H:Hp}{s:Shared}{e:Addr}{c:Value}{t:Option (Addr×Value)}{pins:List (Addr×Obj)}
theorem Inv.EL(I:L2.Inv X pins σ H s)(O:Own X)(f:Fly X.s₀.heap H s.heap e c t)(ap:ApP pins e t){g:Addr}{h':Heap}(tn:sS (frs X.stack) e t g s.heap h'):L2.Inv X pins σ H {s with heap:=h'}:=by
 obtain⟨tr,he,ne,nt⟩:=f
 have nex:∀b,b∉X.ex:=fun b z=>by rw[O.ex]at z;simp at z
 have fro:∀b,b∈frs X.stack->∃o,s.heap.get? b=some o/\∀vs,o.data≠.fields vs:=fun b hb=>(I.stack.mem hb).2
 have sub:∀b,b∈X.fs->b∈frs X.stack:=fun b hb=>by
  rw[O.stk]
  unfold frs
  rw[List.filterMap_cons,O.fr]
  exact qR_ _ hb
 have older:∀b o,X.s₀.heap.get? b=some o->b≠e/\(∀q,t=some q->b≠q.1)/\b≠X.env.locals:=fun b o q=>
  ⟨fun z=>(by rw[z,ne]at q;cases q),fun p w z=>(by rw[z,(nt p w).2]at q;cases q),Nat.ne_of_lt (qd_ (Heap.lt_size q) I.ok.above)⟩
 have cel:∀{d:Addr} {v:Option Value},s.heap.IsCell d v->h'.IsCell d v:=fun {d v} ⟨o,q,dd⟩=>by
  obtain⟨sl,z⟩:=tn.plain d o q fun ws w=>by rw[dd]at w;cases w
  exact⟨_,z,dd⟩
 refine⟨I.ok,I.os,I.bare,⟨fun b o q n nf nx=>?_,fun b o q n hf nx=>?_,I.base.free,fun b o q nx=>?_,I.base.pX,I.base.oa,I.base.qA⟩,?_,fun x d q=>?_,I.free,I.fS,fun p hp=>?_,fun b u q=>?_,I.len⟩
 · obtain⟨n1,n2,n3⟩:=older b o q
   refine tn.same b o (I.base.keep b o q n nf nx) (fun z=>?_) n1 n2
   rcases qS_.mp (I.jG b z)with w |w
   · exact n3 w
   · exact nf w
 · obtain⟨sl,q1⟩:=I.base.slot b o q n hf nx
   obtain⟨o',q2,nf⟩:=fro b (sub b hf)
   rw[q1]at q2;cases q2
   obtain⟨sl2,z⟩:=tn.plain b _ q1 nf
   exact⟨sl2,z⟩
 · obtain⟨n1,n2,n3⟩:=older b o q
   obtain⟨o1,q1⟩:=I.base.there b o q nx
   by_cases hf:b∈frs X.stack
   · obtain⟨o',q2,nf⟩:=fro b hf
     obtain⟨sl,z⟩:=tn.plain b o' q2 nf
     exact⟨_,z⟩
   · exact⟨o1,tn.same b o1 q1 hf n1 n2⟩
 · obtain⟨m,⟨o,es,ep,q,d,r⟩,hm⟩:=I.loc
   obtain⟨sl,z⟩:=tn.plain _ o q fun ws w=>by rw[d]at w;cases w
   refine⟨m,⟨_,es,ep,z,d,r⟩,fun i x v h1 h2 h3=>?_⟩
   obtain⟨u,ru,lk⟩:=hm i x v h1 h2 h3
   refine⟨u,ru,?_⟩
   rcases lk with lk |⟨k,d',hd,ic⟩
   · exact .inl lk
   · exact .inr ⟨k,d',hd,cel ic⟩
 · obtain⟨v,w⟩:=I.cell x d q
   exact⟨v,cel w⟩
 · obtain⟨z1,z2,z3,z4,z5⟩:=I.pin p hp
   rw[O.pn]at hp
   obtain⟨y1,y2⟩:=ap p (by simpa using hp)
   refine⟨tn.same p.1 p.2 z1 (fun z=>?_) y1 y2,z2,z3,z4,z5⟩
   rcases qS_.mp (I.jG p.1 z)with w |w
   · exact z3 w
   · exact z4 w
 · refine(I.hok b u q).gO (fun d v hc w=>?_) (fun _ z=>z) fun _ _ z=>z
   have hd:∃u',H d=some u':=by
    rcases hc with z |z
    · rw[z];exact⟨u,q⟩
    · exact⟨_,z⟩
   obtain⟨u',hu'⟩:=hd
   refine tn.same d v w (fun z=>?_) (fun z=>?_) fun p y z=>?_
   · rw[I.o7 d z]at hu';cases hu'
   · rw[z,he]at hu';cases hu'
   · rw[z,(nt p y).1]at hu';cases hu'
theorem yR{M:Model}{A:Around}{EE:Value->Shared->Prop}{Q:Unit->Shared->Prop}(O:Own X)(hA:A.frames=some X.stack)(I:L2.Inv X pins σ H s)(f:Fly X.s₀.heap H s.heap e c t)(ap:ApP pins e t)
 (k:∀h' g,L2.Inv X pins σ H {s with heap:=h'}->Fly X.s₀.heap H h' e c (some (g,rawInt X.env.locals))->ApP pins e (some (g,rawInt X.env.locals))->Q () {s with heap:=h'}):wpAny M A (noteFrame (.ref e) X.env) Q EE s:=by
 have fr:=I.stack
 rw[O.stk]at fr hA
 have pl:∀p∈pins,p.1 < s.heap.objs.size:=fun p hp=>Heap.lt_size (I.pin p (qE_ _ hp)).1
 refine vf hA fr O.fr f.1 fun h' g tn tr=>k h' g (Inv.EL I O f ap (by rw[O.stk];exact tn)) ?_ fun p hp=>⟨(ap p hp).1,fun q w=>?_⟩
 · refine⟨tr,f.2.1,f.2.2.1,fun q w=>?_⟩
   cases w
   rcases tn.head with ⟨y,w⟩ |w
   · exact f.2.2.2 (g,y) w
   · exact⟨I.hok.fresh w,Heap.get?_none_of_le (Nat.le_trans I.sz w)⟩
 · cases w
   rcases tn.head with ⟨y,w⟩ |w
   · exact(ap p hp).2 (g,y) w
   · exact Nat.ne_of_lt (qd_ (pl p hp) w)
theorem oA{M:Model}{A:Around}{EE:Value->Shared->Prop}{Q:Unit->Shared->Prop}{g:Addr}{z:Value}{fo:Option Addr}(O:Own X)(I:L2.Inv X pins σ H s)(f:Fly X.s₀.heap H s.heap e c (some (g,z)))(ap:ApP pins e (some (g,z)))
 (k:∀h',L2.Inv X pins σ H {s with heap:=h'}->Fly X.s₀.heap H h' e c (some (g,fo.elim .none fun f=>rawInt f))->ApP pins e (some (g,fo.elim .none fun f=>rawInt f))->Q () {s with heap:=h'}):wpAny M A (setFlight (.ref e) fo) Q EE s:=
 pN f.1 fun h' sm tr sz pl=>k h' (Inv.EL (g:=g) I O f ap ⟨fun b o q _ _ n=>sm b o (n _ rfl) q,fun b o q nf=>⟨o.slots,pl b o q nf⟩,.inl ⟨_,rfl⟩,sz⟩) ⟨tr,f.2.1,f.2.2.1,fun q w=>by cases w;exact f.2.2.2 (g,z) rfl⟩ fun p hp=>⟨(ap p hp).1,fun q w=>by cases w;exact(ap p hp).2 (g,z) rfl⟩
def XP(X:Cx)(pins:List (Addr×Obj))(σ:L2.St)(E:XK)(x:Value)(s':Shared):Prop:=∃e H' c dx t,x= .ref e/\L2.Inv X pins σ H' s'/\Fly X.s₀.heap H' s'.heap e c t/\ApP pins e t/\E c dx H'
def PEx(X:Cx)(e:Expr)(t:L2.St->Hp->VK->XK->Prop):Prop:=∀(pins:List (Addr×Obj)) (s:Shared) (σ:L2.St) (H:Hp) (Q:VK) (E:XK),L2.Inv X pins σ H s->t σ H Q E->wpAny (model X.prog X.w) X.A (eval e X.env) (EP X pins σ Q) (XP X pins σ E) s
theorem D0{k:Nat}{f:Addr}{fd:FuncData}{ps:List Str}{sp:Sp}{Q:VK}{E:XK}{us:List Value}{vs:List V}(O:Own X)(F:aP X.prog X.w X.K X.mg X.base (CX1 X.prog X.w) k f fd ps sp)(hr:cU k X.A)(hb:Binds X.K fd ps [])
 (I:L2.Inv X pins σ H s) (r:Vals vs us) (h:sp vs H Q E):wpAny (model X.prog X.w) X.A (call (.ref f) us) (EP X pins σ Q) (XP X pins σ E) s:=by
 have hl:(us++[]).length=ps.length:=by rw[qY_,<-r.length];exact F.len _ _ _ _ h
 have hbd:=hb s us I.kIn hl
 rw[qY_]at hbd
 refine wpAny_call (codeAny_mono (F.run X.A X.stack s H ⟨us,[]⟩ us vs Q E hr I.F3 hbd r h) fun r s' hq=>?_)
 cases r with
 |error x=>
  obtain⟨e,H',c,dx,t,rfl,os,bare,un,hok,f,q⟩:=hq
  refine⟨e,H',c,dx,t,rfl,I.Bs (ch:=[]) os un hok bare (fun b z=>absurd z (by simp)),f.old fun b o z=>I.base.there b o z (by rw[O.ex];simp),fun p hp=>?_,q⟩
  have live:=(I.pin p (qE_ _ hp)).1
  exact⟨fun z=>(by rw[z,f.2.2.1]at live;cases live),fun y w z=>(by rw[z,(f.2.2.2 y w).2]at live;cases live)⟩
 |ok fl=>
  cases fl with
  |ret u=>exact I.after hq
  |next=>exact False.elim hq
  |brk=>exact False.elim hq
  |cont=>exact False.elim hq
end
def tEx(T:Tab)(K:PySem.W.Frag)(f:M3.E3):L2.St->Hp->VK->XK->Prop:=fun σ H Q E=>tE T K (EX.of T K E) f σ H Q
section
variable{X:Cx}{T:Tab}{o e:Expr}{es:List Expr}{p pos apos:Pos}{fa:M3.E3}{f3:M3.A3}{k n C:Nat}{x m:Str}{g:List M3.D->M3.M M3.D}
theorem Ja{α:Type}{M:Model}{A:Around}{t:Sem α}{Q Q':α->Shared->Prop}{E:Value->Shared->Prop}{s:Shared}(h:wpAny M A t Q (fun _ _=>False) s)(hq:∀a s,Q a s->Q' a s):wpAny M A t Q' E s:=wpAny_mono h hq fun _ _ z=>z.elim
theorem D6{pl:Sem Bool}(O:Own X)(F:Mt3 X.prog X.w X.K X.mg X.base (CX1 X.prog X.w) T k C m n g)(hr:cU k X.A)(ho:∀E,PE X.nox o (tE T X.K (EX.of T X.K E) fa))(ha:∀E,PA X.nox (e :: es) (tA T X.K (EX.of T X.K E) f3))
 (hst:starEach (e :: es) X.env=(false,eval e X.env) :: starEach es X.env:=by rfl) (hpl:(backTo pos (starEach es X.env)).any (·.1)=false:=by rfl)
 (ht:eval (.Call (.Attribute o m apos) (e :: es) [] pos) X.env=(do
   let ov <-eval o X.env
   standAt apos.atName
   let (f,first) <-holding [ov] (getMethod ov m pl)
   callWith pos f first (backTo pos (starEach (e :: es) X.env)) (backToKw pos (keywordEach [] X.env))):=by rfl):
 PEx X (.Call (.Attribute o m apos) (e :: es) [] pos) (tEx T X.K (M3.aH C g fa f3)):=by
 obtain⟨Ca,f,fd,ps,hc,cl,hm,ok,hb⟩:=F.ex
 intro pins s σ H Q E I h
 have h':=wo (CX:=CX1 X.prog X.w) (P:=X.prog) (w:=X.w) (mg:=X.mg) (base:=X.base) (k:=k) hc F.no F.len h
 refine PySem.W.methodCall_KW (pl:=pl) (Ja (ho E pins s σ H _ (I.qW _) h') fun u s1 ⟨y,H1,I1,rx,a,dx,fs,ex,ea,l,q⟩=>?_) ht
 subst ex
 obtain rfl:u=Value.ref a:=rx
 have J1:=I1.gq
 refine ml J1 ea cl hm l ?_
 refine PySem.W.callWith_K (first:=[.ref a]) (h₀:=X.base) I.ok.mod.kin hm.kp (Ja (ha E pos pins s1 σ H1 _ I1 q) fun us s2 ⟨vs,H2,I2,r,q2⟩=>⟨I2.gq.kIn,?_⟩) hst hpl
 have q2:sp3 T X.K n g (V.ref a :: (vs++[])) H2 Q E:=q2
 rw[qY_]at q2
 exact D0 (us:= .ref a :: us) (vs:= .ref a :: vs) O ok hr hb I2.gq (.cons rfl r) q2
def mkX(X:Cx)(e:Addr):Cx:={X with A:=X.A.mark (some (.ref e)),calm:=false,xe:=fun _ _=>False}
theorem Inv.mk'{pins:List (Addr×Obj)}{σ:L2.St}{H:Hp}{s:Shared}{e:Addr}(I:L2.Inv X pins σ H s):L2.Inv (mkX X e) pins σ H s:=
 have ok:=I.ok
 ⟨⟨ok.mod,ok.kind,ok.glob,ok.blt,ok.above,ok.inj,ok.has,ok.cab,(fun z=>nomatch z),ok.frames,ok.stk,ok.exf,ok.bs,ok.bsz,ok.w6,ok.zd,ok.m7,ok.frf⟩,I.os,I.bare,I.base,I.loc,I.cell,I.free,I.fS,I.pin,I.hok,I.len⟩
theorem Inv.yT{pins:List (Addr×Obj)}{σ:L2.St}{H:Hp}{s:Shared}{e:Addr}(ok:X.Ok)(I:L2.Inv (mkX X e) pins σ H s):L2.Inv X pins σ H s:=
 ⟨ok,I.os,I.bare,I.base,I.loc,I.cell,I.free,I.fS,I.pin,I.hok,I.len⟩
theorem SP.yT{pins:List (Addr×Obj)}{D:Ends}{f:Flow}{s':Shared}{e:Addr}(ok:X.Ok)(h:SP (mkX X e) pins D f s'):SP X pins D f s':=by
 cases f with
 |next=>obtain⟨σ',H',I,q⟩:=h;exact⟨σ',H',Inv.yT ok I,q⟩
 |brk=>obtain⟨σ',H',I,q⟩:=h;exact⟨σ',H',Inv.yT ok I,q⟩
 |cont=>obtain⟨σ',H',I,q⟩:=h;exact⟨σ',H',Inv.yT ok I,q⟩
 |ret u=>obtain⟨v,σ',H',I,r,q⟩:=h;exact⟨v,σ',H',Inv.yT ok I,r,q⟩
end
inductive Hs (X:Cx) (T:Tab) (Y:EX):List ExceptHandler->List ((Nat->Bool)×M3.S3)->Prop
 |nil:Hs X T Y [] []
 |cons {x:Str} {px pos:Pos} {cv:Value} {m:Nat->Bool} {b:Stmt} {body:List Stmt} {f:M3.S3} {hs:List ExceptHandler} {ms:List ((Nat->Bool)×M3.S3)} (hx:X.mg x=some cv) (hg:Gl X x) (hdb:(x==("__debug__":Str))=false)
   (hm:∀c Ca,T.cls c=some Ca->PySem.W.exmOne X.K (.ref Ca) cv=some (m c)) (hb:∀e,PSs (mkX X e) (b :: body) (tS T X.K Y f)) (r:Hs X T Y hs ms):Hs X T Y (.ExceptHandler (some (.Name x px)) none (b :: body) pos :: hs) ((m,f) :: ms)
section
variable{X:Cx}{T:Tab}{Y:EX}{pins:List (Addr×Obj)}{σ:L2.St}{H:Hp}
theorem handle(O:Own X){D:Ends}{c:Nat}{Ca:Addr}{e:Addr}(hc:T.cls c=some Ca):∀{hs:List ExceptHandler} {ms:List ((Nat->Bool)×M3.S3)},Hs X T Y hs ms->∀{f:M3.S3},M3.pick c ms=some f->
 ∀{s:Shared} {g:Addr} {z:Value},L2.Inv X pins σ H s->Fly X.s₀.heap H s.heap e (.ref Ca) (some (g,z))->ApP pins e (some (g,z))->tS T X.K Y f D σ H->wpAny (model X.prog X.w) X.A (handleBy (.ref e) X.env hs) (SP X pins D) X.xe s:=by
 intro hs ms hh
 induction hh with
 |nil=>intro f hf;cases hf
 |@cons x px pos cv m b body f0 hs ms hx hg hdb hm hb r ih=>
  intro f hf s g z I fl ap ht
  refine wpAny_handleBy_cons (codeAny_handlers_test ?_) (by intro q;cases q)
  refine kY (X:=mkX X e) (Inv.mk' I) hg hx ?_ hdb
  have lt:PySem.W.Looks (model X.prog X.w) s.heap (typeOf (.ref e)) (.ref Ca):=by
   obtain⟨oe,vs,ge,ce,de,_⟩:=fl.1
   rw[<-ce]
   exact(PySem.W.Looks.ld ge).andThen .now
  refine PySem.W.exm_one I.kIn lt (hm c Ca hc) _ _ _ s (fun _ _ q=>q) ?_
  cases q:m c with
  |false=>
   have hf':M3.pick c ms=some f:=by
    unfold M3.pick at hf
    rw[q,if_neg qC_]at hf
    exact hf
   exact ih hf' I fl ap ht
  |true=>
   have hf':f0=f:=by
    unfold M3.pick at hf
    rw[q,if_pos rfl]at hf
    cases hf;rfl
   subst hf'
   refine codeAny_handlers_suite (oA O I fl ap fun h' I' fl' ap'=>?_)
   exact wpAny_mono (hb e pins {s with heap:=h'} σ H D (Inv.mk' I') ht) (fun fl s' q=>SP.yT I.ok q) fun _ _ z=>z.elim
theorem GQ(O:Own X){D:Ends}{hs:List ExceptHandler}{ms:List ((Nat->Bool)×M3.S3)}(hh:Hs X T Y hs ms)
 {x:Value} {s:Shared} (xp:XP X pins σ (fun cv dx H'=>∃c Ca,cv= .ref Ca/\T.cls c=some Ca/\∃f,M3.pick c ms=some f/\tS T X.K Y f D σ H') x s):
 wpAny (model X.prog X.w) X.A (noteFrame x X.env) (fun _ s₂=>wpAny (model X.prog X.w) X.A (setFlight x none) (fun _ s₃=>wpAny (model X.prog X.w) X.A (handleBy x X.env hs) (SP X pins D) X.xe s₃) X.xe s₂) X.xe s:=by
 obtain⟨e,H',cv,dx,t,rfl,I,fl,ap,c,Ca,rfl,hc,f,hf,ht⟩:=xp
 refine yR O I.ok.frames I fl ap fun h1 g I1 fl1 ap1=>?_
 refine oA O I1 fl1 ap1 fun h2 I2 fl2 ap2=>?_
 exact handle O hc hh hf I2 fl2 ap2 ht
def Io(T:Tab)(K:PySem.W.Frag)(Y:EX)(ms:List ((Nat->Bool)×M3.S3))(D:Ends)(σ:L2.St):XK:=fun cv dx H'=>∃c Ca,cv= .ref Ca/\T.cls c=some Ca/\∃f,M3.pick c ms=some f/\tS T K Y f D σ H'
theorem Bq{K:PySem.W.Frag}{ms:List ((Nat->Bool)×M3.S3)}{D:Ends}{fe:M3.E3}{k:M3.D->M3.St->M3.Fl×M3.St}{μ:List Addr}{σ3:M3.St}{G:M3.Hh}{R:VK}(sd:StD K H μ σ3 σ)(h:M3.run (M3.xE fe k ms σ3) G (eB T K μ H D) (Y.x μ H))
 (ok:∀d G' v H1 μ1,Up μ μ1 H H1->Sim T K μ1 H1 G'->Den K H1 μ1 d v->eB T K μ H D (k d σ3) G'->R v H1):M3.run (fe σ3) G (cJ T K μ H R) ((EX.of T K (Io T K Y ms D σ)).x μ H):=
 M3.ao (M3.Dh h) (fun d G' q v H1 μ1 u S1 dv=>ok d G' v H1 μ1 u S1 dv q) fun c G' ⟨f,hf,hr⟩ Ca dx H' μ' hc u S'=>⟨c,Ca,rfl,hc,f,hf,μ',σ3,G',S',sd.up u,M3.ao hr (fun _ _ q=>q.up u) fun _ _ q=>Y.up u q⟩
variable{e:Expr}{fe:M3.E3}{h0:ExceptHandler}{hs:List ExceptHandler}{ms:List ((Nat->Bool)×M3.S3)}{p1 pos:Pos}
theorem AD(O:Own X)(he:PEx X e (tEx T X.K fe))(hh:Hs X T Y (h0 :: hs) ms):PS X (.Try [.Return (some e) p1] (h0 :: hs) [] [] pos) (tS T X.K Y (M3.xE fe (fun d σ=>(.ret d,σ)) ms)):=by
 intro pins s σ H D I ⟨μ,σ3,G,S,sd,h⟩
 refine wpAny_Try_except (wpAny_execs_cons (wpAny_Return_some (wpAny_mono (he pins s σ H (fun v H1=>D.rt v H1) (Io T X.K Y ms D σ) I ⟨μ,σ3,G,S,sd,Bq sd h fun d G' v H1 μ1 u S1 dv q=>q σ H1 μ1 u S1 (sd.up u) v dv⟩) (fun v s1 ⟨x,H1,I1,r1,q1⟩=>?_) fun x s1 xp=>GQ O hh xp)))
 exact⟨x,σ,H1,I1,r1,q1⟩
end
section
variable{P:Program}{w:World}{K:PySem.W.Frag}{mg:Str->Option Value}{base:Heap}{CX:CXT}{T:Tab}{x m qual:Str}{st:Stmt}{fa Ca:Addr}{fd:FuncData}{N ps:List Str}{k n C:Nat}{pad:M3.St}{body:M3.S3}
theorem fN(ok:aP P w K mg base CX k fa fd ps (sp3 T K n (M3.fnM n pad body)))(F:Fun K x qual st fa fd)(hm:mg x=some (.ref fa))(hb:Binds K fd ps []):Fn3 P w K mg base CX T k x n (M3.fnM n pad body):=
 ⟨⟨fa,fd,ps,ok,hm,F.kp,hb⟩,fun _ _ _ _ q=>ph q⟩
theorem bA(ok:aP P w K mg base CX k fa fd ps (sp3 T K n (M3.fnM n pad body)))(hc:T.cls C=some Ca)(cl:Cls K Ca)(me:Meth K Ca m fa)(hb:Binds K fd ps [])(no:∀g,T.nm g≠m):Mt3 P w K mg base CX T k C m n (M3.fnM n pad body):=
 ⟨⟨Ca,fa,fd,ps,hc,cl,me,ok,hb⟩,no,fun _ _ _ _ q=>ph q⟩
theorem vx(ok:aP P w K mg base CX k fa fd ps (sp3 T K n (M3.fnM n pad body)))(hc:T.cls C=some Ca)(mk:Mk K Ca fa)(hm:mg x=some (.ref Ca))(hb:Binds K fd ps []):Ct3 P w K mg base CX T k x C n (M3.fnM n pad body):=
 ⟨⟨Ca,fa,fd,ps,hc,mk,hm,ok,hb⟩,fun _ _ _ _ q=>ph q⟩
end
end L3
namespace HT
open PySem PyProof.Rows
end HT
namespace L2
open PySem PySem.Spec PyProof.Rows
section
variable{X:Cx}{pins:List (Addr×Obj)}{σ:List (Option V)}{H:Hp}{s:Shared}{h':Heap}
theorem Inv.DZ{t':Nat}{fp:List Addr}(I:Inv X pins σ H s)(k:∀b o,b∉fp->s.heap.get? b=some o->h'.get? b=some o)(hf:∀b∈fp,nJ X pins H b):Inv X pins σ H {s with heap:=h',toks:=t'}:=by
 have nit:∀b u,H b=some u->b∉fp:=fun b u e z=>by rw[(hf b z).1]at e;cases e
 refine I.step (g':=s.gens) (d':=s.drawn) (ch:=fp) (fun b hb=>⟨(hf b hb).2.2.2.1,(hf b hb).2.1,(hf b hb).2.2.2.2.1,(hf b hb).2.2.2.2.2⟩) (fun b o _ _ hc e _=>k b o hc e) (fun b o _ _ hc e _=>⟨o.slots,k b o hc e⟩) (fun _ _ _ _ n=>n)
  (fun b o hc e=>⟨o,k b o hc e⟩) (fun _ _ e=>e) (fun _ _ _ e=>e) (fun b ps e=>⟨#[],by rw[e];simp⟩) (fun m hm=>?_) (fun b u e=>?_) I.bare
 · obtain⟨o,es,ep,ho,r⟩:=hm
   exact⟨o,es,ep,k _ o (fun z=>(hf _ z).2.1 rfl) ho,r⟩
 · refine(I.hok b u e).gO (fun c v hc q=>k c v ?_ q) (fun _ q=>q) fun _ _ q=>q
   rcases hc with z |z
   · rw[z];exact nit b u e
   · exact nit c _ z
end
def Ite(K:PySem.W.Frag)(a:Addr):It:=
 ⟨fun i H=>∃xs x,SqL K H a xs/\xs[i]? =some x,fun i H x H'=>∃y p,H p=none/\x= .ref p/\H'=upd H p (.tup [.int (i:Int),y])/\∀xs,SqL K H a xs->xs[i]? =some y,fun i H=>∃xs,SqL K H a xs/\xs.length<=i⟩
theorem zO{P:Program}{w:World}{K:PySem.W.Frag}{elts:List Expr}{k:Nat}{pos:Pos}(a e it:Addr)(hne:e≠it):Turn P w K (.Tuple elts k pos) (Ite K a) [e,it] e (fun i h=>(∃old,IsEnum h e it ((i:Nat):Int) old)/\h.IsListIter it a i) where
 mem:=by simp
 obj:=fun i h st b hb=>by
  obtain⟨⟨old,he⟩,o,eo,c,d⟩:=st
  rcases qS_.mp hb with rfl |hb
  · exact⟨_,he,fun v z=>by
     have z':Data.fields _=Data.cell v:=z
     cases z'⟩
  · have e:b=it:=by simpa using hb
    subst e
    exact⟨o,eo,fun v z=>by rw[d]at z;cases z⟩
 keep:=fun i h h' st k=>⟨let ⟨old,he⟩:=st.1;⟨old,k e (by simp) _ he⟩,st.2.at fun o eo=>k it (by simp) o eo⟩
 item:=by
  intro X hP hw hK hc i pins s σ H E I hf st hg
  subst hP hw hK
  obtain⟨⟨old,he⟩,hit⟩:=st
  obtain⟨xs,x,hq,hx⟩:=hg
  obtain⟨its,rv,p,hz⟩:=I.list hq
  obtain⟨u,hu,ru⟩:=rv.get hx
  refine wpAny_pyNext_enum_item he hit p.isList (x:=u) (by simpa using hu) hne fun h₁ heo hit₁ ht₁ hz₁ hk₁=>?_
  have hlt:∀b∈ [e,it],b < s.heap.objs.size:=fun b hb=>by
   rcases qS_.mp hb with rfl |hb
   · exact Heap.lt_size he
   · have eb:b=it:=by simpa using hb
     subst eb
     obtain⟨o,eo,_⟩:=id hit
     exact Heap.lt_size eo
  have I1:Inv X pins σ (upd H s.heap.objs.size (.tup [.int (i:Int),x])) {s with heap:=s.heap.push {cls:= .type "tuple",data:= .seq #[.int (i:Int) s.toks,u]},toks:=s.toks+1}:=
   I.laid (fun b o eb=>Heap.get?_push_of_some _ eb) (qO_ _) ⟨by rw[sizeLine_eq];exact qP_ rfl,[.int (i:Int) s.toks,u],.cons ⟨_,rfl⟩ (.cons ru .nil),⟨_,Heap.get?_push_size _ rfl,rfl,_,rfl⟩⟩
  have hf1:∀b∈ [e,it],nJ X pins (upd H s.heap.objs.size (.tup [.int (i:Int),x])) b:=fun b hb=>⟨by rw[aE (Nat.ne_of_lt (hlt b hb))];exact(hf b hb).1,(hf b hb).2⟩
  have I2:Inv X pins σ (upd H s.heap.objs.size (.tup [.int (i:Int),x])) {s with heap:=h₁,toks:=s.toks+1}:=by
   refine Inv.DZ (s:={s with heap:=s.heap.push {cls:= .type "tuple",data:= .seq #[.int (i:Int) s.toks,u]},toks:=s.toks+1}) (h':=h₁) (t':=s.toks+1) (fp:=[e,it]) I1 (fun b o hb eb=>?_) hf1
   rcases Heap.get?_push_cases eb with ⟨z1,z2⟩ |z
   · rw[z1,z2];exact ht₁
   · exact hk₁ b o (fun z=>hb (by simp [z])) (fun z=>hb (by simp [z])) z
  refine⟨_,rfl,wpAny_letOwnedTupleGo_enum heo fun h₂ he₂ hs₂=>?_⟩
  obtain⟨f0,f1,f2,f3,f4,f5⟩:=hf1 e (by simp)
  have hs₂:Heap.SameBut e h₁ h₂:=hs₂
  have I3:Inv X pins σ (upd H s.heap.objs.size (.tup [.int (i:Int),x])) {s with heap:=h₂,toks:=s.toks+1}:=I2.turned (t':=s.toks+1) (fun b o hb eb=>(hs₂.2 b hb).trans eb) f0 f1 f3 f4 f5
  refine⟨.ref s.heap.objs.size,_,I3,rfl,⟨x,s.heap.objs.size,I.hok.fresh (qO_ _),rfl,rfl,fun ys hy=>by rw[I.kA hy hq];exact hx⟩,⟨⟨u,?_⟩,hit₁.at fun o eo=>(hs₂.2 it (Ne.symm hne)).trans eo⟩,fun b hb=>(hf1 b hb).1⟩
  have:((i+1:Nat):Int)=(i:Int)+1:=by push_cast;rfl
  rw[this]
  exact he₂
 done:=by
  intro X hP hw hK hc i pins s σ H E I hf st hg
  subst hP hw hK
  obtain⟨⟨old,he⟩,hit⟩:=st
  obtain⟨xs,hq,hx⟩:=hg
  obtain⟨its,rv,p,hz⟩:=I.list hq
  obtain⟨f0,f1,f2,f3,f4,f5⟩:=hf it (by simp)
  have hl:=rv.length
  exact wpAny_pyNext_enum_end (I.ok.hd hc) he hit p.isList (by simp;omega) fun h' eb=>⟨rfl,I.turned (t':=s.toks) (fun b o hb e=>eb b o hb e) f0 f1 f3 f4 f5⟩
 self:=fun _ _ _ _ _ st h=>let ⟨_,he⟩:=st.1;wpAny_pyIter_enum he h
def F9(K:PySem.W.Frag)(ta:TA):TI:=fun σ H R=>ta σ H fun vs H1=>∃a,vs=[.ref a]/\(∃xs,SqL K H1 a xs)/\R (Ite K a) H1
theorem D9{X:Cx}{l:Expr}{elts:List Expr}{k:Nat}{ptg:Pos}{ta:TA}{p pos:Pos}(hg:Gl X "enumerate")(hm:X.mg "enumerate"=none)(ha:PA X [l] ta)(hs:starEach [l] X.env=[(false,eval l X.env)]:=by rfl):PI X (.Tuple elts k ptg) (.Call (.Name "enumerate" p) [l] [] pos) (F9 X.K ta):=by
 intro pins s σ H R I h
 refine Call_ (nE I hg hm boot_enumerate (PyProof.Rows.callWith_type1 (thn (ha pos pins s σ H _ I h) fun us s1 ⟨vs,H1,I1,r1,q1⟩=>?_) hs rfl))
 obtain⟨a,e,⟨xs,hq⟩,q⟩:=q1
 subst e
 cases r1 with
 |cons r rr=>
  cases rr
  cases r
  obtain⟨its,rv,pl,hz⟩:=I1.list hq
  refine call_enumerate_list pl.isList fun h' hE hIt hsz hk=>?_
  have I2:Inv X pins σ H1 {s1 with heap:=h'}:=I1.kept (t':=s1.toks) hk
  refine wpAny_pyIter_enum hE ?_
  refine⟨s1.heap.objs.size+1,[s1.heap.objs.size+1,s1.heap.objs.size],_,_,H1,rfl,I2,zO a _ _ (Nat.succ_ne_self _),⟨⟨.none,hE⟩,hIt⟩,fun b hb=>?_,q⟩
  have hb:s1.heap.objs.size<=b:=by
   rcases qS_.mp hb with rfl |hb
   · exact Nat.le_succ _
   · have:b=s1.heap.objs.size:=by simpa using hb
     exact Nat.le_of_eq this.symm
  exact I1.AA hb (I1.hok.fresh hb)
end L2
namespace L3
open PySem PySem.Spec PyProof.Rows L2 PySem.SeqAt
section
variable{X:Cx}{T:Tab}{Y:EX}{a b e o i:Expr}{es:List Expr}{fa fb fc:M3.E3}{ft:M3.T3}{f3:M3.A3}{pos pos' p p2 apos:Pos}
theorem A8{elts:List Expr}{k:Nat}{ptg:Pos}(hm:X.mg "enumerate"=none)(ha:PE X a (tE T X.K Y fa))(hg:Gl X "enumerate":=by rfl)(hs:starEach [a] X.env=[(false,eval a X.env)]:=by rfl):PI X (.Tuple elts k ptg) (.Call (.Name "enumerate" p) [a] [] pos) (tI T X.K Y (M3.CG fa)):=by
 refine PI.of (D9 hg hm (dJ ha jm hs) hs) fun σ H R ⟨μ,σ3,G,S,sd,h⟩=>⟨μ,σ3,G,S,sd,bi h fun d G1 v H1 μ1 u1 S1 d1 h1=>?_⟩
 have main:∀{n:Nat} {xs:List M3.D} {o:M3.O} {ck:M3.Hh->Bool} {q:Addr},μ1[n]? =some q->(∀G',ck G'=true->G'[n]? =some o)->(o= .lst xs\/o= .frz xs)->xH T X.K μ1 H1 ⟨M3.ix xs,ck⟩ (Ite X.K q):=by
  intro n xs o ck q ea hck ho
  have key:∀{μ' H' G'},Up μ1 μ' H1 H'->Sim T X.K μ' H' G'->ck G'=true->∃vs,SqL X.K H' q vs/\ax X.K H' μ' xs vs:=by
   intro μ' H' G' u S c
   have ob:=S.obj n q o (u.at ea) (hck G' c)
   rcases ho with rfl |rfl
   · obtain⟨vs,e1,r⟩:=ob;exact⟨vs,SqL.of e1,r⟩
   · obtain⟨vs,e1,r⟩:=ob;exact⟨vs,e1.sq,r⟩
  have eget:∀{i:Nat} {d:M3.D},(M3.ix xs)[i]? =some d->∃y,xs[i]? =some y/\d= .tup [.int (i:Int),y]:=by
   intro i d h
   unfold M3.ix at h
   rw[List.getElem?_mapIdx]at h
   cases z:xs[i]? with
   |none=>rw[z]at h;cases h
   |some y=>rw[z]at h;exact⟨y,rfl,(Option.some.inj h).symm⟩
  refine⟨fun i d μ' H' G' u S c e=>?_,fun i d v μ' H' H'' G' u S c e y=>?_,fun μ' H' G' u S c=>?_⟩
  · obtain⟨vs,sq,r⟩:=key u S c
    obtain⟨y,ey,_⟩:=eget e
    obtain⟨v,e1,_⟩:=r.get ey
    exact⟨vs,v,sq,e1⟩
  · obtain⟨vs,sq,r⟩:=key u S c
    obtain⟨z,ez,rfl⟩:=eget e
    obtain⟨w,e1,dw⟩:=r.get ez
    obtain⟨yv,t,ht,rfl,rfl,hy⟩:=y
    have hy:=hy vs sq
    rw[e1]at hy
    cases hy
    have sm:fO H' (upd H' t (.tup [.int (i:Int),w])):=fO.new _ ht
    exact⟨sm,t,[.int (i:Int),w],rfl,SqT.of aF,⟨_,_,rfl,rfl,_,_,rfl,Den.up (Up.same (μ:=μ') sm) dw,rfl⟩⟩
  · obtain⟨vs,sq,r⟩:=key u S c
    refine⟨vs,sq,Nat.le_of_eq ?_⟩
    rw[<-r.length]
    simp [M3.ix]
 unfold M3.run M3.qc at h1
 cases d with
 |ref n=>
  dsimp only at h1
  obtain⟨q,eq,rfl⟩:=d1
  cases z:G1[n]? with
  |none=>rw[z]at h1;exact False.elim h1
  |some ob=>
   have od:=S1.obj n q ob eq z
   rw[z]at h1
   cases ob with
   |lst xs=>obtain⟨vs,e1,r⟩:=od;exact⟨q,rfl,⟨vs,SqL.of e1⟩,h1 _ H1 μ1 u1 S1 (main eq (fun G' c=>of_decide_eq_true c) (.inl rfl))⟩
   |frz xs=>obtain⟨vs,e1,r⟩:=od;exact⟨q,rfl,⟨vs,e1.sq⟩,h1 _ H1 μ1 u1 S1 (main eq (fun G' c=>of_decide_eq_true c) (.inr rfl))⟩
   |_=>exact False.elim h1
 |_=>exact False.elim h1
theorem yD{K:PySem.W.Frag}{H:Hp}{μ:List Addr}{x:M3.D}{v:V}(d:Den K H μ x v):(V.bl (decide (v= .non)))= .bl (decide (x= .non)):=by
 cases x with
 |non=>cases (show v= .non from d);rfl
 |bl b=>cases (show v= .bl b from d);rfl
 |int b=>cases (show v= .int b from d);rfl
 |str b=>cases (show v= .str b from d);rfl
 |ref n=>obtain⟨_,_,rfl⟩:=d;rfl
 |tup ds=>obtain⟨_,_,rfl,_⟩:=d;rfl
theorem El{j}(ha:PE X a (tE T X.K Y fa)):PT X (.Compare a [.Is] [.Constant .none j pos'] pos) (tT T X.K Y (M3.tB (M3.eUn M3.nN fa))):=by
 refine PT.of (Bw (AX ha)) fun σ H Q ⟨μ,σ3,G,S,sd,h⟩=>?_
 have h:M3.run (M3.bnd (M3.bnd (fa σ3) M3.nN) M3.asB) G (oI T X.K μ H Q) (Y.x μ H):=h
 rw[M3.kT]at h
 exact⟨μ,σ3,G,S,sd,bi h fun x G1 v H1 μ1 u1 S1 d1 h1=>⟨decide (x= .non),yD d1,h1 H1 μ1 u1 S1⟩⟩
theorem Ck{j}(ha:PE X a (tE T X.K Y fa)):PT X (.Compare a [.IsNot] [.Constant .none j pos'] pos) (tT T X.K Y (M3.tB (M3.eUn M3.lO fa))):=by
 refine PT.of (Bw (D1 ha)) fun σ H Q ⟨μ,σ3,G,S,sd,h⟩=>?_
 have h:M3.run (M3.bnd (M3.bnd (fa σ3) M3.lO) M3.asB) G (oI T X.K μ H Q) (Y.x μ H):=h
 rw[M3.kT]at h
 exact⟨μ,σ3,G,S,sd,bi h fun x G1 v H1 μ1 u1 S1 d1 h1=>⟨!decide (x= .non),by have:=yD d1;injection this with this;rw[this],h1 H1 μ1 u1 S1⟩⟩
end
end L3
namespace HT
open PySem
theorem k6:entryFor table "dict_itemiterator.__iter__"=some Builtin.«dict_keyiterator.__iter__»:=
 entryFor_alias (id':="dict_keyiterator.__iter__") (by kernel_rfl) (by first |rfl |decide +kernel |(unfold String.splitOn;simp +decide [String.splitOnAux])) (by decide +kernel) (by kernel_rfl)
end HT
namespace L2
open PySem PySem.Spec PyProof.Rows
theorem BR{k:Key}{u:Value}(h:qB k u=true):RelV (kV k) u:=by
 rcases bQ h with ⟨i,t,rfl,rfl⟩ |⟨x,t,rfl,rfl⟩
 · exact⟨t,rfl⟩
 · exact⟨t,rfl⟩
theorem KV.get:∀{kvs:List (Key×V)} {vs:List (Key×Value)} {i:Nat} {k:Key} {v:V},KV kvs vs->kvs[i]? =some (k,v)->∃u,vs[i]? =some (k,u)/\RelV v u
 |_,_,_,_,_,.nil,e=>by simp at e
 |(k1,v1) :: kvs,(k2,u1) :: vs,0,k,v,.cons ⟨h1,h2⟩ t,e=>by
  simp at e
  obtain⟨rfl,rfl⟩:=e
  exact⟨u1,by rw[<-show k1=k2 from h1];rfl,h2⟩
 |(k1,v1) :: kvs,(k2,u1) :: vs,i+1,k,v,.cons _ t,e=>by
  obtain⟨u,h1,h2⟩:=KV.get (i:=i) t (by simpa using e)
  exact⟨u,by simpa using h1,h2⟩
def Itd(d:Addr)(ob:Obj)(kvs:List (Key×V)):It:=
 ⟨fun i H=>H d=some (.frz ob (.dK kvs))/\i < kvs.length,fun i H x H'=>∃k v p,kvs[i]? =some (k,v)/\H p=none/\x= .ref p/\H'=upd H p (.tup [kV k,v]),fun i H=>H d=some (.frz ob (.dK kvs))/\kvs.length<=i⟩
theorem zW{X:Cx}{pins:List (Addr×Obj)}{σ:St}{H:Hp}{s:Shared}{d:Addr}{ob:Obj}{kvs:List (Key×V)}{es:Array DictEntry}{ep:Nat}(I:Inv X pins σ H s)(hob:ob.data= .dict es ep)(hd:H d=some (.frz ob (.dK kvs))):
 ∃vs,KV kvs vs/\s.heap.DictAt (bN X.prog X.w) d vs ep/\vs.length=kvs.length:=by
 obtain⟨hg,hz,hS,vs,rv,dd⟩:=(show bJ X.prog X.w H s.heap d (.frz ob (.dK kvs))from I.hok d _ hd)
 obtain⟨ep',hat⟩:=dd.dictAt
 obtain⟨o,es',ho,hc,hdat,r⟩:=id hat
 rw[hg]at ho
 cases ho
 rw[hob]at hdat
 injection hdat with h1 h2
 subst h2
 exact⟨vs,rv,hat,rv.length.symm⟩
theorem wW{P:Program}{w:World}{K:PySem.W.Frag}{elts:List Expr}{k:Nat}{pos:Pos}(d it:Addr)(ob:Obj)(kvs:List (Key×V))(es:Array DictEntry)(ep:Nat)(hob:ob.data= .dict es ep):
 Turn P w K (.Tuple elts k pos) (Itd d ob kvs) [it] it (fun i h=>∃ok ov,IsItemIter h it d i kvs.length ep ok ov) where
 mem:=by simp
 obj:=fun i h st b hb=>by
  obtain⟨ok,ov,he⟩:=st
  have e:b=it:=by simpa using hb
  subst e
  exact⟨_,he,fun v z=>by
   have z':Data.fields _=Data.cell v:=z
   cases z'⟩
 keep:=fun i h h' st k=>let ⟨ok,ov,he⟩:=st;⟨ok,ov,k it (by simp) _ he⟩
 item:=by
  intro X hP hw hK hc i pins s σ H E I hf st hg
  subst hP hw hK
  obtain⟨ok,ov,he⟩:=st
  obtain⟨hd,hi⟩:=hg
  obtain⟨vs,rv,hat,hl⟩:=zW I hob hd
  have hkv:kvs[i]? =some (kvs[i].1,kvs[i].2):=qA_ hi
  generalize kvs[i].1=k0 at hkv
  generalize kvs[i].2=v0 at hkv
  obtain⟨u,hu,ru⟩:=KV.get rv hkv
  obtain⟨f0,f1,f2,f3,f4,f5⟩:=hf it (by simp)
  have he':IsItemIter s.heap it d i vs.length ep ok ov:=by rw[hl];exact he
  refine wpAny_pyNext_items_item he' hat hu fun key h₁ hkey heo ht₁ hz₁ hk₁=>?_
  have hlt:it < s.heap.objs.size:=Heap.lt_size he
  have I1:Inv X pins σ (upd H s.heap.objs.size (.tup [kV k0,v0])) {s with heap:=s.heap.push {cls:= .type "tuple",data:= .seq #[key,u]},toks:=s.toks}:=
   I.laid (t':=s.toks) (fun b o eb=>Heap.get?_push_of_some _ eb) (qO_ _) ⟨by rw[sizeLine_eq];exact qP_ rfl,[key,u],.cons (BR hkey) (.cons ru .nil),⟨_,Heap.get?_push_size _ rfl,rfl,_,rfl⟩⟩
  have g0:upd H s.heap.objs.size (.tup [kV k0,v0]) it=none:=by rw[aE (Nat.ne_of_lt hlt)];exact f0
  have I2:Inv X pins σ (upd H s.heap.objs.size (.tup [kV k0,v0])) {s with heap:=h₁,toks:=s.toks}:=by
   refine Inv.turned (s:={s with heap:=s.heap.push {cls:= .type "tuple",data:= .seq #[key,u]},toks:=s.toks}) (h':=h₁) (t':=s.toks) (it:=it) I1 (fun b o hb eb=>?_) g0 f1 f3 f4 f5
   rcases Heap.get?_push_cases eb with ⟨z1,z2⟩ |z
   · rw[z1,z2];exact ht₁
   · exact hk₁ b o hb z
  refine⟨_,rfl,wpAny_letOwnedTupleGo_items heo fun h₂ he₂ hs₂=>?_⟩
  have hs₂:Heap.SameBut it h₁ h₂:=hs₂
  have I3:Inv X pins σ (upd H s.heap.objs.size (.tup [kV k0,v0])) {s with heap:=h₂,toks:=s.toks}:=I2.turned (t':=s.toks) (fun b o hb eb=>(hs₂.2 b hb).trans eb) g0 f1 f3 f4 f5
  refine⟨.ref s.heap.objs.size,_,I3,rfl,⟨k0,v0,s.heap.objs.size,hkv,I.hok.fresh (qO_ _),rfl,rfl⟩,⟨key,u,by rw[<-hl];exact he₂⟩,fun b hb=>?_⟩
  have e:b=it:=by simpa using hb
  subst e
  exact g0
 done:=by
  intro X hP hw hK hc i pins s σ H E I hf st hg
  subst hP hw hK
  obtain⟨ok,ov,he⟩:=st
  obtain⟨hd,hi⟩:=hg
  obtain⟨vs,rv,hat,hl⟩:=zW I hob hd
  obtain⟨f0,f1,f2,f3,f4,f5⟩:=hf it (by simp)
  have he':IsItemIter s.heap it d i vs.length ep ok ov:=by rw[hl];exact he
  exact wpAny_pyNext_items_end (I.ok.hd hc) he' hat (List.getElem?_eq_none (by omega)) fun h' eb=>⟨rfl,I.turned (t':=s.toks) (fun b o hb e=>eb b o hb e) f0 f1 f3 f4 f5⟩
 self:=fun A i s Q E st h=>by
  obtain⟨ok,ov,he⟩:=st
  have hT:s.TypeIs (.ref it) "dict_itemiterator":=⟨_,he,rfl⟩
  refine wpAny_pyIter_slot hT PySem.F.slot_dict_itemiterator_iter (wpAny_call_entry PySem.F.slot_dict_itemiterator_iter hT HT.k6 ?_ (PySem.F.args_dict_itemiterator_iter_1 _))
  show wpAny _ _ (ret (.ref it)) _ _ s
  exact wpAny_pure ⟨_,rfl,"dict_itemiterator",_,hT,PySem.F.slot_dict_itemiterator_next.lookup,h⟩
section
variable{X:Cx}{pins:List (Addr×Obj)}{σ:St}{H:Hp}{s:Shared}{d:Addr}{kvs:List (Key×V)}
theorem Inv.freeze{ob:Obj}(I:Inv X pins σ H s)(hd:H d=some (.dK kvs))(hg:s.heap.get? d=some ob):Inv X pins σ (upd H d (.frz ob (.dK kvs))) s:=by
 have old:=(show bJ X.prog X.w H s.heap d (.dK kvs)from I.hok d _ hd)
 have:=I.write (x:=d) (e:=d) (o:= .frz ob (.dK kvs)) (h':=s.heap) (t':=s.toks) (by rw[hd];exact True.intro) (.inl rfl) (fun b u _ e=>e) ⟨ob,hg⟩ ⟨hg,old⟩
 exact this
theorem Inv.Jp(I:Inv X pins σ H s)(hd:H d=some (.dK kvs)):∀o u,X.H₀ d≠some (.frz o u):=fun o u z=>by
 have:=I.base.oa d o u z
 rw[hd]at this;cases this
theorem Inv.rH{ob:Obj}(I:Inv X pins σ H s)(hd:H d=some (.frz ob (.dK kvs)))(nf:∀o u,X.H₀ d≠some (.frz o u)):Inv X pins σ (upd H d (.dK kvs)) s:=by
 have ne:∀b,H b=none->b≠d:=fun b n z=>by rw[z,hd]at n;cases n
 obtain⟨hg,old⟩:=(show bJ X.prog X.w H s.heap d (.frz ob (.dK kvs))from I.hok d _ hd)
 refine⟨I.ok,I.os,I.bare,⟨I.base.keep,I.base.slot,fun b o q n nx=>?_,I.base.there,fun b xs q=>?_,fun b o u q=>?_,fun b ps q=>?_⟩,I.loc,I.cell,by rw[aE (ne _ I.free)];exact I.free,fun x c e=>by rw[aE (ne _ (I.fS x c e))];exact I.fS x c e,fun p hp=>?_,fun b u q=>?_,I.len⟩
 · have:=I.base.free b o q n nx
   rw[aE (ne _ this)];exact this
 · have:=I.base.pX b xs q
   rw[aE (by rintro rfl;rw[hd]at this;cases this)];exact this
 · have:=I.base.oa b o u q
   by_cases z:b=d
   · subst z;exact absurd q (nf o u)
   · rw[aE z];exact this
 · obtain⟨more,this⟩:=I.base.qA b ps q
   exact⟨more,by rw[aE (by rintro rfl;rw[hd]at this;cases this)];exact this⟩
 · obtain⟨a1,a2,a3⟩:=I.pin p hp
   exact⟨a1,by rw[aE (ne _ a2)];exact a2,a3⟩
 · by_cases z:b=d
   · subst z
     rw[aF]at q
     cases q
     exact old
   · rw[aE z]at q
     refine(I.hok b u q).gO (fun c v hc w=>w) (fun c w=>?_) fun c xs w=>?_
     · rw[aE (by rintro rfl;rw[hd]at w;cases w)];exact w
     · rw[aE (by rintro rfl;rw[hd]at w;cases w)];exact w
end
def Ha(X:Cx)(to:TE):TI:=fun σ H R=>to σ H fun x H1=>∃d kvs,x= .ref d/\H1 d=some (.dK kvs)/\∀ob,(∀o u,X.H₀ d≠some (.frz o u))->R (Itd d ob kvs) (upd H1 d (.frz ob (.dK kvs)))
theorem Aa{X:Cx}{o:Expr}{elts:List Expr}{k:Nat}{ptg apos ipos:Pos}{to:TE}(ho:PE X o to)(hbase:attributeBase o "items" X.env (eval o X.env)=eval o X.env:=by rfl)(hline:(apos.endLine==ipos.line)=true:=by rfl):
 PI X (.Tuple elts k ptg) (.Call (.Attribute o "items" apos) [] [] ipos) (Ha X to):=by
 intro pins s σ H R I h
 refine wpAny_Call_method0_late hbase hline (thn (ho pins s σ H _ I h) fun v s1 ⟨x,H1,I1,r1,d,kvs,e,hd,q⟩=>?_)
 subst e
 cases r1
 obtain⟨h1,h2⟩:=xb I1 (x:= .ref d) rfl (T:="dict") (.inr (.inr (.inl ⟨rfl,.inl ⟨kvs,hd⟩⟩)))
 refine⟨"dict","dict.items",PySem.F.plainAttrs_dict,PySem.F.slot_dict_items,PySem.F.type_dict_items,h1,h2,Calls.callWith_builtin rfl (PySem.evalArgs_none ?_)⟩
 obtain⟨hz,hS,vs,rv,dd⟩:=Bd I1.hok hd
 refine call_meetsIn PySem.F.slot_dict_items dd.typeIs PySem.F.entry_dict_items (PySem.F.args_dict_items_1 _) (meets_dict_items (bN X.prog X.w) d hS) ⟨⟨vs,dd⟩,?_⟩
 obtain⟨ep,hat⟩:=dd.dictAt
 obtain⟨ob,es,hg,hc,hob,r⟩:=id hat
 have I2:Inv X pins σ H1 {s1 with heap:=s1.heap.push {cls:= .type "dict_items",data:= .fields #[.ref d]}}:=I1.kept (t':=s1.toks) fun b u e=>Heap.get?_push_of_some _ e
 refine wpAny_pyIter_items (knd:=bN X.prog X.w) (d:=d) (kvs:=vs) (ep:=ep) ⟨_,Heap.get?_push_size _ rfl,rfl,rfl⟩ (hat.push _) ?_
 have I3:Inv X pins σ H1 {s1 with heap:=(s1.heap.push {cls:= .type "dict_items",data:= .fields #[.ref d]}).push {cls:= .type "dict_itemiterator",data:= .fields #[.none,.bool false,.ref d,.int 0 0,.int vs.length 0,.int ep 0,.none,.none]}}:=I2.kept (t':=s1.toks) fun b u e=>Heap.get?_push_of_some _ e
 have I4:=I3.freeze (ob:=ob) hd (Heap.get?_push_of_some _ (Heap.get?_push_of_some _ hg))
 refine⟨(s1.heap.push {cls:= .type "dict_items",data:= .fields #[.ref d]}).objs.size,[(s1.heap.push {cls:= .type "dict_items",data:= .fields #[.ref d]}).objs.size],_,_,_,rfl,I4,wW d _ ob kvs es ep hob,⟨.none,.none,?_⟩,fun b hb=>?_,q ob (I1.Jp hd)⟩
 · rw[rv.length];exact Heap.get?_push_size _ rfl
 · have e:b=(s1.heap.push {cls:= .type "dict_items",data:= .fields #[.ref d]}).objs.size:=by simpa using hb
   subst e
   refine I2.AA (qO_ _) ?_
   have hn:=I2.hok.fresh (qO_ (s1.heap.push {cls:= .type "dict_items",data:= .fields #[.ref d]}).objs.size)
   rw[aE (by intro z;rw[z]at hn;rw[hd]at hn;cases hn)]
   exact hn
end L2
namespace L3
open PySem PySem.Spec PyProof.Rows L2 PySem.SeqAt
section
variable{X:Cx}{T:Tab}{Y:EX}{a b e o i:Expr}{es:List Expr}{fa fb fc:M3.E3}{ft:M3.T3}{f3:M3.A3}{pos pos' p p2 apos ipos:Pos}
theorem xf:PE X e (tE T X.K Y M3.AH):=fun pins s σ H Q I ⟨μ,σ3,G,S,sd,h⟩=>False.elim h
theorem Up.rH{μ μ1:List Addr}{H H1:Hp}{a:Addr}{n:Nat}{ob:Obj}{ws:List (L2.Key×V)}(ea:μ[n]? =some a)(ha:H a=some (.dK ws))(u:Up μ μ1 (upd H a (.frz ob (.dK ws))) H1):Up μ μ1 H (upd H1 a (.dK ws)):=by
 refine⟨u.pre,⟨fun b xs e=>?_,fun b q w e=>?_⟩,fun b w e nb=>?_⟩
 · have hb:b≠a:=by rintro rfl;rw[ha]at e;cases e
   rw[aE hb];exact u.keeps.tup b xs (by rw[aE hb];exact e)
 · have hb:b≠a:=by rintro rfl;rw[ha]at e;cases e
   rw[aE hb];exact u.keeps.frz b q w (by rw[aE hb];exact e)
 · have hb:b≠a:=by rintro rfl;exact nb (qD_ ea)
   rw[aE hb];exact u.rest b w (by rw[aE hb];exact e) nb
theorem Sim.rH{K:PySem.W.Frag}{μ:List Addr}{H:Hp}{G:M3.Hh}{n:Nat}{a:Addr}{ob:Obj}{kvs:List (M3.Key×M3.D)}{ws:List (L2.Key×V)}(S:Sim T K μ H G)(ea:μ[n]? =some a)(hn:G[n]? =some (.dF kvs))(ha:H a=some (.frz ob (.dK ws)))
 (k:Keeps H (upd H a (.dK ws))\/True) (r:Paired (fun(p:M3.Key×M3.D) (q:L2.Key×V)=>p.1=q.1/\Den K (upd H a (.dK ws)) μ p.2 q.2) kvs ws)
 (kd:∀d v,Den K H μ d v->Den K (upd H a (.dK ws)) μ d v) (kds:∀ds vs,ax K H μ ds vs->ax K (upd H a (.dK ws)) μ ds vs):Sim T K μ (upd H a (.dK ws)) (G.set n (.dK kvs)):=by
 have hl:=(qB_.mp hn).1
 refine⟨by rw[qX_];exact S.len,fun m b o q1 q2=>?_,fun m j b o1 o2 hmj q1 q2 q3 q4=>?_⟩
 · by_cases h:m=n
   · subst h
     rw[ea]at q1
     cases q1
     rw[qU_ hl]at q2
     cases q2
     exact⟨ws,aF,r⟩
   · rw[qV_ (Ne.symm h)]at q2
     have od:=S.obj m b o q1 q2
     have gO:isF o=false->∀x,H b=some x->upd H a (.dK ws) b=some x:=fun hf x z=>by
      have hb:b≠a:=by
       rintro rfl
       rcases S.inj m n b o (.dF kvs) h q1 ea q2 hn with z |z
       · rw[hf]at z;cases z
       · cases z
      rw[aE hb];exact z
     cases o with
     |lst xs=>obtain⟨vs,e1,rr⟩:=od;exact⟨vs,gO rfl _ e1,kds _ _ rr⟩
     |frz xs=>
      obtain⟨vs,e1,rr⟩:=od
      refine⟨vs,?_,kds _ _ rr⟩
      rcases e1 with ⟨o',e1⟩ |e1
      · have hb:b≠a:=by rintro rfl;rw[ha]at e1;cases e1
        exact .inl ⟨o',by rw[aE hb];exact e1⟩
      · exact .inr e1
     |dK xs=>obtain⟨vs,e1,rr⟩:=od;exact⟨vs,gO rfl _ e1,Paired.imp' (fun _ _ z=>⟨z.1,kd _ _ z.2⟩) rr⟩
     |dF xs=>obtain⟨o',vs,e1,rr⟩:=od;exact⟨o',vs,gO rfl _ e1,Paired.imp' (fun _ _ z=>⟨z.1,kd _ _ z.2⟩) rr⟩
     |dT xs=>obtain⟨vs,e1,rr⟩:=od;exact⟨vs,gO rfl _ e1,Paired.imp' (fun p q z=>⟨z.1,(by obtain⟨b',us,e',sq,ds⟩:=kd (.tup (p.1.map M3.D.int)) (.ref q.2.1) ⟨_,_,rfl,z.2.1,ax.s8⟩;cases e';rw[ax.ints ds]at sq;exact sq),let ⟨v,x,y⟩:=z.2.2;⟨v,kd _ _ x,y⟩⟩) rr⟩
     |ins C fs=>obtain⟨Ca,dx,vs,hc,e1,rr⟩:=od;exact⟨Ca,dx,vs,hc,gO rfl _ e1,Paired.imp' (fun _ _ z=>⟨z.1,kd _ _ z.2⟩) rr⟩
 · have back:∀(m:Nat) o,(G.set n (.dK kvs))[m]? =some o->∃o',G[m]? =some o'/\isF o'=isF o:=fun m o q=>by
    by_cases h:m=n
    · subst h
      rw[qU_ hl]at q
      cases q
      exact⟨_,hn,rfl⟩
    · rw[qV_ (Ne.symm h)]at q
      exact⟨o,q,rfl⟩
   obtain⟨p1,r1,f1⟩:=back m o1 q3
   obtain⟨p2,r2,f2⟩:=back j o2 q4
   rw[<-f1,<-f2]
   exact S.inj m j b p1 p2 hmj q1 q2 r1 r2
mutual
theorem Den.off{K:PySem.W.Frag}{μ:List Addr}{H:Hp}{a:Addr}{ob:Obj}{ws:List (L2.Key×V)}(ha:H a=some (.frz ob (.dK ws))):∀{d:M3.D} {v:V},Den K H μ d v->Den K (upd H a (.dK ws)) μ d v
 | .non,_,h=>h
 | .bl _,_,h=>h
 | .int _,_,h=>h
 | .str _,_,h=>h
 | .ref _,_,h=>h
 | .tup ds,_,⟨b,vs,e,h,r⟩=>by
   refine⟨b,vs,e,?_,ax.off ha r⟩
   rcases h with (h |⟨o,h⟩) |h
   · exact .inl (.inl (by rw[aE (by rintro rfl;rw[ha]at h;cases h)];exact h))
   · exact .inl (.inr ⟨o,by rw[aE (by rintro rfl;rw[ha]at h;cases h)];exact h⟩)
   · exact .inr h
theorem ax.off{K:PySem.W.Frag}{μ:List Addr}{H:Hp}{a:Addr}{ob:Obj}{ws:List (L2.Key×V)}(ha:H a=some (.frz ob (.dK ws))):∀{ds:List M3.D} {vs:List V},ax K H μ ds vs->ax K (upd H a (.dK ws)) μ ds vs
 | [],_,h=>h
 |_ :: _,_,⟨v,r,e,h,t⟩=>⟨v,r,e,Den.off ha h,ax.off ha t⟩
end
theorem yH{α β:Type}{R:α->β->Prop}:∀{xs:List α} {ys:List β} {i:Nat} {x:α},Paired R xs ys->xs[i]? =some x->∃y,ys[i]? =some y/\R x y
 |_,_,_,_,.nil,e=>by simp at e
 |_,_,0,_,.cons h t,e=>by simp at e;subst e;exact⟨_,rfl,h⟩
 |_,_,i+1,_,.cons h t,e=>by
  obtain⟨y,h1,h2⟩:=yH (i:=i) t (by simpa using e)
  exact⟨y,by simpa using h1,h2⟩
theorem Bk{Z:Nat->M3.Hh->Prop}{n:Nat}{kvs:List (M3.Key×M3.D)}{m:M3.M (M3.Fl×M3.St)}{G:M3.Hh}{P:M3.Fl×M3.St->M3.Hh->Prop}(h:M3.run (M3.uI n kvs m) G P Z):
 M3.run m (G.set n (.dF kvs)) (fun p G'=>G'[n]? =some (.dF kvs)/\P p (G'.set n (.dK kvs))) (fun _ _=>False):=by
 unfold M3.run M3.uI at*
 cases q:m (G.set n (.dF kvs))with
 |none=>rw[q]at h;exact h
 |some z=>
  obtain⟨o,G1⟩:=z
  rw[q]at h
  cases o with
  |ok a=>
   dsimp only at h ⊢
   by_cases c:G1[n]? =some (.dF kvs)
   · rw[if_pos c]at h;exact⟨c,h⟩
   · rw[if_neg c]at h;exact False.elim h
  |exc c=>exact False.elim h
def EA(X:Cx)(D:Ends):Ends where
 nx:=fun σ H=>∃d ob kvs,H d=some (.frz ob (.dK kvs))/\(∀o u,X.H₀ d≠some (.frz o u))/\D.nx σ (upd H d (.dK kvs))
 rt:=fun v H=>∃d ob kvs,H d=some (.frz ob (.dK kvs))/\(∀o u,X.H₀ d≠some (.frz o u))/\D.rt v (upd H d (.dK kvs))
 bk:=fun σ H=>∃d ob kvs,H d=some (.frz ob (.dK kvs))/\(∀o u,X.H₀ d≠some (.frz o u))/\D.bk σ (upd H d (.dK kvs))
 ct:=fun σ H=>∃d ob kvs,H d=some (.frz ob (.dK kvs))/\(∀o u,X.H₀ d≠some (.frz o u))/\D.ct σ (upd H d (.dK kvs))
theorem SP.rH{pins:List (Addr×Obj)}{D:Ends}{f:Flow}{s':Shared}(h:SP X pins (EA X D) f s'):SP X pins D f s':=by
 cases f with
 |next=>obtain⟨σ',H',I,d,ob,kvs,hd,nf,q⟩:=h;exact⟨σ',_,I.rH hd nf,q⟩
 |brk=>obtain⟨σ',H',I,d,ob,kvs,hd,nf,q⟩:=h;exact⟨σ',_,I.rH hd nf,q⟩
 |cont=>obtain⟨σ',H',I,d,ob,kvs,hd,nf,q⟩:=h;exact⟨σ',_,I.rH hd nf,q⟩
 |ret u=>obtain⟨v,σ',H',I,r,d,ob,kvs,hd,nf,q⟩:=h;exact⟨v,σ',_,I.rH hd nf,r,q⟩
theorem Di{elts:List Expr}{k:Nat}{ptg:Pos}{body:List Stmt}{g:M3.D->M3.St->M3.M M3.St}{f:M3.S3}(hp:PassesOwn (model X.prog X.w) X.A X.env X.xe)(hc:X.calm=true)(ho:PE X o (tE T X.K Y fa))(hg:PG X (.Tuple elts k ptg) (tG T X.K Y g))(hb:PSs X body (tS T X.K Y f))
 (hbase:attributeBase o "items" X.env (eval o X.env)=eval o X.env:=by rfl) (hline:(apos.endLine==ipos.line)=true:=by rfl)
 (hs:∀x,foldedSetIterable (.Call (.Attribute o "items" apos) [] [] ipos) X.env x=pure x:=by intro _;rfl):PS X (.For (.Tuple elts k ptg) (.Call (.Attribute o "items" apos) [] [] ipos) body [] pos) (tS T X.K Y (M3.xt fa g f)):=by
 intro pins s σ H D I ⟨μ,σ3,G,S,sd,h⟩
 refine wpAny_mono (Av hp hc (Aa (elts:=elts) (k:=k) (ptg:=ptg) (apos:=apos) (ipos:=ipos) ho hbase hline) hg hb hs pins s σ H (EA X D) I ⟨μ,σ3,G,S,sd,bi h fun x G1 v H1 μ1 u1 S1 d1 h1=>?_⟩) (fun _ _ z=>SP.rH z) fun _ _ z=>z
 unfold M3.xw at h1
 cases x with
 |ref n=>
  obtain⟨c,ec,rfl⟩:=d1
  have h1:M3.run (fun G=>match G[n]? with
   |some (.dK kvs)=>M3.uI n kvs (M3.forL (fun _=>true) (fun x σ=>M3.bnd (g x σ) f) (M3.eO kvs) σ3) G
   |_=>none) G1 (eB T X.K μ H D) (Y.x μ1 H1):=h1
  unfold M3.run at h1
  dsimp only at h1
  cases q:G1[n]? with
  |none=>rw[q]at h1;exact False.elim h1
  |some ob1=>
   have od:=S1.obj n c ob1 ec q
   rw[q]at h1
   cases ob1 with
   |dK kvs=>
    obtain⟨ws,e1,r⟩:=od
    refine⟨c,ws,rfl,e1,fun ob nf=>?_⟩
    have hw:=Bk (P:=eB T X.K μ H D) (Z:=Y.x μ1 H1) h1
    have u2:Up μ1 μ1 H1 (upd H1 c (.frz ob (.dK ws))):=Up.set S1 _ ec q rfl
    have S2:Sim T X.K μ1 (upd H1 c (.frz ob (.dK ws))) (G1.set n (.dF kvs)):=S1.set ec q rfl rfl ⟨ob,ws,aF,Paired.imp' (fun _ _ z=>⟨z.1,Den.up u2 z.2⟩) r⟩
    have len:(M3.eO kvs).length=ws.length:=by unfold M3.eO;rw[qM_];exact Paired.length r
    refine⟨fun i m σ' H'=>m=ws.length - i/\i<=ws.length/\∃μ' σ3' G',Up μ1 μ' (upd H1 c (.frz ob (.dK ws))) H'/\Sim T X.K μ' H' G'/\StD X.K H' μ' σ3' σ'/\M3.run (M3.forL (fun _=>true) (fun x σ=>M3.bnd (g x σ) f) ((M3.eO kvs).drop i) σ3') G' (fun p G'=>G'[n]? =some (.dF kvs)/\eB T X.K μ H D p (G'.set n (.dK kvs))) (Y.x μ' H'),
     ⟨_,rfl,qf_ _,μ1,σ3,_,Up.refl _ _,S2,(sd.up u1).up u2,M3.ao hw (fun _ _ z=>z) fun _ _ z=>z.elim⟩,?_⟩
    have fin:∀{σ':L2.St} {H':Hp} {μ':List Addr} {p:M3.Fl×M3.St} {G':M3.Hh},Up μ1 μ' (upd H1 c (.frz ob (.dK ws))) H'->Sim T X.K μ' H' G'->G'[n]? =some (.dF kvs)->eB T X.K μ H D p (G'.set n (.dK kvs))->
     H' c=some (.frz ob (.dK ws))/\eB T X.K μ' (upd H' c (.dK ws)) D p (G'.set n (.dK kvs))/\Sim T X.K μ' (upd H' c (.dK ws)) (G'.set n (.dK kvs))/\(StD X.K H' μ' p.2 σ'->StD X.K (upd H' c (.dK ws)) μ' p.2 σ'):=by
     intro σ' H' μ' p G' u' S' hn hP
     have hf:H' c=some (.frz ob (.dK ws)):=u'.keeps.frz c ob _ aF
     have ut:Up μ1 μ' H1 (upd H' c (.dK ws)):=Up.rH ec e1 u'
     refine⟨hf,hP.up (u1.trans ut),Sim.rH S' (u'.at ec) hn hf (.inr True.intro) (Paired.imp' (fun _ _ z=>⟨z.1,Den.up ut z.2⟩) r) (fun _ _ z=>Den.off hf z) fun _ _ z=>ax.off hf z,fun sd'=>⟨sd'.len,fun i d e=>let ⟨v,e1,dv⟩:=sd'.at_ i d e;⟨v,e1,Den.off hf dv⟩⟩⟩
    rintro i m σ' H' ⟨rfl,hi,μ',σ3',G',u',S',sd',q'⟩
    have hf:H' c=some (.frz ob (.dK ws)):=u'.keeps.frz c ob _ aF
    by_cases hlt:i < ws.length
    · rw[List.drop_eq_getElem_cons (by rw[len];exact hlt)]at q'
      obtain⟨_,q2⟩:=rX q'
      have ex:(M3.eO kvs)[i]? =some ((M3.eO kvs)[i]'(by rw[len];exact hlt)):=qA_ _
      generalize (M3.eO kvs)[i]'(by rw[len];exact hlt)=it at ex q2
      refine .inr ⟨⟨hf,hlt⟩,fun σ2 H2=>∃μ2 σ4 G2,Up μ1 μ2 (upd H1 c (.frz ob (.dK ws))) H2/\Sim T X.K μ2 H2 G2/\StD X.K H2 μ2 σ4 σ2/\M3.run (M3.forL (fun _=>true) (fun x σ=>M3.bnd (g x σ) f) ((M3.eO kvs).drop (i+1)) σ4) G2 (fun p G'=>G'[n]? =some (.dF kvs)/\eB T X.K μ H D p (G'.set n (.dK kvs))) (Y.x μ2 H2),
       fun σ2 H2 hN=>⟨_,by omega,rfl,hlt,hN⟩,fun x H'' y=>?_⟩
      obtain⟨k0,v0,t,hkv,ht,rfl,rfl⟩:=y
      have sm:fO H' (upd H' t (.tup [kV k0,v0])):=fO.new _ ht
      have us:Up μ' μ' H' (upd H' t (.tup [kV k0,v0])):=Up.same sm
      have dit:Den X.K (upd H' t (.tup [kV k0,v0])) μ' it (.ref t):=by
       unfold M3.eO at ex
       rw[qQ_]at ex
       cases z:kvs[i]? with
       |none=>rw[z]at ex;cases ex
       |some kd=>
        rw[z]at ex
        cases ex
        obtain⟨q0,z2,h2,h3⟩:=yH r z
        rw[hkv]at z2
        cases z2
        obtain⟨kk,dd⟩:=kd
        have h2:kk=k0:=h2
        subst h2
        refine⟨t,[kV kk,v0],rfl,SqT.of aF,⟨_,_,rfl,?_,_,_,rfl,Den.up us (Den.up u' (Den.up u2 h3)),rfl⟩⟩
        cases kk <;> rfl
      refine⟨μ',σ3',G',_,S'.same sm,sd'.up us,dit,cm (Y.upE us (M3.aN (M3.aN q2))) fun σ5 G5 q5 σ6 H6 μ6 u6 S6 sd6=>?_⟩
      have u6:=us.trans u6
      refine⟨μ6,σ5,G5,S6,sd6,cm (Y.upE u6 q5) fun p G7 q7 σ7 H7 μ7 u7 S7 sd7=>?_⟩
      obtain⟨fl,σ8⟩:=p
      have up:=u'.trans (u6.trans u7)
      cases fl with
      |next=>exact⟨μ7,σ8,G7,up,S7,sd7,Y.upE (u6.trans u7) q7⟩
      |cont=>exact⟨μ7,σ8,G7,up,S7,sd7,Y.upE (u6.trans u7) q7⟩
      |brk=>
       obtain⟨hn,hP⟩:=q7
       obtain⟨z1,z2,z3,z4⟩:=fin (σ':=σ7) up S7 hn hP
       exact⟨c,ob,ws,z1,nf,z2 σ7 _ μ7 (Up.refl _ _) z3 (z4 sd7)⟩
      |ret d=>
       obtain⟨hn,hP⟩:=q7
       obtain⟨z1,z2,z3,z4⟩:=fin (σ':=σ7) up S7 hn hP
       exact fun v dv=>⟨c,ob,ws,z1,nf,z2 σ7 _ μ7 (Up.refl _ _) z3 (z4 sd7) v (Den.off z1 dv)⟩
    · have e:i=ws.length:=by omega
      subst e
      rw[<-len,List.drop_length]at q'
      obtain⟨_,hn,hP⟩:=vC q'
      obtain⟨z1,z2,z3,z4⟩:=fin (σ':=σ') u' S' hn hP
      exact .inl ⟨⟨hf,qO_ _⟩,c,ob,ws,z1,nf,z2 σ' _ μ' (Up.refl _ _) z3 (z4 sd')⟩
   |_=>exact False.elim h1
 |_=>exact False.elim h1
theorem gk(K:PySem.W.Frag)(k:M3.Kd):∀cs:List M3.Kd,PySem.W.kitAny K (.type (kn k)) (cs.map fun c=>Value.type (kn c))=some (cs.any (M3.lx k ·))
 | []=>rfl
 |c :: r=>by
  show (match PySem.W.kitOne K (.type (kn k)) (.type (kn c))with
   |some true=>some true
   |some false=>PySem.W.kitAny K (.type (kn k)) (r.map fun c=>Value.type (kn c))
   |none=>none)=_
  rw[jj,List.any_cons]
  cases M3.lx k c with
  |true=>rfl
  |false=>rw[Bool.false_or];exact gk K k r
theorem yk:∀{cs:List M3.Kd} {us:List Value},Vals (cs.map fun c=>V.ty (kn c)) us->us=cs.map fun c=>Value.type (kn c)
 | [],_,h=>by cases h;rfl
 |c :: r,_,h=>by
  cases h with
  |cons h t=>
   rw[List.map_cons,<-yk t]
   congr 1
theorem Cn:fL X (.builtin "isinstance") (fun xs H Q=>∃x k,∃cs:List M3.Kd,∃t,xs=[x,.ref t]/\H t=some (.tup (cs.map fun c=>V.ty (kn c)))/\TyD X.K H x k/\Q (.bl (cs.any (M3.lx k ·))) H):=by
 intro pins s σ H xs us Q I r h
 obtain⟨x,k,cs,t,rfl,htu,ty,q⟩:=h
 obtain⟨u,w',rfl,ru,rc⟩:=vals2 r
 cases (show w'=Value.ref t from rc)
 obtain⟨_,its,rv,⟨⟨oc,od,odt,osl⟩,ho,hcl,nn,hdt⟩⟩:=(show bJ X.prog X.w H s.heap t (.tup _)from I.hok t _ htu)
 have hcl:oc= .type "tuple":=hcl
 have hdt:odt= .seq its.toArray nn:=hdt
 subst hcl hdt
 rw[yk rv]at ho
 have fin:∀tk,EP X pins σ Q (.bool (cs.any (M3.lx k ·))) {s with toks:=tk}:=fun tk=>⟨.bl _,H,I.tok tk,rfl,q⟩
 cases x with
 |non=>cases (show u=Value.none from ru);cases (show k= .non from ty);exact PySem.W.kia_tup PySem.W.kitx_none I.kIn True.intro ho (gk X.K .non cs) (fun z=>nomatch z) fin
 |bl y=>cases (show u=Value.bool y from ru);cases (show k= .bl from ty);exact PySem.W.kia_tup PySem.W.kitx_bool I.kIn True.intro ho (gk X.K .bl cs) (fun z=>nomatch z) fin
 |int y=>obtain⟨t,rfl⟩:=(show ∃t,u=Value.int y t from ru);cases (show k= .int from ty);exact PySem.W.kia_tup PySem.W.kitx_int I.kIn True.intro ho (gk X.K .int cs) (fun z=>nomatch z) fin
 |str y=>obtain⟨t,rfl⟩:=(show ∃t,u=Value.str y t from ru);cases (show k= .str from ty);exact PySem.W.kia_tup PySem.W.kitx_str I.kIn True.intro ho (gk X.K .str cs) (fun z=>nomatch z) fin
 |ref a=>
  cases (show u=Value.ref a from ru)
  rcases ty with ⟨rfl,xs,sq⟩ |⟨rfl,xs,sq⟩ |⟨rfl,⟨kvs,ea⟩ |⟨kvs,ea⟩⟩
  · obtain⟨its,_,⟨ob,n,h1,h2,_⟩,_⟩:=I.list sq
    exact PySem.W.kia_tup PySem.W.kitx_list I.kIn ⟨ob,h1,h2⟩ ho (gk X.K .lst cs) (fun z=>nomatch z) fin
  · obtain⟨its,_,⟨ob,h1,h2,_⟩,_⟩:=I.tuple sq
    exact PySem.W.kia_tup PySem.W.kitx_tuple I.kIn ⟨ob,h1,h2⟩ ho (gk X.K .tup cs) (fun z=>nomatch z) fin
  · obtain⟨_,_,vs,_,pd⟩:=(show bJ X.prog X.w H s.heap a (.dK kvs)from I.hok a _ ea)
    obtain⟨ob,es,ep,h1,h2,_⟩:=pd
    exact PySem.W.kia_tup PySem.W.kitx_dict I.kIn ⟨ob,h1,h2.1⟩ ho (gk X.K .dic cs) (fun z=>nomatch z) fin
  · obtain⟨_,_,xs,_,ob,es,ep,h1,h2,_⟩:=(show bJ X.prog X.w H s.heap a (.dT kvs)from I.hok a _ ea)
    exact PySem.W.kia_tup PySem.W.kitx_dict I.kIn ⟨ob,h1,h2.1⟩ ho (gk X.K .dic cs) (fun z=>nomatch z) fin
 |_=>exact False.elim ty
theorem GL(c1 c2:M3.Kd){n1 n2:Str}{q1 q2 pt:Pos}{x1:Nat}(hi:X.mg "isinstance"=none)(hm1:X.mg n1=none)(hm2:X.mg n2=none)(ha:PE X e (tE T X.K Y fa))
 (hn1:bootBuiltins n1=some (.type (kn c1)):=by first |exact boot_int |exact boot_bool |exact boot_str |exact boot_tuple |exact boot_list |exact boot_dict) (hn2:bootBuiltins n2=some (.type (kn c2)):=by first |exact boot_int |exact boot_bool |exact boot_str |exact boot_tuple |exact boot_list |exact boot_dict)
 (hg:Gl X "isinstance":=by rfl) (hg1:Gl X n1:=by rfl) (hg2:Gl X n2:=by rfl) (hN1:n1≠"__name__":=by decide) (hN2:n2≠"__name__":=by decide) (hdb1:(n1==("__debug__":Str))=false:=by decide) (hdb2:(n2==("__debug__":Str))=false:=by decide)
 (he:starEach [e,.Tuple [.Name n1 q1,.Name n2 q2] x1 pt] X.env=(false,eval e X.env) :: starEach [.Tuple [.Name n1 q1,.Name n2 q2] x1 pt] X.env:=by rfl) (he2:starEach [.Tuple [.Name n1 q1,.Name n2 q2] x1 pt] X.env=(false,eval (.Tuple [.Name n1 q1,.Name n2 q2] x1 pt) X.env) :: starEach [] X.env:=by rfl)
 (hs1:starEach [.Name n1 q1,.Name n2 q2] X.env=(false,eval (.Name n1 q1) X.env) :: starEach [.Name n2 q2] X.env:=by rfl) (hs2:starEach [.Name n2 q2] X.env=(false,eval (.Name n2 q2) X.env) :: starEach [] X.env:=by rfl)
 (hpl:(backTo pos (starEach [.Tuple [.Name n1 q1,.Name n2 q2] x1 pt] X.env)).any (·.1)=false:=by rfl):PE X (.Call (.Name "isinstance" p) [e,.Tuple [.Name n1 q1,.Name n2 q2] x1 pt] [] pos) (tE T X.K Y (M3.aw (M3.y9 [c1,c2]) (M3.aa fa M3.ai))):=by
 refine PE.of (pL Cn hg hi boot_isinstance (dJ ha (dJ (B7 (dJ (sQ hg1 hm1 hn1 (v:= .ty (kn c1)) rfl hN1 hdb1) (dJ (sQ hg2 hm2 hn2 (v:= .ty (kn c2)) rfl hN2 hdb2) jm hs2) hs1)) jm he2) he) (by decide) (by decide) he hpl) fun σ H Q ⟨μ,σ3,G,S,sd,h⟩=>?_
 refine⟨μ,σ3,G,S,sd,bi (M3.aN h) fun d G1 v H1 μ1 u1 S1 d1 h1=>?_⟩
 have h2:M3.run (M3.y9 [c1,c2] [d]) G1 (cJ T X.K μ H Q) (Y.x μ H):=h1
 unfold M3.run M3.y9 at h2
 dsimp only at h2
 cases q:M3.kdOf G1 d with
 |none=>rw[q]at h2;exact False.elim h2
 |some k=>
  rw[q]at h2
  refine⟨by rw[sizeLine_eq];exact qP_ rfl,fun t ht=>?_⟩
  have us:Up μ1 μ1 H1 (upd H1 t (.tup [.ty (kn c1),.ty (kn c2)])):=Up.same (fO.new _ ht)
  exact⟨v,k,[c1,c2],t,rfl,aF,Ex (S1.same (fO.new _ ht)) (Den.up us d1) q,h2 _ _ μ1 (u1.trans us) (S1.same (fO.new _ ht)) rfl⟩
end
open PySem PySem.Spec PyProof.Rows L2
theorem DL{X:Cx}{T:Tab}{Y:EX}{sts:List Stmt}:PSs X sts (tS T X.K Y M3.E4):=fun pins s σ H D I ⟨μ,σ3,G,S,sd,h⟩=>False.elim h
theorem x6{CX:CXT}{P:Program}{w:World}{K:PySem.W.Frag}{mg:Str->Option Value}{base:Heap}{N:List Str}{qual:Str}{scope:Scope}{fa:Addr}{cd:Value}{A:Around}{outer:List Env}{s:Shared}{H:Hp}{E:XK}:
 Own (lj CX P w K mg base N qual scope fa cd A outer s H E).nox:=⟨rfl,rfl,rfl,rfl⟩
def clF(cs xs:List Addr)(c:Nat):Option Addr:=if c < 1000 then cs[c]? else xs[c - 1000]?
theorem F8{cs xs:List Addr}{c:Nat}{Ca:Addr}(e:clF cs xs c=some Ca)(hc:c < 1000):Ca∈cs:=by
 unfold clF at e
 rw[if_pos hc]at e
 exact qD_ e
def clP(cs xs:List Addr):List (Addr×Nat):=cs.mapIdx (fun i a=>(a,i))++xs.mapIdx fun i a=>(a,1000+i)
theorem H4{cs xs:List Addr}{c:Nat}{Ca:Addr}(e:clF cs xs c=some Ca):(Ca,c)∈clP cs xs:=by
 unfold clF at e
 unfold clP
 by_cases hc:c < 1000
 · rw[if_pos hc]at e
   refine qF_ _ (qD_ (i:=c) ?_)
   rw[List.getElem?_mapIdx,e];rfl
 · rw[if_neg hc]at e
   refine qE_ _ (qD_ (i:=c - 1000) ?_)
   rw[List.getElem?_mapIdx,e]
   show some (Ca,1000+(c - 1000))=some (Ca,c)
   rw[show 1000+(c - 1000)=c by omega]
theorem mV{K:PySem.W.Frag}{cs xs:List Addr}{C:Addr}{k:Nat}(h:((clP cs xs).all fun p=>PySem.W.exmOne K (.ref p.1) (.ref C)==some (decide (p.2=k)))=true){c:Nat}{Ca:Addr}(e:clF cs xs c=some Ca):PySem.W.exmOne K (.ref Ca) (.ref C)=some (decide (c=k)):=
 eq_of_beq (List.all_eq_true.mp h _ (H4 e))
theorem getD_inj{L:List Str}(nd:L.Nodup)(ne:Str.empty∉L){f g:Nat}(hf:f < L.length)(h:L.getD g Str.empty=L.getD f Str.empty):g=f:=by
 have e1:L.getD f Str.empty=L[f]:=by rw[List.getD_eq_getElem?_getD,qA_ hf];rfl
 by_cases hg:g < L.length
 · have e2:L.getD g Str.empty=L[g]:=by rw[List.getD_eq_getElem?_getD,qA_ hg];rfl
   rw[e1,e2]at h
   exact(List.getElem_inj nd).mp h
 · have e2:L.getD g Str.empty=Str.empty:=by rw[List.getD_eq_getElem?_getD,List.getElem?_eq_none (by omega)];rfl
   rw[e1,e2]at h
   exact absurd (h ▸ List.getElem_mem hf) ne
theorem FH{L:List Str}{K:PySem.W.Frag}{cl:Nat->Option Addr}{Cs:List Addr}{f:Nat}(hcl:∀c Ca,cl c=some Ca->c < 1000->Ca∈Cs)(hC:∀Ca,Ca∈Cs->Cls K Ca/\∀x∈L,jo K Ca x)(nd:L.Nodup)(ne:Str.empty∉L)(hf:f < L.length):
 yw ⟨cl,fun g=>L.getD g Str.empty⟩ K f:=by
 refine⟨fun C Ca hlt e=>?_,fun g h=>getD_inj nd ne hf h⟩
 obtain⟨h1,h2⟩:=hC Ca (hcl C Ca e hlt)
 refine⟨h1,h2 _ ?_⟩
 show L.getD f Str.empty∈L
 rw[List.getD_eq_getElem?_getD,qA_ hf]
 exact List.getElem_mem hf
theorem Iq{L:List Str}{m:Str}(h:m∉L)(h0:m≠Str.empty)(g:Nat):L.getD g Str.empty≠m:=by
 intro e
 by_cases hg:g < L.length
 · rw[List.getD_eq_getElem?_getD,qA_ hg]at e
   exact h (e ▸ List.getElem_mem hg)
 · rw[List.getD_eq_getElem?_getD,List.getElem?_eq_none (by omega)]at e
   exact h0 e.symm
def AZ(nm:Nat->Str)(K:PySem.W.Frag)(n:Nat)(f:List M3.D->M3.M M3.D):Sp:=fun vs H Q E=>∀cl,sp3 ⟨cl,nm⟩ K n f vs H Q E
theorem HA{P:Program}{w:World}{K:PySem.W.Frag}{mg:Str->Option Value}{base:Heap}{CX:CXT}{k n:Nat}{fa:Addr}{fd:FuncData}{ps:List Str}{nm:Nat->Str}{f:List M3.D->M3.M M3.D}{cl:Nat->Option Addr}(F:aP P w K mg base CX k fa fd ps (sp3 ⟨cl,nm⟩ K n f)):
 aP P w K mg base CX k fa fd ps (AZ nm K n f):=F.imp fun vs H Q E q=>q cl
theorem Eh{nm:Nat->Str}{K:PySem.W.Frag}{f:List M3.D->M3.M M3.D}{n:Nat}(h:∀ns:List Int,ns.length<=n->M3.run (f [.ref 0]) [.frz (ns.map M3.D.int)] (fun d _=>d= .bl true) fun _ _=>False)
 {H:Hp} {a:Addr} {ns:List Int} (hl:ns.length<=n) (hO:A7 H) (sq:SqL K H a (ns.map V.int)):AZ nm K 1 f [.ref a] H (fun v _=>v= .bl true) fun _ _ _=>False:=fun cl=>F1 h hl hO sq
open PySem
theorem A4{xs:List Expr}{k:Nat}{p:Pos}{es:List Expr}{env:Env}:starEach (.Tuple xs k p :: es) env=(false,eval (.Tuple xs k p) env) :: starEach es env:=rfl
theorem Bi{xs:List Expr}{p:Pos}{es:List Expr}{env:Env}:starEach (.List xs p :: es) env=(false,eval (.List xs p) env) :: starEach es env:=rfl
theorem lX{c:Const}{k:Nat}{p:Pos}{es:List Expr}{env:Env}:starEach (.Constant c k p :: es) env=(false,eval (.Constant c k p) env) :: starEach es env:=rfl
theorem fk{x:Str}{p:Pos}{es:List Expr}{env:Env}:starEach (.Name x p :: es) env=(false,eval (.Name x p) env) :: starEach es env:=rfl
theorem ol{f:Expr}{as:List Expr}{ks:List Keyword}{p:Pos}{es:List Expr}{env:Env}:starEach (.Call f as ks p :: es) env=(false,eval (.Call f as ks p) env) :: starEach es env:=rfl
theorem AK{a b:Expr}{o:Operator}{p:Pos}{es:List Expr}{env:Env}:starEach (.BinOp a o b p :: es) env=(false,eval (.BinOp a o b p) env) :: starEach es env:=rfl
theorem pF{a b:Expr}{p:Pos}{es:List Expr}{env:Env}:starEach (.Subscript a b p :: es) env=(false,eval (.Subscript a b p) env) :: starEach es env:=rfl
theorem kH{a:Expr}{x:Str}{p:Pos}{es:List Expr}{env:Env}:starEach (.Attribute a x p :: es) env=(false,eval (.Attribute a x p) env) :: starEach es env:=rfl
theorem Bv{a:Expr}{os:List CmpOp}{bs:List Expr}{p:Pos}{es:List Expr}{env:Env}:starEach (.Compare a os bs p :: es) env=(false,eval (.Compare a os bs p) env) :: starEach es env:=rfl
theorem FX{xs:List Expr}{p:Pos}{t:Option Expr}{l:Nat}{env:Env}:swapsWith (.List xs p) t l env=pure false:=rfl
theorem DG{x:Str}{p:Pos}{t:Option Expr}{l:Nat}{env:Env}:swapsWith (.Name x p) t l env=pure false:=rfl
theorem sV{f:Expr}{as:List Expr}{ks:List Keyword}{p:Pos}{t:Option Expr}{l:Nat}{env:Env}:swapsWith (.Call f as ks p) t l env=pure false:=rfl
theorem AJ{a b:Expr}{o:Operator}{p:Pos}{t:Option Expr}{l:Nat}{env:Env}:swapsWith (.BinOp a o b p) t l env=pure false:=rfl
theorem FA{a b:Expr}{p:Pos}{t:Option Expr}{l:Nat}{env:Env}:swapsWith (.Subscript a b p) t l env=pure false:=rfl
theorem Ea{a:Expr}{x:Str}{p:Pos}{t:Option Expr}{l:Nat}{env:Env}:swapsWith (.Attribute a x p) t l env=pure false:=rfl
theorem IW{a:Expr}{o:UnaryOp}{p:Pos}{t:Option Expr}{l:Nat}{env:Env}:swapsWith (.UnaryOp o a p) t l env=pure false:=rfl
theorem Cd{T:Tab}{X:Cx}{Y:EX}{o e:Expr}{fa fb:M3.E3}{apos pos:Pos}(ho:PE X o (tE T X.K Y fa))(he:PE X e (tE T X.K Y fb))
 (hs:starEach (e :: []) X.env=(false,eval e X.env) :: starEach [] X.env)
 (hbase:attributeBase o "extend" X.env (eval o X.env)=eval o X.env:=by rfl)
 (hline:(apos.endLine==pos.line)=true:=by rfl):
 PE X (.Call (.Attribute o "extend" apos) [e] [] pos) (tE T X.K Y (M3.uO fa fb)):=by
 refine mD ho he hbase ?_ hline hs rfl
 rw[hs]
 rfl
section
variable{K:PySem.W.Frag}{μ:List Addr}{H:Hp}
abbrev KDT(K:PySem.W.Frag)(H:Hp)(μ:List Addr):List (List Int×M3.D)->List (List Int×Addr×Value)->Prop:=Paired fun p q=>p.1=q.1/\SqT K H q.2.1 (p.1.map V.int)/\∃v,Den K H μ p.2 v/\RelV v q.2.2
theorem itI{P:Program}{w:World}:∀{ks:List Int} {us:List Value},Vals (ks.map V.int) us->ItemsAre (intKind P w) ks us
 | [],_,r=>by rw[List.map_nil]at r;cases r;exact .nil
 |k :: ks,_,r=>by
  rw[List.map_cons]at r
  cases r with
  |cons h t=>
   obtain⟨tk,rfl⟩:=h
   exact .cons (by simp [intKind,Value.isInt]) (itI t)
theorem yN{X:Cx}{pins:List (Addr×Obj)}{σ:L2.St}{s:Shared}{b:Addr}{ks:List Int}(I:Inv X pins σ H s)(h:SqT X.K H b (ks.map V.int)):(tupleKind (intKind X.prog X.w)).is s.heap ks b:=by
 obtain⟨its,r,⟨o,h1,h2,n,h3⟩,_⟩:=I.tuple h
 exact⟨o,its.toArray,n,h1,h2,h3,by simpa using itI r⟩
theorem dtI{X:Cx}{pins:List (Addr×Obj)}{σ:L2.St}{s:Shared}{a:Addr}{kvs:List (List Int×M3.D)}{xs:List (List Int×Addr×Value)}(I:Inv X pins σ H s)(e:H a=some (.ext (mq a xs)))(r:KDT X.K H μ kvs xs):
 (a==sysModules)=false/\xs.length<=sizeLine/\s.heap.DictOfH (tupleKind (intKind X.prog X.w)) a xs:=by
 obtain⟨⟨z,y,o,es,ep,h1,h2,h3,h4,h5⟩,_⟩:=(show bJ X.prog X.w H s.heap a (.ext (mq a xs))from I.hok a _ e)
 refine⟨z,y,o,es,ep,h1,h2,h3,h4,fun x hx=>?_,h5⟩
 have all:∀{l:List (List Int×M3.D)} {m:List (List Int×Addr×Value)},KDT X.K H μ l m->∀x∈m,(tupleKind (intKind X.prog X.w)).is s.heap x.1 x.2.1:=by
  intro l m q
  induction q with
  |nil=>intro x hx;exact nomatch hx
  |@cons p q ps qs hq t ih=>
   intro x hx
   rcases qS_.mp hx with e |hx
   · subst e
     exact yN I (by rw[<-hq.1];exact hq.2.1)
   · exact ih x hx
 exact all r x hx
theorem KDT.look(k:List Int):∀{kvs:List (List Int×M3.D)} {xs:List (List Int×Addr×Value)},KDT K H μ kvs xs->(M3.look kvs k=none/\atKey xs k=none)\/∃d p v,M3.look kvs k=some d/\atKey xs k=some p/\Den K H μ d v/\RelV v p.2
 |_,_,.nil=>.inl ⟨rfl,rfl⟩
 |(k1,d) :: kvs,(k2,p) :: xs,.cons ⟨h1,h2,v,h3,h4⟩ t=>by
  cases (show k1=k2 from h1)
  by_cases h:k1=k
  · exact .inr ⟨d,p,v,by simp [M3.look,h],by simp [atKey,h],h3,h4⟩
  · have e1:M3.look ((k1,d) :: kvs) k=M3.look kvs k:=by simp [M3.look,h]
    have e2:atKey ((k1,p) :: xs) k=atKey xs k:=by simp [atKey,h]
    rw[e1,e2]
    exact KDT.look k t
theorem KDT.y6(k:List Int){d:M3.D}{v:V}{u:Value}(dv:Den K H μ d v)(rv:RelV v u):∀{kvs:List (List Int×M3.D)} {xs:List (List Int×Addr×Value)},KDT K H μ kvs xs->KDT K H μ (kvs.map fun kv=>if kv.1=k then (kv.1,d)else kv) (xs.map (putAt k u))
 |_,_,.nil=>.nil
 |(k1,x) :: kvs,(k2,w) :: ws,.cons ⟨h1,h2,h3⟩ t=>by
  cases (show k1=k2 from h1)
  rw[List.map_cons,List.map_cons]
  refine .cons ?_ (KDT.y6 k dv rv t)
  unfold putAt
  by_cases h:k1=k
  · rw[if_pos h,if_pos h];exact⟨rfl,h2,v,dv,rv⟩
  · rw[if_neg h,if_neg h];exact⟨rfl,h2,h3⟩
theorem vN(k:List Int):∀kvs:List (List Int×M3.D),(kvs.any fun kv=>decide (kv.1=k))=(M3.look kvs k).isSome
 | []=>rfl
 |(a,d) :: r=>by
  rw[List.any_cons]
  by_cases h:a=k
  · have e1:M3.look ((a,d) :: r) k=some d:=by simp [M3.look,h]
    rw[e1];simp [h]
  · have e1:M3.look ((a,d) :: r) k=M3.look r k:=by simp [M3.look,h]
    rw[e1,<-vN k r];simp [h]
theorem KDT.put(k:List Int){b:Addr}{d:M3.D}{v:V}{u:Value}(hb:SqT K H b (k.map V.int))(dv:Den K H μ d v)(rv:RelV v u){kvs:List (List Int×M3.D)}{xs:List (List Int×Addr×Value)}(r:KDT K H μ kvs xs):KDT K H μ (M3.put kvs k d) (storedH xs k b u):=by
 have e:(kvs.any fun kv=>decide (kv.1=k))=(atKey xs k).isSome:=by
  have h1:=vN k kvs
  rw[h1]
  rcases KDT.look k r with ⟨a,b⟩ |⟨_,_,_,a,b,_⟩ <;> rw[a,b] <;> rfl
 unfold M3.put storedH
 rw[e]
 by_cases q:(atKey xs k).isSome=true
 · rw[if_pos q,if_pos q];exact KDT.y6 k dv rv r
 · rw[if_neg q,if_neg q];exact Paired.snoc r ⟨rfl,hb,v,dv,rv⟩
theorem Hn{P:Program}{w:World}{h:Heap}{a:Addr}{xs:List (List Int×Addr×Value)}(t:mq a xs h):bJ P w H h a (.ext (mq a xs)):=by
 refine⟨t,?_,fun h1 h2 t1 k=>?_⟩
 · obtain⟨_,_,o,_,_,h1,_⟩:=t;exact⟨o,h1⟩
 · obtain⟨z,y,o,es,ep,e,r⟩:=t1
   exact⟨z,y,o,es,ep,k o e,r⟩
end
section
variable{X:Cx}{T:Tab}{Y:EX}{a b e o i:Expr}{fa fb fc:M3.E3}{pos pos' p p2 apos:Pos}
theorem pe{K:PySem.W.Frag}{H:Hp}{μ:List Addr}{x:M3.D}{k:List Int}{v:V}(h:M3.qN x=some k)(d:Den K H μ x v):∃c,v= .ref c/\SqT K H c (k.map V.int):=by
 cases x with
 |tup xs=>
  obtain⟨c,vs,rfl,sq,ds⟩:=d
  have h:M3.intsOf xs=some k:=h
  cases dY h
  rw[ax.ints ds]at sq
  exact⟨c,rfl,sq⟩
 |_=>cases h
theorem v5{G:M3.Hh}{x y:M3.D}{o:Option M3.D}(h:M3.jW x y G=some o):∃n kvs k,y= .ref n/\G[n]? =some (.dT kvs)/\M3.qN x=some k/\M3.look kvs k=o:=by
 unfold M3.jW at h
 cases y with
 |ref n=>
  dsimp only at h
  cases q:G[n]? with
  |none=>rw[q]at h;cases h
  |some ob=>
   rw[q]at h
   cases ob with
   |dT kvs=>
    dsimp only at h
    cases qk:M3.qN x with
    |none=>rw[qk]at h;cases h
    |some k=>rw[qk]at h;exact⟨n,kvs,k,rfl,q,rfl,Option.some.inj h⟩
   |_=>cases h
 |_=>cases h
def GO(T:Tab)(K:PySem.W.Frag)(neg:Bool):R2:=fun v w H Q=>∃μ G x y o,Sim T K μ H G/\Den K H μ x v/\Den K H μ y w/\M3.jW x y G=some o/\Q (.bl (if neg then !o.isSome else o.isSome)) H
theorem Cw(hu:X.A.units+9 < cLine)(neg:Bool){pins:List (Addr×Obj)}{s:Shared}{σ:L2.St}{H:Hp}{v w:V}{u u':Value}{Q:VK}(I:Inv X pins σ H s)(r:RelV v u)(r':RelV w u')(h:GO T X.K neg v w H Q):
 wpAny (model X.prog X.w) X.A (compareOp (if neg then .NotIn else .In) u u') (EP X pins σ Q) X.xe s:=by
 obtain⟨μ,G,x,y,o,S,dx,dy,e,q⟩:=h
 obtain⟨n,kvs,k,rfl,qn,qk,ql⟩:=v5 e
 obtain⟨c,rfl,sq⟩:=pe qk dx
 obtain⟨d,ed,rfl⟩:=dy
 cases (show u=Value.ref c from r)
 cases (show u'=Value.ref d from r')
 obtain⟨xs,e1,rs⟩:=S.obj n d _ ed qn
 obtain⟨z,_,dd⟩:=dtI I e1 rs
 have hb:(atKey xs k).isSome=o.isSome:=by
  rcases KDT.look k rs with ⟨h1,h2⟩ |⟨_,_,_,h1,h2,_⟩
  · rw[h2,<-ql,h1];rfl
  · rw[h2,<-ql,h1];rfl
 cases neg with
 |false=>exact wpAny_in_heap (tupleKind_room_in1 (by omega)) (yN I sq) z dd ⟨.bl o.isSome,H,I.tok _,by rw[hb];rfl,q⟩
 |true=>exact wpAny_notIn_heap (tupleKind_room_in1 (by omega)) (yN I sq) z dd ⟨.bl (!o.isSome),H,I.tok _,by rw[hb];rfl,q⟩
theorem HC{α:Type}{G:M3.Hh}{o:Option α}{f:α->M3.D}{P:M3.D->M3.Hh->Prop}{Z:Nat->M3.Hh->Prop}(h:M3.run (fun G=>o.map fun x=>(M3.Oc.ok (f x),G)) G P Z):∃x,o=some x/\P (f x) G:=by
 unfold M3.run at h
 cases o with
 |none=>exact False.elim h
 |some x=>exact⟨x,rfl,h⟩
theorem yW(hu:X.A.units+64 < cLine):OpR X (compareOp .NotIn) (GO T X.K true)/\Br2 T X.K Y M3.kL (GO T X.K true):=⟨fun pins s σ H v w u u' Q I r r' h=>Cw (by omega) true I r r' h,by
 intro μ H G x y v w Q S dx dy h
 obtain⟨z,e,q⟩:=HC (o:=M3.jW x y G) (f:=fun o=>.bl (!o.isSome)) (show M3.run (fun G'=>(M3.jW x y G).map _) G _ _ from h)
 exact⟨μ,G,x,y,z,S,dx,dy,e,q _ H μ (Up.refl _ _) S rfl⟩⟩
def Iy(T:Tab)(K:PySem.W.Frag):R2:=fun v w H Q=>∃μ G x y d,Sim T K μ H G/\Den K H μ x v/\Den K H μ y w/\M3.jW y x G=some (some d)/\∀z,Den K H μ d z->Q z H
theorem Aq(hu:X.A.units+1 < cLine):IxR X (Iy T X.K):=by
 intro value slice pins s σ H x y v u Q I rx ry h hs
 obtain⟨μ,G,dx',dy',d,S,dx,dy,e,q⟩:=h
 obtain⟨n,kvs,k,rfl,qn,qk,ql⟩:=v5 e
 obtain⟨c,rfl,sq⟩:=pe qk dy
 obtain⟨a,ed,rfl⟩:=dx
 cases (show v=Value.ref a from rx)
 cases (show u=Value.ref c from ry)
 obtain⟨xs,e1,rs⟩:=S.obj n a _ ed qn
 obtain⟨_,_,dd⟩:=dtI I e1 rs
 rcases KDT.look k rs with ⟨h1,h2⟩ |⟨d',p,z,h1,h2,h3,h4⟩
 · rw[h1]at ql;cases ql
 · rw[h1]at ql;cases ql
   refine tail_any dd.typeIs PySem.F.slot_dict_getitem.lookup ?_ hs
   exact wpAny_getItem_heap (tupleKind_room_in1 hu) (yN I sq) dd h2 ⟨z,H,I.tok _,h4,q z h3⟩
theorem EW(hu:X.A.units+64 < cLine)(ha:PE X a (tE T X.K Y fa))(hb:PE X b (tE T X.K Y fb))(hs:pv b:=by intro _ _;rfl):PE X (.Subscript a b pos) (tE T X.K Y (M3.eOp M3.zG fa fb)):=
 PE.of (E2 (Aq (T:=T) (by omega)) ha hb hs) fun _ _ _ h=>Bo (by
   intro μ H G x y v w Q S dx dy h
   unfold M3.run M3.zG at h
   cases q:M3.jW y x G with
   |none=>rw[q]at h;exact False.elim h
   |some o=>
    rw[q]at h
    cases o with
    |none=>exact False.elim h
    |some d=>exact⟨μ,G,x,y,d,S,dx,dy,q,fun z dz=>h z H μ (Up.refl _ _) S dz⟩) h
theorem yI{G:M3.Hh}{x y w:M3.D}{P:Unit->M3.Hh->Prop}{Z:Nat->M3.Hh->Prop}(h:M3.run (M3.rb x y w) G P Z):∃n kvs k,x= .ref n/\G[n]? =some (.dT kvs)/\M3.qN y=some k/\kvs.length < M3.aA/\P () (G.set n (.dT (M3.put kvs k w))):=by
 unfold M3.run M3.rb at h
 cases x with
 |ref n=>
  dsimp only at h
  cases q:G[n]? with
  |none=>rw[q]at h;exact False.elim h
  |some ob=>
   rw[q]at h
   cases ob with
   |dT kvs=>
    dsimp only at h
    cases qk:M3.qN y with
    |none=>rw[qk]at h;exact False.elim h
    |some k=>
     rw[qk]at h
     dsimp only at h
     by_cases c:kvs.length < M3.aA
     · rw[if_pos c]at h;exact⟨n,kvs,k,rfl,q,rfl,c,h⟩
     · rw[if_neg c]at h;exact False.elim h
   |_=>exact False.elim h
 |_=>exact False.elim h
def IQ(T:Tab)(K:PySem.W.Frag):Ba:=fun o i v H Q=>∃μ G n kvs k c d w a,Sim T K μ H G/\μ[n]? =some a/\o= .ref a/\G[n]? =some (.dT kvs)/\i= .ref c/\SqT K H c (k.map V.int)/\Den K H μ w v/\kvs.length < M3.aA/\d=(G.set n (.dT (M3.put kvs k w)))/\
 ∀H',Up μ μ H H'->Sim T K μ H' d->Q H'
theorem oT(xs:List (List Int×Addr×Value))(k:List Int)(a:Addr)(u:Value):(storedH xs k a u).length<=xs.length+1:=by
 unfold storedH
 split
 · rw[qM_];omega
 · simp
theorem zi(hu:X.A.units+64 < cLine):uv X (IQ T X.K):=by
 intro pins s σ H o i v ov iv u Q I ro ri rv h
 obtain⟨μ,G,n,kvs,k,c,_,w,a,S,ea,rfl,qn,rfl,sq,dw,cl,rfl,q⟩:=h
 cases (show ov=Value.ref a from ro)
 cases (show iv=Value.ref c from ri)
 obtain⟨xs,e1,rs⟩:=S.obj n a _ ea qn
 obtain⟨z,hz,dd⟩:=dtI I e1 rs
 have hl:xs.length < sizeLine:=by rw[<-Paired.length rs,<-bS];exact cl
 refine wpAny_setItem_heap (hsz:=hz) (tupleKind_room_in1 (by omega)) (yN I sq) dd fun h' dd' hs=>?_
 obtain⟨ob,es,ep,hq,h2,h3,h4,_,h5⟩:=dd'
 have up:=Up.set S (.ext (mq a (storedH xs k c u))) ea qn rfl
 refine⟨upd H a (.ext (mq a (storedH xs k c u))),o9 I (by rw[e1];exact True.intro) hs ⟨ob,hq⟩ (Hn ⟨z,Nat.le_trans (oT _ _ _ _) hl,ob,es,ep,hq,h2,h3,h4,h5⟩),q _ up (S.set ea qn rfl rfl ⟨_,aF,?_⟩)⟩
 exact KDT.put k (SqT.keeps up.keeps sq) (Den.up up dw) rv (Paired.imp' (fun _ _ z=>⟨z.1,SqT.keeps up.keeps z.2.1,let ⟨v,x,y⟩:=z.2.2;⟨v,Den.up up x,y⟩⟩) rs)
theorem Ak(hu:X.A.units+64 < cLine)(ho:PE X o (tE T X.K Y fa))(hi:PE X i (tE T X.K Y fb))(he:PE X e (tE T X.K Y fc))
 (ha:∀v,assign (.Subscript o i pos') X.env v=(do
   let ov <-holding [v] (eval o X.env)
   let iv <-holding [v,ov] (eval i X.env)
   standAt pos'
   holding [v,ov,iv] (setItem ov iv v)
   release [v,ov,iv] []):=by intro _;rfl)
 (hs:swapsWithSole [.Subscript o i pos'] e pos.line X.env=pure false:=by rfl) (hw:swappedStores [.Subscript o i pos'] e X.env=pure none:=by rfl)
 (h1:(assignEach [.Subscript o i pos'] X.env).map (·.2)=[assign (.Subscript o i pos') X.env]:=by rfl):PS X (.Assign [.Subscript o i pos'] e pos) (tS T X.K Y (M3.yG fa fb fc)):=by
 refine PS.of (xJ he (BH ho hi (zi (T:=T) hu) ha) hs hw h1) fun D σ H ⟨μ,σ3,G,S,sd,h⟩=>⟨μ,σ3,G,S,sd,bi h fun w G1 wv H1 μ1 u1 S1 d1 h1=>?_⟩
 refine⟨μ1,σ3,G1,S1,sd.up u1,bi h1 fun x G2 xv H2 μ2 u2 S2 d2 h2=>⟨μ2,σ3,G2,S2,sd.up (u1.trans u2),bi h2 fun y G3 yv H3 μ3 u3 S3 d3 h3=>?_⟩⟩
 obtain⟨n,kvs,k,rfl,qn,qk,cl,h4⟩:=yI (M3.aN h3)
 obtain⟨c,ec,rfl⟩:=Den.up u3 d2
 obtain⟨b,rfl,sq⟩:=pe qk d3
 exact⟨μ3,G3,n,kvs,k,b,_,w,c,S3,ec,rfl,qn,rfl,sq,Den.up (u2.trans u3) d1,cl,rfl,fun H' up S'=>h4 _ _ μ3 (((u1.trans u2).trans u3).trans up) S' (sd.up (((u1.trans u2).trans u3).trans up))⟩
theorem BF{h:Heap}(hb:sysModules < h.objs.size):mq h.objs.size [] (h.push {cls:= .type "dict",data:= .dict #[]}):=
 ⟨beq_eq_false_iff_ne.mpr (Ne.symm (Nat.ne_of_lt hb)),qf_ _,_,#[],0,Heap.get?_push_size _ rfl,⟨rfl,rfl,rfl⟩,rfl,rfl,List.nodup_nil⟩
theorem Ir{pins:List (Addr×Obj)}{s:Shared}{σ:L2.St}{H:Hp}(I:Inv X pins σ H s):Inv X pins σ (upd H s.heap.objs.size (.ext (mq s.heap.objs.size []))) {s with heap:=s.heap.push {cls:= .type "dict",data:= .dict #[]}}:=
 I.laid (a:=s.heap.objs.size) (o:= .ext (mq s.heap.objs.size [])) (h':=s.heap.push {cls:= .type "dict",data:= .dict #[]}) (t':=s.toks) (fun _ _ q=>Heap.get?_push_of_some _ q) (qO_ _) (Hn (BF I.big))
def JU(T:Tab)(K:PySem.W.Frag)(Q:VK)(n:Nat)(p:Addr)(xv yv:V)(H:Hp):Prop:=∃μ G kvs k w c,Sim T K μ H G/\μ[n]? =some p/\xv= .ref c/\G[n]? =some (.dT kvs)/\SqT K H c (k.map V.int)/\Den K H μ w yv/\kvs.length < M3.aA/\
 ∀H',Up μ μ H H'->Sim T K μ H' (G.set n (.dT (M3.put kvs k w)))->Q (.ref p) H'
theorem BO(hu:X.A.units+64 < cLine)(hk:PE X a (tE T X.K Y fa))(hv:PE X b (tE T X.K Y fb)):PE X (.Dict [some a] [b] pos) (tE T X.K Y (M3.AS fa fb)):=by
 intro pins s σ H Q I ⟨μ,σ3,G,S,sd,h⟩
 have hq:=I.hok.fresh (qO_ s.heap.objs.size)
 have I1:=Ir I
 have u1:Up μ (μ++[s.heap.objs.size]) H (upd H s.heap.objs.size (.ext (mq s.heap.objs.size []))):=Up.new _ hq
 have S1:Sim T X.K (μ++[s.heap.objs.size]) (upd H s.heap.objs.size (.ext (mq s.heap.objs.size []))) (G++[.dT []]):=S.new hq rfl ⟨[],aF,.nil⟩
 have h0:M3.run (M3.bnd (fa σ3) fun k=>M3.bnd (fb σ3) fun v=>M3.bnd (M3.rb (.ref G.length) k v) fun _=>M3.ret (M3.D.ref G.length)) (G++[.dT []]) (cJ T X.K μ H Q) (Y.x μ H):=h
 have ex:(μ++[s.heap.objs.size])[G.length]? =some s.heap.objs.size:=by rw[<-S.len];simp
 have t1:tE T X.K Y fa σ (upd H s.heap.objs.size (.ext (mq s.heap.objs.size []))) (fun xv H2=>tE T X.K Y fb σ H2 fun yv H3=>JU T X.K Q G.length s.heap.objs.size xv yv H3):=by
  refine⟨_,σ3,_,S1,sd.up u1,bi (EX.upE Y u1 (cm h0 fun a G' z=>cJ.up u1 z)) fun x G2 xv H2 μ2 u2 S2 d2 h2=>⟨μ2,σ3,G2,S2,sd.up (u1.trans u2),bi h2 fun y G3 yv H3 μ3 u3 S3 d3 h3=>?_⟩⟩
  obtain⟨n,kvs,k,e,qn,qk,cl,h4⟩:=yI (M3.aN h3)
  cases e
  obtain⟨c,rfl,sq⟩:=pe qk (Den.up u3 d2)
  have e3:=(u2.trans u3).at ex
  exact⟨μ3,G3,kvs,k,y,c,S3,e3,rfl,qn,sq,d3,cl,fun H' up S'=>h4 _ _ μ3 ((u2.trans u3).trans up) S' ⟨_,e3,rfl⟩⟩
 refine wpAny_Dict_any rfl rfl (by simp) (by show 1<=15;decide) (pairTrees_cons_walk (thn (hk pins _ σ _ _ I1 t1) fun kv s2 ⟨xv,H2,I2,rx,q2⟩=>thn (hv pins s2 σ H2 _ I2 q2) fun vv s3 ⟨yv,H3,I3,ry,q3⟩=>pairTrees_nil_walk ?_))
 obtain⟨μ3,G3,kvs,k,w,c,S3,ea,rfl,qn,sq,dw,cl,q⟩:=q3
 cases (show kv=Value.ref c from rx)
 obtain⟨xs,e1,rs⟩:=S3.obj _ _ _ ea qn
 obtain⟨z,hz,dd⟩:=dtI I3 e1 rs
 have hl:xs.length < sizeLine:=by rw[<-Paired.length rs,<-bS];exact cl
 unfold storeAll
 rw[List.forIn_cons]
 refine wpAny_bind (wpAny_bind (wpAny_dictSet_heap (hsz:=hz) (knd:=tupleKind (intKind X.prog X.w)) (show X.A.units < cLine by omega) (yN I3 sq) dd fun h' dd' hs=>wpAny_pure ?_))
 show wpAny _ _ (forIn [] _ _) _ _ _
 rw[List.forIn_nil]
 refine wpAny_pure ?_
 obtain⟨ob,es,ep,hq,h2,h3,h4,_,h5⟩:=dd'
 have up:=Up.set S3 (.ext (mq s.heap.objs.size (storedH xs k c vv))) ea qn rfl
 refine⟨.ref s.heap.objs.size,upd H3 s.heap.objs.size (.ext (mq s.heap.objs.size (storedH xs k c vv))),o9 I3 (by rw[e1];exact True.intro) hs ⟨ob,hq⟩ (Hn ⟨z,Nat.le_trans (oT _ _ _ _) hl,ob,es,ep,hq,h2,h3,h4,h5⟩),rfl,q _ up (S3.set ea qn rfl rfl ⟨_,aF,?_⟩)⟩
 exact KDT.put k (SqT.keeps up.keeps sq) (Den.up up dw) ry (Paired.imp' (fun _ _ z=>⟨z.1,SqT.keeps up.keeps z.2.1,let ⟨v,x,y⟩:=z.2.2;⟨v,Den.up up x,y⟩⟩) rs)
end
section
variable{X:Cx}{T:Tab}{Y:EX}{a b:Expr}{fa fb:M3.E3}{pos:Pos}
theorem BQ(ha:PE X a (tE T X.K Y fa))(hb:PE X b (tE T X.K Y fb)):PE X (.BinOp a .Add b pos) (tE T X.K Y (M3.eOp M3.eY fa fb)):=zZ yt ha hb
theorem Ar(ha:PE X a (tE T X.K Y fa))(hb:PE X b (tE T X.K Y fb)):PE X (.BinOp a .Sub b pos) (tE T X.K Y (M3.eOp M3.xg fa fb)):=zZ Dt ha hb
theorem Cu(ha:PE X a (tE T X.K Y fa))(hb:PE X b (tE T X.K Y fb)):PE X (.BinOp a .Mult b pos) (tE T X.K Y (M3.eOp M3.ff fa fb)):=zZ Dm ha hb
theorem Ct(ha:PE X a (tE T X.K Y fa))(hb:PE X b (tE T X.K Y fb)):PE X (.BinOp a .Mod b pos) (tE T X.K Y (M3.eOp M3.oMod fa fb)):=zZ DM ha hb
theorem Em(ha:PE X a (tE T X.K Y fa))(hb:PE X b (tE T X.K Y fb))(hu:X.A.units+64 < cLine):PE X (.Compare a [.Eq] [b] pos) (tE T X.K Y (M3.eOp M3.oEq fa fb)):=Er (Eo hu) ha hb (my _)
theorem E6(ha:PE X a (tE T X.K Y fa))(hb:PE X b (tE T X.K Y fb))(hu:X.A.units+64 < cLine):PE X (.Compare a [.Gt] [b] pos) (tE T X.K Y (M3.eOp M3.oGt fa fb)):=Er (EY hu) ha hb (my _)
theorem ET(ha:PE X a (tE T X.K Y fa))(hb:PE X b (tE T X.K Y fb))(hu:X.A.units+64 < cLine):PT X (.Compare a [.Eq] [b] pos) (tT T X.K Y (M3.tB (M3.eOp M3.oEq fa fb))):=qw (Eo hu) ha hb (my _)
theorem EB(ha:PE X a (tE T X.K Y fa))(hb:PE X b (tE T X.K Y fb))(hu:X.A.units+64 < cLine):PT X (.Compare a [.NotEq] [b] pos) (tT T X.K Y (M3.tB (M3.eOp M3.oNe fa fb))):=qw (Iu hu) ha hb (my _)
theorem EH(ha:PE X a (tE T X.K Y fa))(hb:PE X b (tE T X.K Y fb))(hu:X.A.units+64 < cLine):PT X (.Compare a [.Lt] [b] pos) (tT T X.K Y (M3.tB (M3.eOp M3.oLt fa fb))):=qw (IG hu) ha hb (my _)
theorem Ez(ha:PE X a (tE T X.K Y fa))(hb:PE X b (tE T X.K Y fb))(hu:X.A.units+64 < cLine):PT X (.Compare a [.Gt] [b] pos) (tT T X.K Y (M3.tB (M3.eOp M3.oGt fa fb))):=qw (EY hu) ha hb (my _)
theorem EG(ha:PE X a (tE T X.K Y fa))(hb:PE X b (tE T X.K Y fb))(hu:X.A.units+64 < cLine):PT X (.Compare a [.GtE] [b] pos) (tT T X.K Y (M3.tB (M3.eOp M3.oGe fa fb))):=qw (IA hu) ha hb (my _)
theorem sg(ha:PE X a (tE T X.K Y fa))(hb:PE X b (tE T X.K Y fb))(hu:X.A.units+64 < cLine)(hm:behindInMarks .NotIn b=false:=by rfl):PT X (.Compare a [.NotIn] [b] pos) (tT T X.K Y (M3.tB (M3.eOp M3.kL fa fb))):=qw (yW hu) ha hb hm
end
section
variable{X:Cx}{T:Tab}{Y:EX}{K:PySem.W.Frag}{o e:Expr}{es:List Expr}{fa:M3.E3}{f3:M3.A3}{pos p:Pos}{x:Str}{C:Nat}{f:List M3.D->M3.M M3.D}
theorem Dc(h:False):PE X (.Call (.Name x p) (e :: es) [] pos) (tE T K Y (M3.aw f f3)):=h.elim
theorem Dr(h:False):PE X (.Call (.Attribute o x p) (e :: es) [] pos) (tE T K Y (M3.aH C f fa f3)):=h.elim
theorem Ag(h:False):PE X (.Call (.Attribute o x p) [] [] pos) (tE T K Y (M3.aH C f fa f3)):=h.elim
theorem CT(h:False):PE X (.Call (.Name x p) (e :: es) [] pos) (tE T K Y (M3.jq C f f3)):=h.elim
theorem B3(h:False):PE X (.Call (.Name x p) [] [] pos) (tE T K Y (M3.jq C f f3)):=h.elim
end
end L3
namespace M3
open PySem
section
variable{α β:Type}{G G':Hh}{E:Nat->Hh->Prop}{σ:St}
variable{Q:D->Hh->Prop}{QB:Bool->Hh->Prop}{QA:List D->Hh->Prop}{QS:Fl×St->Hh->Prop}{QU:Unit->Hh->Prop}{QI:Src->Hh->Prop}{QG:St->Hh->Prop}
theorem Dq{QP:Option Int->Hh->Prop}(h:QP none G):run (vG σ) G QP E:=h
theorem tw{e:E3}{QP:Option Int->Hh->Prop}(h:run (e σ) G (fun d G1=>run (asI d) G1 QP E) E):run (m5 e σ) G QP E:=ay h
theorem Bx{i:Int}{QP:Option Int->Hh->Prop}(h:QP (some i) G):run (asI (.int i)) G QP E:=h
theorem IF{n:Nat}{xs:List D}{lo hi:Option Int}(hn:G[n]? =some (.frz xs))(h:Q (.ref G.length) (G++[.lst (cutD xs lo hi)])):run (oSl (.ref n) lo hi) G Q E:=by
 unfold run oSl
 dsimp only
 rw[hn]
 exact h
theorem D3{e:E3}(h:run (e σ) G (fun x G1=>run (qc x) G1 QI E) E):run (CG e σ) G QI E:=ay h
theorem Ds{n:Nat}{xs:List D}(hl:G[n]? =some (.lst xs))(h:QI ⟨ix xs,fun G'=>decide (G'[n]? =some (.lst xs))⟩ G):run (qc (.ref n)) G QI E:=by
 refine aD (G':=G) ?_ h
 unfold qc;dsimp only;rw[hl]
theorem zN{xs:List D}{i:Nat}{x:D}(h:(ix xs)[i]? =some x):∃y,xs[i]? =some y/\x= .tup [.int (i:Int),y]:=by
 unfold ix at h
 rw[List.getElem?_mapIdx]at h
 cases q:xs[i]? with
 |none=>rw[q]at h;cases h
 |some y=>rw[q]at h;exact⟨y,rfl,(Option.some.inj h).symm⟩
theorem zk{xs:List D}:(ix xs).length=xs.length:=by simp [ix]
theorem iF{j:Nat}(hj:j<=1000000)(h:QI ⟨rng 0 j,fun _=>true⟩ G):run (DT (.int (j:Int))) G QI E:=by
 have c:rM (j:Int)=true:=by unfold rM;exact qZ_ (by omega)
 show run (if rM (j:Int)=true then ret (⟨rng 0 (j:Int).toNat,fun _=>true⟩:Src)else fail) G QI E
 rw[if_pos c,Int.toNat_natCast];exact h
theorem pV{n:Nat}{body:D->St->M (Fl×St)}(P:Nat->St->Hh->Prop)
 (hs:∀(i:Nat) σ G,i < n->P i σ G->run (body (.int (i:Int)) σ) G (fun p G1=>match p.1 with
   | .next=>P (i+1) p.2 G1
   | .cont=>P (i+1) p.2 G1
   | .brk=>QS (.next,p.2) G1
   | .ret d=>QS (.ret d,p.2) G1) E)
 (hd:∀σ G,P n σ G->QS (.next,σ) G) (h0:P 0 σ G):run (forL (fun _=>true) body (rng 0 n) σ) G QS E:=by
 refine qI (xs:=rng 0 n) P (fun _ _ _ _=>rfl) (fun i x σ G hx p=>?_) (fun σ G p=>hd σ G (by rw[pB]at p;exact p)) _ 0 σ G List.drop_zero (qf_ _) h0
 obtain⟨rfl,hi⟩:=mU hx
 rw[Int.zero_add]
 exact hs i σ G hi p
theorem lW{α:Type}{f:α->D}{xs:List α}{ck:Hh->Bool}{body:D->St->M (Fl×St)}(P:Nat->St->Hh->Prop)(hck:∀i σ G,P i σ G->ck G=true)
 (hs:∀(i:Nat) x σ G,xs[i]? =some x->P i σ G->run (body (f x) σ) G (fun p G1=>match p.1 with
   | .next=>P (i+1) p.2 G1
   | .cont=>P (i+1) p.2 G1
   | .brk=>QS (.next,p.2) G1
   | .ret d=>QS (.ret d,p.2) G1) E)
 (hd:∀σ G,P xs.length σ G->QS (.next,σ) G) (h0:P 0 σ G):run (forL ck body (xs.map f) σ) G QS E:=by
 refine qI (xs:=xs.map f) P hck (fun i x σ G hx p=>?_) (fun σ G p=>hd σ G (by rw[qM_]at p;exact p)) _ 0 σ G List.drop_zero (qf_ _) h0
 rw[qQ_]at hx
 cases q:xs[i]? with
 |none=>rw[q]at hx;cases hx
 |some y=>
  rw[q]at hx
  cases hx
  exact hs i y σ G q p
theorem FV{n:Nat}{kvs:List (Key×D)}(hl:G[n]? =some (.dK kvs))(h:Q (.int kvs.length) G):run (di [.ref n]) G Q E:=by
 refine aD (a:= .int kvs.length) (G':=G) ?_ h
 unfold di;dsimp only;rw[hl]
end
end M3
local macro_rules |`(tactic|walk_at "f")=>`(tactic|(refine M3.Dl rfl ?_;simp only[List.map_cons,List.map_nil,List.cons_append,qc_]))
local macro_rules |`(tactic|walk_at "r")=>`(tactic|repeat walk_at "w")
local macro_rules |`(tactic|walk_at "s")=>`(tactic|simp only[List.set_cons_succ,List.set_cons_zero])
local macro_rules |`(tactic|walk_at "w")=>`(tactic|first
 |with_reducible refine M3.aJ ?_ |((with_reducible refine' M3.w_var ?e1 ?_);case e1=>rfl) |with_reducible refine M3.w_c ?_ |with_reducible refine M3.aB ?_
 |((with_reducible refine M3.w_next ?_);try walk_at "s") |with_reducible refine M3.Gr ?_
 |with_reducible refine M3.bq ?_ |with_reducible refine M3.cK ?_ |with_reducible refine M3.bE ?_ |with_reducible refine M3.dO ?_ |with_reducible refine M3.jx ?_
 |with_reducible refine M3.bI ?_ |with_reducible refine M3.ak ?_ |with_reducible refine M3.az ?_
 |with_reducible refine M3.xR ?_ |with_reducible refine M3.Cf ?_ |with_reducible refine M3.oi ?_
 |with_reducible refine M3.gB ?_ |with_reducible refine M3.iB ?_ |with_reducible refine M3.s9 ?_ |with_reducible refine M3.ox ?_ |with_reducible refine M3.ig ?_
 |with_reducible refine M3.eP ?_ |with_reducible refine M3.mn ?_ |with_reducible refine M3.wV ?_ |with_reducible refine M3.Iz ?_ |with_reducible refine M3.Hv ?_ |with_reducible refine M3.Im ?_
 |with_reducible refine M3.lR ?_ |with_reducible refine M3.nW ?_ |with_reducible refine M3.pA ?_ |with_reducible refine M3.pk ?_ |with_reducible refine M3.gQ ?_
 |with_reducible refine M3.tj ?_ |with_reducible refine M3.HU ?_ |((with_reducible refine' M3.GD ?e1 ?_);case e1=>decide) |((with_reducible refine' M3.GK ?e1 ?_);case e1=>decide) |((with_reducible refine' M3.oq ?e1 ?_);case e1=>decide)
 |with_reducible refine M3.JJ ?_ |with_reducible refine M3.E9 ?_ |with_reducible refine M3.w_leI ?_ |with_reducible refine M3.Jw ?_
 |((with_reducible refine' M3.JB ?e1 ?e2 ?_);(case e1=>rfl);(case e2=>rfl))
 |((with_reducible refine' M3.bb ?e1 ?_);case e1=>rfl)
 |(first |with_reducible refine M3.w_is_int_non ?_ |with_reducible refine M3.w_is_int_bl ?_ |with_reducible refine M3.sN ?_ |with_reducible refine M3.sP ?_ |with_reducible refine M3.sR ?_ |with_reducible refine M3.w_is_bl_non ?_ |with_reducible refine M3.xC ?_ |with_reducible refine M3.uB ?_ |with_reducible refine M3.v9 ?_ |with_reducible refine M3.vJ ?_ |with_reducible refine M3.w_is_str_non ?_ |with_reducible refine M3.w_is_str_bl ?_ |with_reducible refine M3.w_is_str_int ?_ |with_reducible refine M3.mK ?_ |with_reducible refine M3.tu ?_ |with_reducible refine M3.w_is_tup_non ?_ |with_reducible refine M3.w_is_tup_bl ?_ |with_reducible refine M3.w_is_tup_int ?_ |with_reducible refine M3.w_is_tup_str ?_ |with_reducible refine M3.tX ?_ |with_reducible refine M3.w_is_lst_non ?_ |with_reducible refine M3.w_is_lst_bl ?_ |with_reducible refine M3.w_is_lst_int ?_ |with_reducible refine M3.w_is_lst_str ?_ |with_reducible refine M3.t6 ?_ |with_reducible refine M3.w_is_dic_non ?_ |with_reducible refine M3.w_is_dic_bl ?_ |with_reducible refine M3.w_is_dic_int ?_ |with_reducible refine M3.w_is_dic_str ?_ |with_reducible refine M3.uo ?_)
 |with_reducible refine M3.AL ?_ |with_reducible refine M3.pS ?_ |with_reducible refine M3.Ey ?_ |with_reducible refine M3.qj ?_ |with_reducible refine M3.w_min ?_ |with_reducible refine M3.w_max ?_
 |with_reducible refine M3.oJ ?_ |with_reducible refine M3.kS ?_ |with_reducible refine M3.w_iRng2 ?_ |with_reducible refine M3.yz ?_ |with_reducible refine M3.tU ?_ |with_reducible refine M3.ER ?_ |with_reducible refine M3.lB ?_
 |with_reducible refine M3.kC ?_ |with_reducible refine M3.sZ ?_
 |with_reducible refine M3.w_dict0 ?_ |with_reducible refine M3.Gp ?_ |with_reducible refine M3.Ju ?_ |with_reducible refine M3.Dq ?_ |with_reducible refine M3.tw ?_ |with_reducible refine M3.Bx ?_
 |with_reducible refine M3.D3 ?_ |with_reducible refine M3.w_revL ?_ |with_reducible refine M3.w_asg ?_ |((with_reducible refine' M3.w_gTup ?e1 ?_);case e1=>rfl) |with_reducible refine M3.w_gaNil ?_ |with_reducible refine M3.w_gaCons ?_ |with_reducible refine M3.w_gSub ?_ |with_reducible refine M3.w_intI ?_ |with_reducible refine M3.w_intB ?_
 |((with_reducible refine' M3.BU ?e1 ?_);(case e1=>rfl);try walk_at "s")
 |((with_reducible refine' M3.ux ?e1 ?_);case e1=>exact qP_ rfl)
 |with_reducible refine And.intro (show (_:Nat)<=M3.aA from qP_ (by with_unfolding_all rfl)) ?_
 |with_reducible refine M3.w_fld ?_ |with_reducible refine M3.fy ?_ |with_reducible refine M3.bh ?_ |with_reducible refine M3.uN ?_ |with_reducible refine M3.yE ?_ |with_reducible refine M3.HM ?_ |with_reducible refine M3.C7 ?_ |with_reducible refine M3.w_isNon ?_
 |((with_reducible refine' M3.bc ?e1 ?e2 ?e3 ?_);(case e1=>assumption);(case e2=>decide);(case e3=>rfl))
 |((with_reducible refine' M3.bR ?e1 ?_);(case e1=>assumption))
 |with_reducible refine M3.ay ?_)
namespace KH
open PySem M3
def Ext(G G':Hh):Prop:=∃r,G'=G++r
theorem Ext.refl(G:Hh):Ext G G:=⟨[],by simp⟩
theorem Ext.trans{A B C:Hh}(a:Ext A B)(b:Ext B C):Ext A C:=by
 obtain⟨r,rfl⟩:=a
 obtain⟨t,rfl⟩:=b
 exact⟨r++t,by simp⟩
theorem Ext.add(G:Hh)(o:O):Ext G (G++[o]):=⟨[o],rfl⟩
theorem Ext.get{A B:Hh}(a:Ext A B){n:Nat}{o:O}(h:A[n]? =some o):B[n]? =some o:=by
 obtain⟨r,rfl⟩:=a
 rw[qK_ (qB_.mp h).1]
 exact h
theorem aZ(G:Hh)(o:O):(G++[o])[G.length]? =some o:=by simp
theorem take_succ{α:Type}{xs:List α}{i:Nat}{x:α}(h:xs[i]? =some x):xs.take (i+1)=xs.take i++[x]:=by
 rw[List.take_add_one,h];rfl
theorem pz{α:Type}{f:α->D}{ps:List α}{i:Nat}{x:D}(h:(ps.map f)[i]? =some x):∃p,ps[i]? =some p/\x=f p:=by
 rw[qQ_]at h
 cases e:ps[i]? with
 |none=>rw[e]at h;cases h
 |some p=>rw[e]at h;exact⟨p,rfl,(Option.some.inj h).symm⟩
theorem g8{α:Type}{f:α->D}{xs:List α}{i:Nat}{x:α}(h:xs[i]? =some x):atI (xs.map f) (i:Int)=some (f x):=by
 have hl:=(qB_.mp h).1
 unfold atI M3.ixN
 rw[if_pos (Int.natCast_nonneg _),qM_,if_pos (by exact_mod_cast hl)]
 simp [h]
theorem z7{α:Type}{f:α->D}{xs:List α}{i:Int}{x:α}(h0:0<=i)(h:xs[i.toNat]? =some x):atI (xs.map f) i=some (f x):=by
 have:=g8 (f:=f) h
 rwa [Int.toNat_of_nonneg h0]at this
theorem eq_int{G:Hh}{k:Nat}{a b:Int}:eqG G (k+1) (.int a) (.int b)=some (decide (a=b)):=rfl
theorem nR{κ:Type} [DecidableEq κ]{kvs:List (κ×D)}{k:κ}:look kvs k=none↔k∉kvs.map (·.1):=by
 unfold look
 rw[Option.map_eq_none_iff,List.find?_eq_none]
 constructor
 · intro h z
   obtain⟨kv,hm,e⟩:=qH_.mp z
   exact h kv hm (qZ_ e)
 · intro h kv hm e
   exact h (qH_.mpr ⟨kv,hm,of_decide_eq_true e⟩)
theorem vO{κ:Type} [DecidableEq κ]{kvs:List (κ×D)}{k:κ}:(look kvs k).isSome=decide (k∈kvs.map (·.1)):=by
 by_cases h:k∈kvs.map (·.1)
 · rw[qZ_ h]
   cases q:look kvs k with
   |none=>exact absurd h (nR.mp q)
   |some _=>rfl
 · rw[qa_ h,nR.mpr h];rfl
end KH
namespace KC
open PySem M3
def nX:S3:=
    (aC (eOp oGt (eOp ff (ae 1) (eC (.int 2))) (ae 0)))
def kF:List D->M D:=fnM 2 [] nX
def pM:S3:=
    (aq (bx 1 (eC (.tup [(.tup [(.int 0),(.int 0)]),(.int 0)])))
    (aq (k9 (iOf (ae 0)) (gNm 2) (sIf (tB (eOp oGt (eOp oIx (ae 2) (eC (.int 0))) (eOp oIx (ae 1) (eC (.int 0))))) (bx 1 (ae 2)) aW))
    (aC (ae 1))))
def mX:List D->M D:=fnM 1 [none,none] pM
def ia:S3:=
    (aq (bx 3 (fT (iOf (ae 0)) [] jr (eOp oIx (eOp oIx (ae 0) (eC (.int 0))) (eC (.int 0)))))
    (aC (bO (aa (eOp eY (aw zx (aa (eOp eY (ae 3) (cS (aa (ae 1) ai))) ai)) (eC (.int 1))) (aa (ae 2) ai)))))
def fC:List D->M D:=fnM 3 [none] ia
def jJ:S3:=
    (aq (bw (ae 0) 0 (ae 1))
    (aq (bw (ae 0) 1 (ae 2))
    (aq (bw (ae 0) 2 (eC (.bl false)))
    (aq (bw (ae 0) 3 (eC .non))
    (aq (bw (ae 0) 4 (eC .non))
    (aq (bw (ae 0) 5 (eC (.int 0)))
    (aq (bw (ae 0) 6 pY)
    (bw (ae 0) 7 (eC (.int 0))))))))))
def gU:List D->M D:=fnM 3 [] jJ
def gE:S3:=
    (aq (bx 1 (fT (gs (aU (ae 0) 1)) [0] (tB (eOp nG (ae 0) (aU (ae 1) 6))) (ae 0)))
    (aC (fT (iOf (ae 1)) [0] jr (bO (aa (aU (ae 1) 0) (aa (ae 0) (aa (aU (ae 1) 5) (aa (aU (ae 1) 4) ai))))))))
def cx:List D->M D:=fnM 1 [none] gE
def et:S3:=
    (aq (bw (ae 0) 5 (eOp eY (aU (ae 0) 5) (eC (.int 1))))
    (aq (bw (ae 0) 4 (ae 1))
    (aq (bw (ae 0) 6 pY)
    (aC (aH 0 cx (ae 0) ai)))))
def bF:List D->M D:=fnM 2 [] et
def iT:S3:=
    (aq (sIf (tOf (aU (ae 0) 2)) (mj 1004 (aa (eC (.str "the hand is at work already")) ai)) aW)
    (aq (bw (ae 0) 2 (eC (.bl true)))
    (aq (bw (ae 0) 3 (ae 1))
    (aC (aH 0 bF (ae 0) (aa (eC .non) ai))))))
def dm:List D->M D:=fnM 2 [] iT
def dQ:S3:=
    (aC (aH 0 dm (ae 0) (aa (ae 1) ai)))
def cG:List D->M D:=fnM 2 [] dQ
def eW:S3:=
    (aC (aH 0 dm (ae 0) (aa (eC .non) ai)))
def cR:List D->M D:=fnM 1 [] eW
def dS:S3:=
    (sIf (eX (tOf (aU (ae 0) 2))) (mj 1005 (aa (eC (.str "the hand is not at work")) ai)) aW)
def bD:List D->M D:=fnM 1 [] dS
def eF:S3:=
    (aq (b7 (aH 0 bD (ae 0) ai))
    (aC (aH 0 cx (ae 0) ai)))
def cQ:List D->M D:=fnM 1 [] eF
def gG:S3:=
    (aq (b7 (aH 0 bD (ae 0) ai))
    (bw (ae 0) 2 (eC (.bl false))))
def eE:List D->M D:=fnM 1 [] gG
def ir:S3:=
    (aq (bx 1 (AG (aU (ae 0) 6)))
    (aq (sIf (tB (eUn nN (aU (ae 0) 3))) (aC (aw mX (aa (ae 1) ai))) aW)
    (aq (bx 2 (aw fC (aa (ae 1) (aa (aU (ae 0) 7) (aa (aU (ae 0) 0) ai)))))
    (aq (bw (ae 0) 7 (eOp oIx (ae 2) (eC (.int 0))))
    (aC (bO (aa (ae 2) (aa (aU (ae 0) 3) ai))))))))
def fE:List D->M D:=fnM 1 [none,none] ir
def jU:S3:=
    (aq (sIf (tOr (eX (tOf (aU (ae 0) 2))) (tB (eOp oNe (eOp oIx (ae 1) (eC (.int 2))) (aU (ae 0) 5)))) (aC (bO (aa (cS ai) (aa (eC .non) ai)))) aW)
    (aq (xX (aU (ae 0) 6) (eOp oIx (ae 1) (eC (.int 1))) (eOp oIx (ae 1) (eC (.int 3))))
    (aq (sIf (eX (tOf (aw kF (aa (aU (ae 0) 1) (aa (aw di (aa (aU (ae 0) 6) ai)) ai))))) (aC (bO (aa (cS ai) (aa (eC .non) ai)))) aW)
    (aq (sIf (tB (eUn nN (aU (ae 0) 4))) (aC (bO (aa (aH 0 bF (ae 0) (aa (aH 0 fE (ae 0) ai) ai)) (aa (eC .non) ai)))) aW)
    (aq (bw (ae 0) 2 (eC (.bl false)))
    (aC (bO (aa (cS ai) (aa (aU (ae 0) 4) ai)))))))))
def gW:List D->M D:=fnM 2 [] jU
def hX:S3:=
    (aq (bw (ae 0) 4 (eC (.tup [(.tup [(.int 0),(.int 0)]),(.int 0)])))
    (bw (ae 0) 8 (eC (.bl true))))
def fF:List D->M D:=fnM 1 [] hX
def hW:S3:=
    (aq (bx 1 (aU (ae 0) 8))
    (aq (bw (ae 0) 8 (eC (.bl false)))
    (aC (ae 1))))
def fB:List D->M D:=fnM 1 [none] hW
def iq:S3:=
    (aq (bx 1 (B6 (aU (ae 0) 8)))
    (aq (bw (ae 0) 8 (eC (.bl true)))
    (aC (ae 1))))
def fz:List D->M D:=fnM 1 [none] iq
def ij:S3:=
    (sIf (tB (eOp oGt (eOp oIx (ae 1) (eC (.int 0))) (eOp oIx (aU (ae 0) 4) (eC (.int 0))))) (bw (ae 0) 4 (ae 1)) aW)
def fD:List D->M D:=fnM 2 [] ij
def dM:S3:=
    (aq (sIf (eX (tOf (aU (ae 0) 8))) (aC (eC .non)) aW)
    (aq (bx 2 (eOp oIx (ae 1) (eC (.int 3))))
    (aq (sIf (tB (eUn nN (ae 2))) (aC (eOp eY (eSl (ae 1) vG (m5 (eC (.int 3)))) (bO (aa (aU (ae 0) 4) ai)))) aW)
    (aq (b7 (aH 1 fD (ae 0) (aa (ae 2) ai)))
    (aC (eOp eY (eSl (ae 1) vG (m5 (eC (.int 3)))) (bO (aa (eC .non) ai))))))))
def cC:List D->M D:=fnM 2 [none] dM
def jQ:S3:=
    (aq (bw (ae 0) 9 (fT (gs (ae 1)) [] jr (jq 1 fF ai)))
    (aq (bw (ae 0) 10 (fT (gs (ae 2)) [1] jr (jq 0 gU (aa (ae 0) (aa (ae 1) ai)))))
    (bw (ae 0) 11 (cS ai))))
def fJ:List D->M D:=fnM 3 [] jQ
def gA:S3:=
    (aq (sIf (tOr (tB (eOp oLt (ae 1) (eC (.int 0)))) (tB (eOp oGe (ae 1) (aw di (aa (aU (ae 0) 10) ai))))) (mj 1001 (aa (eC (.str "there is no such hand")) ai)) aW)
    (aC (eOp oIx (aU (ae 0) 10) (ae 1))))
def aV:List D->M D:=fnM 2 [] gA
def fq:S3:=
    (aq (sIf (tOr (tB (eOp oLt (ae 1) (eC (.int 0)))) (tB (eOp oGe (ae 1) (aw di (aa (aU (ae 0) 9) ai))))) (mj 1002 (aa (eC (.str "there is no such keeper")) ai)) aW)
    (aC (eOp oIx (aU (ae 0) 9) (ae 1))))
def bt:List D->M D:=fnM 2 [] fq
def jH:S3:=
    (b7 (uO (aU (ae 0) 11) (fT (iOf (ae 1)) [] jr (bO (aa (eC (.bl false)) (aa (ae 0) ai))))))
def bP:List D->M D:=fnM 2 [] jH
def iI:S3:=
    (b7 (aH 2 bP (ae 0) (aa (aH 0 cG (aH 2 aV (ae 0) (aa (ae 1) ai)) (aa (ae 2) ai)) ai)))
def gn:List D->M D:=fnM 3 [] iI
def j9:S3:=
    (b7 (aH 2 bP (ae 0) (aa (aH 0 cR (aH 2 aV (ae 0) (aa (ae 1) ai)) ai) ai)))
def g6:List D->M D:=fnM 2 [] j9
def iM:S3:=
    (aq (bx 2 (aH 0 cQ (aH 2 aV (ae 0) (aa (ae 1) ai)) ai))
    (aq (b7 (aH 2 bP (ae 0) (aa (ae 2) ai)))
    (aC (aw di (aa (ae 2) ai)))))
def gc:List D->M D:=fnM 2 [none] iM
def jh:S3:=
    (b7 (aH 0 eE (aH 2 aV (ae 0) (aa (ae 1) ai)) ai))
def gi:List D->M D:=fnM 2 [] jh
def eg:S3:=
    (aC (aH 1 fB (aH 2 bt (ae 0) (aa (ae 1) ai)) ai))
def cD:List D->M D:=fnM 2 [] eg
def dR:S3:=
    (aC (aH 1 fz (aH 2 bt (ae 0) (aa (ae 1) ai)) ai))
def cF:List D->M D:=fnM 2 [] dR
def cN:S3:=
    (aq (bx 2 (aH 1 cC (eOp oIx (aU (ae 0) 9) (eOp oIx (ae 1) (eC (.int 1)))) (aa (ae 1) ai)))
    (sIf (tB (eUn lO (ae 2))) (b7 (zL (aU (ae 0) 11) (bO (aa (eC (.bl true)) (aa (ae 2) ai))))) aW))
def bW:List D->M D:=fnM 2 [none] cN
def dC:S3:=
    (aq (bx 2 (aH 0 gW (eOp oIx (aU (ae 0) 10) (eOp oIx (ae 1) (eC (.int 0)))) (aa (ae 1) ai)))
    (aq (b7 (aH 2 bP (ae 0) (aa (eOp oIx (ae 2) (eC (.int 0))) ai)))
    (aq (sIf (tB (eUn nN (eOp oIx (ae 2) (eC (.int 1))))) (aC (cS ai)) aW)
    (aC (cS (aa (bO (aa (eOp oIx (ae 1) (eC (.int 0))) (aa (eOp oIx (ae 2) (eC (.int 1))) ai))) ai))))))
def cq:List D->M D:=fnM 2 [none] dC
def kg:S3:=
    (aq (bx 3 (eOp oIx (aU (ae 0) 11) (ae 1)))
    (aq (sIf (eX (tOf (ae 2))) (b7 (tM (aU (ae 0) 11) (ae 1))) aW)
    (aq (sIf (tOf (eOp oIx (ae 3) (eC (.int 0)))) (aC (aH 2 cq (ae 0) (aa (eOp oIx (ae 3) (eC (.int 1))) ai))) aW)
    (aq (b7 (aH 2 bW (ae 0) (aa (eOp oIx (ae 3) (eC (.int 1))) ai)))
    (aC (cS ai))))))
def cB:List D->M D:=fnM 3 [none] kg
def iW:S3:=
    (aq (sIf (eX (tOf (aU (ae 0) 11))) (mj 1003 (aa (eC (.str "no letter is under way")) ai)) aW)
    (aC (aH 2 cB (ae 0) (aa (eOp oMod (ae 1) (aw di (aa (aU (ae 0) 11) ai))) (aa (ae 2) ai)))))
def gh:List D->M D:=fnM 3 [] iW
def cW:S3:=
    (aq (k9 (CG (aU (ae 0) 11)) (gUn [3,4]) (sIf (tB (eOp oEq (eSl (eOp oIx (ae 4) (eC (.int 1))) vG (m5 (eC (.int 2)))) (bO (aa (ae 1) (aa (ae 2) ai))))) (aC (ae 3)) aW))
    (aC (eC .non)))
def bH:List D->M D:=fnM 3 [none,none] cW
def cX:S3:=
    (aq (b7 (aH 2 aV (ae 0) (aa (ae 1) ai)))
    (aq (b7 (aH 2 bt (ae 0) (aa (ae 2) ai)))
    (aq (bx 3 (cS ai))
    (aq (bx 4 (aH 2 bH (ae 0) (aa (ae 1) (aa (ae 2) ai))))
    (aq (tN (tB (eUn lO (ae 4))) (aq (b7 (uO (ae 3) (aH 2 cB (ae 0) (aa (ae 4) (aa (eC (.bl false)) ai)))))
    (bx 4 (aH 2 bH (ae 0) (aa (ae 1) (aa (ae 2) ai))))))
    (aC (ae 3)))))))
def b6:List D->M D:=fnM 3 [none,none] cX
def jk:S3:=
    (aq (bx 1 (cS ai))
    (aq (tN (tOf (aU (ae 0) 11)) (b7 (uO (ae 1) (aH 2 cB (ae 0) (aa (eC (.int 0)) (aa (eC (.bl false)) ai))))))
    (aC (ae 1))))
def gj:List D->M D:=fnM 1 [none] jk
def ku:S3:=
    (aq (bw (ae 0) 12 (ae 1))
    (aq (bw (ae 0) 13 (ae 2))
    (aq (bw (ae 0) 3 (ae 3))
    (aq (bw (ae 0) 14 (ae 4))
    (aq (bw (ae 0) 15 (eC .non))
    (bw (ae 0) 16 (eC .non)))))))
def gV:List D->M D:=fnM 5 [] ku
def kE:S3:=
    (aC (bO (aa (aU (ae 0) 12) (aa (aU (ae 0) 13) (aa (aU (ae 0) 3) (aa (aU (ae 0) 14) (aa (aU (ae 0) 15) ai)))))))
def gP:List D->M D:=fnM 1 [] kE
def jl:S3:=
    (aq (bw (ae 0) 17 (jq 2 fJ (aa (ae 1) (aa (ae 2) ai))))
    (aq (bw (ae 0) 18 (cS ai))
    (aq (bw (ae 0) 19 pY)
    (bw (ae 0) 20 (eC (.int 0))))))
def df:List D->M D:=fnM 3 [] jl
def eL:S3:=
    (aq (bx 4 (aw di (aa (aU (ae 0) 18) ai)))
    (aq (b7 (zL (aU (ae 0) 18) (jq 3 gV (aa (ae 1) (aa (ae 2) (aa (ae 3) (aa (aU (ae 0) 20) ai)))))))
    (aq (xX (aU (ae 0) 19) (ae 1) (ae 4))
    (aC (ae 4)))))
def b8:List D->M D:=fnM 4 [none] eL
def fi:S3:=
    (aq (bx 3 (eOp oIx (aU (ae 0) 19) (ae 1)))
    (aq (bx 4 (eOp oIx (aU (ae 0) 18) (ae 3)))
    (aq (bw (ae 4) 3 (eOp oIx (ae 2) (eC (.int 1))))
    (aq (bw (ae 4) 15 (aU (ae 0) 20))
    (aC (bO (aa (ae 3) (aa (aU (ae 4) 3) ai))))))))
def dh:List D->M D:=fnM 3 [none,none] fi
def eN:S3:=
    (aC (fT (iOf (ae 1)) [0] jr (aH 4 dh (ae 1) (aa (eOp oIx (ae 0) (eC (.int 0))) (aa (eOp oIx (ae 0) (eC (.int 1))) ai)))))
def bz:List D->M D:=fnM 2 [] eN
def jf:S3:=
    (aq (bx 2 (eOp oIx (ae 1) (eC (.int 0))))
    (aq (sIf (tB (eOp oEq (ae 2) (eC (.str "write")))) (aq (b7 (aH 2 gn (aU (ae 0) 17) (aa (eOp oIx (ae 1) (eC (.int 1))) (aa (eOp oIx (ae 1) (eC (.int 2))) ai))))
    (aC (aH 4 b8 (ae 0) (aa (eOp oIx (ae 1) (eC (.int 1))) (aa (ae 2) (aa (eOp oIx (ae 1) (eC (.int 2))) ai)))))) aW)
    (aq (sIf (tB (eOp oEq (ae 2) (eC (.str "read")))) (aq (b7 (aH 2 g6 (aU (ae 0) 17) (aa (eOp oIx (ae 1) (eC (.int 1))) ai)))
    (aC (aH 4 b8 (ae 0) (aa (eOp oIx (ae 1) (eC (.int 1))) (aa (ae 2) (aa (eC .non) ai)))))) aW)
    (aq (sIf (tB (eOp oEq (ae 2) (eC (.str "carry")))) (aq (bx 3 (aH 4 bz (ae 0) (aa (aH 2 gh (aU (ae 0) 17) (aa (eOp oIx (ae 1) (eC (.int 1))) (aa (eOp oIx (ae 1) (eC (.int 2))) ai))) ai)))
    (aC (eIf (tOf (ae 3)) (eOp oIx (ae 3) (eC (.int 0))) (eC .non)))) aW)
    (aq (sIf (tB (eOp oEq (ae 2) (eC (.str "pass")))) (aC (aH 4 bz (ae 0) (aa (aH 2 b6 (aU (ae 0) 17) (aa (eOp oIx (ae 1) (eC (.int 1))) (aa (eOp oIx (ae 1) (eC (.int 2))) ai))) ai))) aW)
    (aq (sIf (tB (eOp oEq (ae 2) (eC (.str "sweep")))) (aC (aH 4 bz (ae 0) (aa (aH 2 gj (aU (ae 0) 17) ai) ai))) aW)
    (aq (sIf (tB (eOp oEq (ae 2) (eC (.str "again")))) (aC (aH 2 gc (aU (ae 0) 17) (aa (eOp oIx (ae 1) (eC (.int 1))) ai))) aW)
    (aq (sIf (tB (eOp oEq (ae 2) (eC (.str "quit")))) (aq (b7 (aH 2 gi (aU (ae 0) 17) (aa (eOp oIx (ae 1) (eC (.int 1))) ai)))
    (aC (eOp oIx (aU (ae 0) 19) (eOp oIx (ae 1) (eC (.int 1)))))) aW)
    (aq (sIf (tB (eOp oEq (ae 2) (eC (.str "stop")))) (aC (aH 2 cD (aU (ae 0) 17) (aa (eOp oIx (ae 1) (eC (.int 1))) ai))) aW)
    (aC (aH 2 cF (aU (ae 0) 17) (aa (eOp oIx (ae 1) (eC (.int 1))) ai))))))))))))
def gd:List D->M D:=fnM 2 [none,none] jf
def cz:S3:=
    (xE (aH 4 gd (ae 0) (aa (ae 1) ai)) (fun d σ=>(.ret d,σ)) [(fun c=>decide (c=1001),(aC (eC (.str "no hand")))),(fun c=>decide (c=1002),(aC (eC (.str "no keeper")))),(fun c=>decide (c=1003),(aC (eC (.str "no letter")))),(fun c=>decide (c=1004),(aC (eC (.str "busy")))),(fun c=>decide (c=1005),(aC (eC (.str "idle"))))])
def bL:List D->M D:=fnM 2 [] cz
def dt:S3:=
    (xt (aU (ae 0) 19) (gUn [1,2]) (aq (bx 3 (aU (eOp oIx (aU (aU (ae 0) 17) 10) (ae 1)) 4))
    (sIf (tB (eUn lO (ae 3))) (aq (bx 4 (eOp oIx (aU (ae 0) 18) (ae 2)))
    (bw (ae 4) 16 (eOp oIx (ae 3) (eC (.int 0))))) aW)))
def cn:List D->M D:=fnM 1 [none,none,none,none] dt
def gz:S3:=
    (aq (bx 2 (aH 4 bL (ae 0) (aa (ae 1) ai)))
    (aq (b7 (aH 4 cn (ae 0) ai))
    (aq (bw (ae 0) 20 (eOp eY (aU (ae 0) 20) (eC (.int 1))))
    (aC (ae 2)))))
def bT:List D->M D:=fnM 2 [none] gz
def nL:S3:=
    (aq (bx 3 (jq 4 df (aa (ae 0) (aa (ae 1) ai))))
    (aC (fT (iOf (ae 2)) [3] jr (aH 4 bT (ae 1) (aa (ae 0) ai)))))
def kU:List D->M D:=fnM 3 [none] nL
def jY:S3:=
    (aq (bx 3 (jq 4 df (aa (ae 0) (aa (ae 1) ai))))
    (aq (k9 (iOf (ae 2)) (gNm 4) (b7 (aH 4 bT (ae 3) (aa (ae 4) ai))))
    (aq (bx 5 (fT (iOf (aU (ae 3) 18)) [] jr (aH 3 gP (ae 0) ai)))
    (aq (bx 6 (fT (iOf (aU (ae 3) 18)) [] jr (aU (ae 0) 16)))
    (aq (bx 7 (fT (iOf (aU (aU (ae 3) 17) 9)) [] jr (aU (ae 0) 4)))
    (aC (bO (aa (ae 5) (aa (ae 6) (aa (ae 7) ai))))))))))
def g9:List D->M D:=fnM 3 [none,none,none,none,none] jY
def CY(rec:List D->M D):S3:=
    (aq (sIf (tB (eUn nN (ae 1))) (aC (eUn nN (ae 0))) aW)
    (aq (sIf (tOf (aw (bIs .bl) (aa (ae 1) ai))) (aC (oZ (aw (bIs .bl) (aa (ae 0) ai)) (eOp oEq (ae 0) (ae 1)))) aW)
    (aq (sIf (tOf (aw (bIs .int) (aa (ae 1) ai))) (aC (oZ (aw (bIs .int) (aa (ae 0) ai)) (oZ (B6 (aw (bIs .bl) (aa (ae 0) ai))) (eOp oEq (ae 0) (ae 1))))) aW)
    (aq (sIf (tOf (aw (bIs .str) (aa (ae 1) ai))) (aC (oZ (aw (bIs .str) (aa (ae 0) ai)) (eOp oEq (ae 0) (ae 1)))) aW)
    (aq (sIf (tOf (aw (bIs .dic) (aa (ae 1) ai))) (aC (oZ (aw (bIs .dic) (aa (ae 0) ai)) (aw rec (aa AH (aa AH ai))))) aW)
    (aq (sIf (tB (eOp oNe (aw (bIs .tup) (aa (ae 1) ai)) (aw (bIs .tup) (aa (ae 0) ai)))) (aC (eC (.bl false))) aW)
    (aq (sIf (tOr (tB (eOp oNe (aw (bIs .lst) (aa (ae 1) ai)) (aw (bIs .lst) (aa (ae 0) ai)))) (eX (tOf (aw (y9 [.lst,.tup]) (aa (ae 1) ai))))) (aC (eC (.bl false))) aW)
    (aq (sIf (tB (eOp oNe (aw di (aa (ae 0) ai)) (aw di (aa (ae 1) ai)))) (aC (eC (.bl false))) aW)
    (aq (k9 (gs (aw di (aa (ae 1) ai))) (gNm 2) (sIf (eX (tOf (aw rec (aa (eOp oIx (ae 0) (ae 2)) (aa (eOp oIx (ae 1) (ae 2)) ai))))) (aC (eC (.bl false))) aW))
    (aC (eC (.bl true))))))))))))
def wI:Nat->List D->M D
 |0=>fnM 2 [none] E4
 |k+1=>fnM 2 [none] (CY (wI k))
def sX:S3:=
    (aC (oZ (aw (bIs .int) (aa (ae 0) ai)) (B6 (aw (bIs .bl) (aa (ae 0) ai)))))
def dG:List D->M D:=fnM 1 [] sX
def GZ:S3:=
    (aq (sIf (tB (eOp oLt (ae 1) (aw di (aa (ae 0) ai)))) (aC (eOp oIx (ae 0) (ae 1))) aW)
    (aC (eC (.int 0))))
def uK:List D->M D:=fnM 2 [] GZ
def mr:S3:=
    (aq (bx 2 (eOp eY (eOp ff (eOp oMod (ae 0) (aw xj (aa (eOp eY (eC (.str "1")) (eOp ff (eC (.str "0")) (eC (.int 88)))) ai))) (eC (.int 100))) (ae 1)))
    (aq (bx 3 (cS (aa (eOp eY (ae 1) (eC (.int 1))) (aa (eOp xg (eOp xg (eC (.int 0)) (ae 1)) (eC (.int 1))) (aa (eOp eY (eOp ff (eC (.int 1000)) (ae 1)) (eC (.int 7))) (aa (ae 2) (aa (eOp xg (eC (.int 0)) (ae 2)) (aa (eC (.int 0)) ai))))))))
    (aC (eOp oIx (ae 3) (eOp oMod (eOp oMod (eOp ff (ae 0) (eC (.int 48271))) (eC (.int 1009))) (eC (.int 6)))))))
def jc:List D->M D:=fnM 2 [none,none] mr
def nO:S3:=
    (aq (bx 4 (eOp oMod (eOp oMod (eOp ff (ae 0) (eC (.int 48271))) (eC (.int 1013))) (eC (.int 20))))
    (aq (bx 5 (eOp oMod (eOp oMod (eOp ff (ae 0) (eC (.int 48271))) (eC (.int 1019))) (ae 3)))
    (aq (bx 6 (eOp oMod (eOp oMod (eOp ff (ae 0) (eC (.int 48271))) (eC (.int 1021))) (ae 2)))
    (aq (sIf (tB (eOp oLt (ae 4) (eC (.int 3)))) (aC (bO (aa (eC (.str "write")) (aa (ae 5) (aa (aw jc (aa (ae 0) (aa (ae 1) ai))) ai))))) aW)
    (aq (sIf (tB (eOp oLt (ae 4) (eC (.int 6)))) (aC (bO (aa (eC (.str "read")) (aa (ae 5) ai)))) aW)
    (aq (sIf (tB (eOp oLt (ae 4) (eC (.int 14)))) (aC (bO (aa (eC (.str "pass")) (aa (ae 5) (aa (ae 6) ai))))) aW)
    (aq (sIf (tB (eOp oLt (ae 4) (eC (.int 16)))) (aq (bx 7 (eOp oMod (eOp oMod (eOp ff (ae 0) (eC (.int 48271))) (eC (.int 1031))) (eC (.int 40))))
    (aq (sIf (tB (eOp oEq (eOp oMod (eOp oMod (eOp ff (ae 0) (eC (.int 48271))) (eC (.int 1049))) (eC (.int 6))) (eC (.int 1)))) (bx 7 (eOp oMod (ae 0) (aw xj (aa (eOp eY (eC (.str "1")) (eOp ff (eC (.str "0")) (eC (.int 90)))) ai)))) aW)
    (aC (bO (aa (eC (.str "carry")) (aa (ae 7) (aa (eOp oGt (eOp oMod (eOp oMod (eOp ff (ae 0) (eC (.int 48271))) (eC (.int 1033))) (eC (.int 3))) (eC (.int 0))) ai))))))) aW)
    (aq (sIf (tB (eOp oEq (ae 4) (eC (.int 18)))) (aC (bO (aa (eC (.str "again")) (aa (ae 5) ai)))) aW)
    (aq (sIf (tB (eOp oEq (ae 4) (eC (.int 19)))) (aC (eOp oIx (cS (aa (bO (aa (eC (.str "quit")) (aa (ae 5) ai))) (aa (bO (aa (eC (.str "sweep")) ai)) ai))) (eOp oMod (eOp oMod (eOp ff (ae 0) (eC (.int 48271))) (eC (.int 1039))) (eC (.int 2))))) aW)
    (aC (eOp oIx (cS (aa (bO (aa (eC (.str "stop")) (aa (ae 6) ai))) (aa (bO (aa (eC (.str "wake")) (aa (ae 6) ai))) ai))) (eOp xg (ae 4) (eC (.int 16))))))))))))))
def iw:List D->M D:=fnM 4 [none,none,none,none] nO
def nY:S3:=
    (aq (bx 3 (eOp oMod (eOp oMod (eOp ff (ae 0) (eC (.int 48271))) (eC (.int 1093))) (eC (.int 4))))
    (aq (sIf (tB (eOp oEq (ae 3) (eC (.int 1)))) (aq (bx 4 (cS (aa (bO (aa (eC (.str "write")) (aa (eC (.int 0)) (aa (eC (.int 7)) ai)))) (aa (bO (aa (eC (.str "carry")) (aa (eC (.int 0)) (aa (eC (.bl true)) ai)))) (aa (bO (aa (eC (.str "carry")) (aa (eC (.int 0)) (aa (eC (.bl true)) ai)))) ai)))))
    (aC (eOp eY (ae 4) (cS (aa (bO (aa (eC (.str "carry")) (aa (ae 1) (aa (eC (.bl false)) ai)))) (aa (bO (aa (eC (.str "carry")) (aa (ae 1) (aa (eC (.bl false)) ai)))) ai)))))) aW)
    (aq (sIf (rk (tB (eOp oGt (ae 3) (eC (.int 1)))) (rk (tB (eOp oEq (ae 1) (eC (.int 3)))) (tB (eOp oGt (ae 2) (eC (.int 1)))))) (aq (bx 4 (cS (aa (bO (aa (eC (.str "read")) (aa (eC (.int 0)) ai))) (aa (bO (aa (eC (.str "carry")) (aa (eC (.int 0)) (aa (eC (.bl true)) ai)))) (aa (bO (aa (eC (.str "write")) (aa (eC (.int 1)) (aa (eC (.int 9)) ai)))) ai)))))
    (aq (b7 (uO (ae 4) (cS (aa (bO (aa (eC (.str "pass")) (aa (eC (.int 1)) (aa (eC (.int 0)) ai)))) (aa (bO (aa (eC (.str "pass")) (aa (eC (.int 1)) (aa (eC (.int 1)) ai)))) (aa (bO (aa (eC (.str "pass")) (aa (eC (.int 1)) (aa (eC (.int 0)) ai)))) ai))))))
    (aq (b7 (uO (ae 4) (cS (aa (bO (aa (eC (.str "carry")) (aa (eC (.int 0)) (aa (eC (.bl true)) ai)))) (aa (bO (aa (eC (.str "carry")) (aa (eC (.int 6)) (aa (eC (.bl false)) ai)))) ai)))))
    (aC (eOp eY (ae 4) (cS (aa (bO (aa (eC (.str "carry")) (aa (eC (.int 3)) (aa (eC (.bl false)) ai)))) (aa (bO (aa (eC (.str "pass")) (aa (eC (.int 0)) (aa (eC (.int 2)) ai)))) ai)))))))) aW)
    (aC (cS ai)))))
def kR:List D->M D:=fnM 3 [none,none] nY
def tO:S3:=
    (aq (bx 3 (cS ai))
    (aq (sIf (tB (eOp oNe (ae 0) (cS ai))) (bx 3 (aw kR (aa (eOp oIx (ae 0) (eC (.int 0))) (aa (ae 1) (aa (ae 2) ai))))) aW)
    (aq (k9 (gs (aw di (aa (ae 0) ai))) (gNm 4) (b7 (zL (ae 3) (aw iw (aa (eOp eY (eOp oIx (ae 0) (ae 4)) (eOp ff (eC (.int 7)) (ae 4))) (aa (ae 4) (aa (ae 1) (aa (ae 2) ai))))))))
    (aC (ae 3)))))
def nz:List D->M D:=fnM 3 [none,none] tO
def mx:S3:=
    (aq (sIf (tOr (eX (tOf (aw (bIs .tup) (aa (ae 0) ai)))) (tB (eOp oNe (aw di (aa (ae 0) ai)) (eC (.int 2))))) (aC (eC (.bl false))) aW)
    (aC (oZ (aw dG (aa (eOp oIx (ae 0) (eC (.int 0))) ai)) (aw dG (aa (eOp oIx (ae 0) (eC (.int 1))) ai)))))
def fw:List D->M D:=fnM 1 [] mx
def nI:S3:=
    (aq (sIf (tOr (eX (tOf (aw (bIs .tup) (aa (ae 0) ai)))) (tB (eOp oNe (aw di (aa (ae 0) ai)) (eC (.int 2))))) (aC (eC (.bl false))) aW)
    (aC (oZ (aw fw (aa (eOp oIx (ae 0) (eC (.int 0))) ai)) (aw dG (aa (eOp oIx (ae 0) (eC (.int 1))) ai)))))
def kW:List D->M D:=fnM 1 [] nI
def nQ:S3:=
    (aq (sIf (tOr (eX (tOf (aw (bIs .tup) (aa (ae 0) ai)))) (tB (eOp oNe (aw di (aa (ae 0) ai)) (eC (.int 5))))) (aC (eC (.bl false))) aW)
    (aq (sUn [1,2,3,4,5] (ae 0))
    (aq (sIf (tOr (eX (tOf (aw dG (aa (ae 1) ai)))) (tOr (eX (tOf (aw dG (aa (ae 4) ai)))) (eX (tOf (aw (bIs .str) (aa (ae 2) ai)))))) (aC (eC (.bl false))) aW)
    (aq (sIf (rk (tB (eUn lO (ae 3))) (eX (tOf (aw dG (aa (ae 3) ai))))) (aC (eC (.bl false))) aW)
    (aC (eOr (eUn nN (ae 5)) (aw dG (aa (ae 5) ai))))))))
def kX:List D->M D:=fnM 1 [none,none,none,none,none] nQ
def jV:S3:=
    (aq (sIf (tOr (eX (tOf (aw (bIs .tup) (aa (ae 0) ai)))) (tB (eOp oNe (aw di (aa (ae 0) ai)) (eC (.int 3))))) (aC (eC (.bl false))) aW)
    (aq (k9 (iOf (ae 0)) (gNm 2) (sIf (eX (tOf (aw (bIs .lst) (aa (ae 2) ai)))) (aC (eC (.bl false))) aW))
    (aq (k9 (iOf (eOp oIx (ae 0) (eC (.int 0)))) (gNm 3) (sIf (eX (tOf (aw kX (aa (ae 3) ai)))) (aC (eC (.bl false))) aW))
    (aq (k9 (iOf (eOp oIx (ae 0) (eC (.int 1)))) (gNm 4) (sIf (rk (tB (eUn lO (ae 4))) (eX (tOf (aw fw (aa (ae 4) ai))))) (aC (eC (.bl false))) aW))
    (aq (k9 (iOf (eOp oIx (ae 0) (eC (.int 2)))) (gNm 5) (sIf (eX (tOf (aw kW (aa (ae 5) ai)))) (aC (eC (.bl false))) aW))
    (aC (oZ (eOp oEq (aw di (aa (eOp oIx (ae 0) (eC (.int 0))) ai)) (aw di (aa (eOp oIx (ae 0) (eC (.int 1))) ai))) (eOp oEq (aw di (aa (eOp oIx (ae 0) (eC (.int 2))) ai)) (ae 1)))))))))
def gT:List D->M D:=fnM 2 [none,none,none,none] jV
def md:S3:=
    (aq (bx 3 (aw rT (aa (ae 2) ai)))
    (aq (bx 4 (aw g9 (aa (ae 0) (aa (ae 1) (aa (ae 3) ai)))))
    (aq (sIf (tOr (tB (eOp oNe (ae 3) (ae 2))) (eX (tOf (aw gT (aa (ae 4) (aa (ae 0) ai)))))) (aC (eC .non)) aW)
    (aC (ae 4)))))
def gI:List D->M D:=fnM 3 [none,none] md
def wN:S3:=
    (aq (sIf (tB (eOp oGt (aw di (aa (ae 0) ai)) (eC (.int 63)))) (aC (ae 2)) aW)
    (aC (ae 1)))
def pP:List D->M D:=fnM 3 [] wN
def BV:S3:=
    (aq (bx 1 (eOp oIx (cS (aa (eC (.int 3)) (aa (eC (.int 3)) (aa (eC (.int 3)) (aa (eC (.int 1)) (aa (eC (.int 2)) (aa (eC (.int 4)) (aa (eC (.int 5)) (aa (eC (.int 3)) (aa (eC (.int 7)) (aa (eC (.int 8)) (aa (eC (.int 9)) (aa (eC (.int 3)) ai))))))))))))) (eOp oMod (eOp oMod (eOp ff (aw uK (aa (ae 0) (aa (eC (.int 0)) ai))) (eC (.int 48271))) (eC (.int 1049))) (eC (.int 12)))))
    (aq (bx 2 (eOp oIx (cS (aa (eC (.int 2)) (aa (eC (.int 2)) (aa (eC (.int 3)) (aa (eC (.int 1)) (aa (eC (.int 2)) (aa (eC (.int 3)) (aa (eC (.int 2)) (aa (eC (.int 9)) ai))))))))) (eOp oMod (eOp oMod (eOp ff (aw uK (aa (ae 0) (aa (eC (.int 0)) ai))) (eC (.int 48271))) (eC (.int 1051))) (eC (.int 8)))))
    (aq (bx 3 (aw nz (aa (eSl (ae 0) (m5 (eC (.int 1))) (m5 (eOp eY (eC (.int 1)) (aw pP (aa (ae 0) (aa (eC (.int 18)) (aa (eC (.int 100)) ai))))))) (aa (ae 1) (aa (ae 2) ai)))))
    (aq (bx 3 (eOp eY (ae 3) (fT (gs (ae 2)) [] jr (bO (aa (eC (.str "quit")) (aa (ae 0) ai))))))
    (aq (bx 4 (aw gI (aa (ae 1) (aa (ae 2) (aa (ae 3) ai)))))
    (aq (bx 5 (aw gI (aa (ae 1) (aa (ae 2) (aa (eOp eY (ae 3) (cS (aa (bO (aa (eC (.str "sweep")) ai)) ai))) ai)))))
    (aq (sIf (tOr (tB (eUn nN (ae 4))) (tB (eUn nN (ae 5)))) (aC (eC (.bl false))) aW)
    (aq (sIf (tOr (tB (eOp oNe (eOp oIx (ae 4) (eC (.int 0))) (eOp oIx (ae 5) (eC (.int 0))))) (tB (eOp oNe (eOp oIx (ae 4) (eC (.int 1))) (eOp oIx (ae 5) (eC (.int 1)))))) (aC (eC (.bl false))) aW)
    (aq (bx 6 (AS (bO (aa (eC (.int 0)) (aa (eC (.int 0)) ai))) (eC (.int 0))))
    (aq (k9 (gs (aw di (aa (eOp oIx (ae 4) (eC (.int 0))) ai))) (gNm 7) (aq (bx 8 (eOp oIx (eOp oIx (ae 4) (eC (.int 0))) (ae 7)))
    (sIf (rk (tB (eOp oEq (eOp oIx (ae 8) (eC (.int 1))) (eC (.str "write")))) (tB (eUn lO (eOp oIx (eOp oIx (ae 4) (eC (.int 1))) (ae 7))))) (yG (ae 6) (eOp oIx (eOp oIx (ae 4) (eC (.int 1))) (ae 7)) (eOp oIx (ae 8) (eC (.int 2)))) aW)))
    (aq (k9 (gs (ae 1)) (gNm 9) (aq (sUn [10,11] (eOp oIx (eOp oIx (ae 5) (eC (.int 2))) (ae 9)))
    (aq (sIf (tOr (tB (eOp oLt (ae 10) (eOp oIx (eOp oIx (eOp oIx (ae 4) (eC (.int 2))) (ae 9)) (eC (.int 0))))) (tB (eOp kL (ae 10) (ae 6)))) (aC (eC (.bl false))) aW)
    (sIf (tB (eOp oNe (eOp zG (ae 6) (ae 10)) (ae 11))) (aC (eC (.bl false))) aW))))
    (aq (bx 12 (aw kU (aa (ae 1) (aa (ae 2) (aa (eOp eY (ae 3) (cS (aa (bO (aa (eC (.str "sweep")) ai)) (aa (bO (aa (eC (.str "carry")) (aa (eC (.int 3)) (aa (eC (.bl false)) ai)))) (aa (bO (aa (eC (.str "sweep")) ai)) ai))))) ai)))))
    (aq (sIf (tOr (eX (tOf (aw (bIs .lst) (aa (ae 12) ai)))) (tB (eOp oNe (aw di (aa (ae 12) ai)) (eOp eY (aw di (aa (ae 3) ai)) (eC (.int 3)))))) (aC (eC (.bl false))) aW)
    (aq (sIf (tOr (eX (tOf (aw (bIs .str) (aa (eOp oIx (ae 12) (eUn yX (eC (.int 2)))) ai)))) (tB (eOp oNe (eOp oIx (ae 12) (eUn yX (eC (.int 2)))) (eC (.str "no letter"))))) (aC (eC (.bl false))) aW)
    (aC (oZ (aw (wI 9) (aa (eOp oIx (ae 12) (eUn yX (eC (.int 3)))) (aa (cS ai) ai))) (aw (wI 9) (aa (eOp oIx (ae 12) (eUn yX (eC (.int 1)))) (aa (cS ai) ai)))))))))))))))))))
def pZ:List D->M D:=fnM 1 [none,none,none,none,none,none,none,none,none,none,none,none] BV
end KC
namespace KH
open PySem M3
def Chg(S:List Nat)(G G':Hh):Prop:=G.length<=G'.length/\∀n,n < G.length->n∉S->G'[n]? =G[n]?
theorem Chg.refl(S:List Nat)(G:Hh):Chg S G G:=⟨qO_ _,fun _ _ _=>rfl⟩
theorem Chg.trans{S:List Nat}{A B C:Hh}(a:Chg S A B)(b:Chg S B C):Chg S A C:=
 ⟨Nat.le_trans a.1 b.1,fun n hn hs=>(b.2 n (qd_ hn a.1) hs).trans (a.2 n hn hs)⟩
theorem Chg.trans'{S T:List Nat}{A B C:Hh}(a:Chg S A B)(b:Chg T B C)(h:∀n∈T,n∈S\/A.length<=n):Chg S A C:=
 ⟨Nat.le_trans a.1 b.1,fun n hn hs=>(b.2 n (qd_ hn a.1) (fun z=>(h n z).elim hs fun w=>qe_ _ (qd_ hn w))).trans (a.2 n hn hs)⟩
theorem Chg.mono{S T:List Nat}{A B:Hh}(a:Chg S A B)(h:∀n∈S,n∈T):Chg T A B:=⟨a.1,fun n hn hs=>a.2 n hn fun z=>hs (h n z)⟩
theorem Chg.add{S:List Nat}(G:Hh)(o:O):Chg S G (G++[o]):=⟨by simp,fun n hn _=>qK_ hn⟩
theorem Chg.set{S:List Nat}(G:Hh){n:Nat}(o:O)(h:n∈S):Chg S G (G.set n o):=⟨by simp,fun m hm hs=>by
 rw[qV_ (by rintro rfl;exact hs h)]⟩
theorem Chg.get{S:List Nat}{A B:Hh}(a:Chg S A B){n:Nat}{o:O}(h:A[n]? =some o)(hs:n∉S):B[n]? =some o:=by
 rw[a.2 n (qB_.mp h).1 hs];exact h
theorem Ext.chg{S:List Nat}{A B:Hh}(a:Ext A B):Chg S A B:=by
 obtain⟨r,rfl⟩:=a
 exact⟨by simp,fun n hn _=>qK_ hn⟩
theorem av{G:Hh}{n:Nat}{o:O}(h:G[n]? =some o):n < G.length:=(qB_.mp h).1
theorem gy{G:Hh}{l:Nat}{o o':O}(h:G[l]? =some o):(G.set l o')[l]? =some o':=qU_ (qB_.mp h).1
section
variable{G G':Hh}{E:Nat->Hh->Prop}{σ:St}{Q:D->Hh->Prop}{QU:Unit->Hh->Prop}{QA:List D->Hh->Prop}{QS:Fl×St->Hh->Prop}
theorem aI{n C f:Nat}{fs:List (Nat×D)}{y:D}(hn:G[n]? =some (.ins C fs))(hl:C < 1000/\fs.length < 1000)(h:∀G',Chg [n] G G'->G'.length=G.length->G'[n]? =some (.ins C (putN f y fs))->QU () G'):run (zS (.ref n) f y) G QU E:=
 GY hn hl (h _ (Chg.set _ _ qI_) (by simp) (gy hn))
theorem ya{n:Nat}{kvs:List (Key×D)}{i v:D}{k:Key}(hn:G[n]? =some (.dK kvs))(hk:pQ i=some k)(hl:kvs.length < aA)(h:∀G',Chg [n] G G'->G'.length=G.length->G'[n]? =some (.dK (put kvs k v))->QU () G'):run (yM (.ref n) i v) G QU E:=
 Hj hn hk hl (h _ (Chg.set _ _ qI_) (by simp) (gy hn))
theorem nP{n:Nat}{xs:List D}{y:D}(hl:G[n]? =some (.lst xs))(hz:xs.length < aA)(h:∀G',Chg [n] G G'->G'.length=G.length->G'[n]? =some (.lst (xs++[y]))->Q .non G'):run (ji (.ref n) y) G Q E:=
 Ae hl hz (h _ (Chg.set _ _ qI_) (by simp) (gy hl))
theorem gM{n m:Nat}{xs ys:List D}(hn:G[n]? =some (.lst xs))(hm:G[m]? =some (.lst ys))(hl:xs.length+ys.length<=aA)(h:∀G',Chg [n] G G'->G'.length=G.length->G'[n]? =some (.lst (xs++ys))->Q .non G'):run (iQ (.ref n) (.ref m)) G Q E:=
 yY hn hm hl (h _ (Chg.set _ _ qI_) (by simp) (gy hn))
theorem pT(h:∀G',Chg [] G G'->G'.length=G.length+1->G'[G.length]? =some (.dK [])->Q (.ref G.length) G'):run (pY σ) G Q E:=h _ (Chg.add _ _) (by simp) (aZ _ _)
theorem dI(h:∀G',Chg [] G G'->G'.length=G.length+1->G'[G.length]? =some (.lst [])->Q (.ref G.length) G'):run (cS ai σ) G Q E:=Cf (az ⟨qf_ _,h _ (Chg.add _ _) (by simp) (aZ _ _)⟩)
theorem kQ{C:Nat}{g:List D->M D}{a:A3}(h:run (a σ) G (fun ds G1=>∀G2,Chg [] G1 G2->G2.length=G1.length+1->G2[G1.length]? =some (.ins C [])->run (g (.ref G1.length :: ds)) G2 (fun r G3=>r= .non/\Q (.ref G1.length) G3) E) E):run (jq C g a σ) G Q E:=
 F5 (ao h (fun ds G1 q=>q _ (Chg.add _ _) (by simp) (aZ _ _)) fun _ _ z=>z)
theorem kP{α:Type}{f:α->D}{p:α->Bool}{g:α->D}{xs:List α}{ck:Hh->Bool}{cond:D->M Bool}{elt:D->M D}(hck:ck G=true)(hz:xs.length<=1000000)
 (hc:∀x∈xs,run (cond (f x)) G (fun c G1=>G1=G/\c=p x) E) (he:∀x∈xs,p x=true->run (elt (f x)) G (fun y G1=>G1=G/\y=g x) E)
 (h:QA ((xs.filter p).map g) G):run (bX ck cond elt (xs.map f) []) G QA E:=by
 refine jd (fun i acc G'=>G'=G/\acc=((xs.take i).filter p).map g) ?_ ?_ ?_ (xs.map f) 0 [] G List.drop_zero (qf_ _) ⟨rfl,by simp⟩
 · rintro i acc G' ⟨rfl,_⟩
   exact hck
 · rintro i x acc G' hx ⟨rfl,rfl⟩
   obtain⟨y,hy,rfl⟩:=pz hx
   have hm:=qD_ hy
   refine ao (hc y hm) (fun c G1 ⟨e1,e2⟩=>?_) fun _ _ z=>z
   subst e1 e2
   have e3:((xs.take (i+1)).filter p).map g=((xs.take i).filter p).map g++(if p y=true then [g y]else []):=by
    rw[take_succ hy,List.filter_append,qT_]
    cases q:p y <;> simp [q]
   cases q:p y with
   |true=>
    rw[if_pos rfl]
    refine ao (he y hm q) (fun v G2 ⟨e1,e2⟩=>?_) fun _ _ z=>z
    subst e1 e2
    refine⟨?_,rfl,?_⟩
    · have:=List.length_filter_le p (xs.take i)
      simp [aA]
      rw[List.length_take]at this
      omega
    · rw[e3,q];rfl
   |false=>
    rw[if_neg qC_]
    refine⟨rfl,?_⟩
    rw[e3,q];simp
 · rintro acc G' ⟨rfl,rfl⟩
   rw[qM_,List.take_length]
   exact h
theorem ul{t:T3}{body:S3}(P:St->Hh->Nat->Prop)(hs:∀σ G m,P σ G m->run (t σ) G (fun c G1=>if c=true then run (body σ) G1 (fun p G2=>match p.1 with
 | .next=>∃m',m' < m/\P p.2 G2 m'
 | .cont=>∃m',m' < m/\P p.2 G2 m'
 | .brk=>QS (.next,p.2) G2
 | .ret d=>QS (.ret d,p.2) G2) E else QS (.next,σ) G1) E):∀(k:Nat) (σ:St) (G:Hh) (m:Nat),m < k->P σ G m->run (iJ t body k σ) G QS E
 |0,_,_,_,h,_=>absurd h (Nat.not_lt_zero _)
 |k+1,σ,G,m,hm,p=>by
  show run (bnd (t σ) fun c=>if c then bnd (body σ) (fun p=>match p.1 with
   | .next=>iJ t body k p.2
   | .cont=>iJ t body k p.2
   | .brk=>ret (.next,p.2)
   | .ret d=>ret (.ret d,p.2))else ret (.next,σ)) G QS E
  refine ay (ao (hs σ G m p) (fun c G1 q=>?_) fun _ _ z=>z)
  cases c with
  |false=>exact q
  |true=>
   refine ay (ao q (fun r G2 q2=>?_) fun _ _ z=>z)
   obtain⟨f,σ'⟩:=r
   cases f with
   |next=>obtain⟨m',h1,h2⟩:=q2;exact ul P hs k σ' G2 m' (by omega) h2
   |cont=>obtain⟨m',h1,h2⟩:=q2;exact ul P hs k σ' G2 m' (by omega) h2
   |brk=>exact q2
   |ret d=>exact q2
theorem vE{t:T3}{body:S3}{m:Nat}(P:St->Hh->Nat->Prop)(hs:∀σ G m,P σ G m->run (t σ) G (fun c G1=>if c=true then run (body σ) G1 (fun p G2=>match p.1 with
 | .next=>∃m',m' < m/\P p.2 G2 m'
 | .cont=>∃m',m' < m/\P p.2 G2 m'
 | .brk=>QS (.next,p.2) G2
 | .ret d=>QS (.ret d,p.2) G2) E else QS (.next,σ) G1) E) (hm:m < 1000000000) (h:P σ G m):run (tN t body σ) G QS E:=ul P hs tR σ G m hm h
end
end KH
namespace KS
open PySem M3 KC KH
abbrev Pr:=(Int×Int)×Int
def pD(p:Pr):D:= .tup [.tup [.int p.1.1,.int p.1.2],.int p.2]
def opD:Option Pr->D
 |none=>.non
 |some p=>pD p
def oD:Option Int->D
 |none=>.non
 |some i=>.int i
theorem pw(o:Option Pr):decide (opD o= .non)=o.isNone:=by cases o <;> rfl
theorem BX(o:Option Int):decide (oD o= .non)=o.isNone:=by cases o <;> rfl
structure Lt where
 hand:Nat
 kpr:Nat
 num:Int
 pair:Option Pr
def ltD(l:Lt):D:= .tup [.int (l.hand:Int),.int (l.kpr:Int),.int l.num,opD l.pair]
def enD(e:Bool×Lt):D:= .tup [.bl e.1,ltD e.2]
def gtS(a b:Int×Int):Bool:=oX [b.1,b.2] [a.1,a.2]
def better(b p:Pr):Pr:=if gtS p.1 b.1 then p else b
def start:Pr:=((0,0),0)
def pf(ps:List Pr):Pr:=ps.foldl better start
def turns(ps:List Pr):List Int:=ps.map fun p=>p.1.1
def nH(ps:List Pr)(own:Int):Int:=match turns ps++[own]with
 |m :: r=>jz m r
 | []=>0
structure Kr where
 pair:Pr
 up:Bool
def krF(k:Kr):List (Nat×D):=[(4,pD k.pair),(8,.bl k.up)]
structure Hd where
 num:Nat
 cnt:Nat
 atw:Bool
 val:Option Int
 pair:Option Pr
 rnd:Int
 ar:List (Nat×Option Pr)
 own:Int
def hdF(h:Hd)(d:Nat):List (Nat×D):=[(0,.int (h.num:Int)),(1,.int (h.cnt:Int)),(2,.bl h.atw),(3,oD h.val),(4,opD h.pair),(5,.int h.rnd),(6,.ref d),(7,.int h.own)]
def cY(l:List (Nat×Option Pr)):List (Key×D):=l.map fun e=>(.inl (e.1:Int),opD e.2)
def gw(G:Hh)(a:Nat)(k:Kr):Prop:=G[a]? =some (.ins 1 (krF k))
def fg(G:Hh)(a d:Nat)(h:Hd):Prop:=G[a]? =some (.ins 0 (hdF h d))/\G[d]? =some (.dK (cY h.ar))
section
variable{G:Hh}{Q:D->Hh->Prop}{E:Nat->Hh->Prop}
theorem yV{c m:Int}(h:Q (.bl (decide (c < m*2))) G):run (kF [.int c,.int m]) G Q E:=by
 walk_at "f"
 unfold nX
 walk_at "r"
 exact h
theorem As{l:Nat}{ps:List Pr}(hl:G[l]? =some (.lst (ps.map pD)))(h:Q (pD (pf ps)) G):run (mX [.ref l]) G Q E:=by
 walk_at "f"
 unfold pM
 walk_at "r"
 refine fv hl ?_
 refine lW (fun i σ G'=>G'=G/\∃x,σ=[some (.ref l),some (pD ((ps.take i).foldl better start)),x]) ?_ ?_ ?_ ⟨rfl,none,rfl⟩
 · rintro i σ G' ⟨rfl,_⟩
   exact qZ_ hl
 · rintro i p σ G' hp ⟨rfl,y,rfl⟩
   unfold pD
   walk_at "r"
   have key:(ps.take (i+1)).foldl better start=better ((ps.take i).foldl better start) p:=by rw[take_succ hp,List.foldl_append];rfl
   refine w_ite (fun c=>?_) fun c=>?_
   · walk_at "r"
     refine⟨rfl,some (pD p),?_⟩
     have:(ps.take (i+1)).foldl better start=p:=by rw[key,better,if_pos (show gtS p.1 _=true from c)]
     rw[this];rfl
   · walk_at "r"
     refine⟨rfl,some (pD p),?_⟩
     have:(ps.take (i+1)).foldl better start=(ps.take i).foldl better start:=by rw[key,better,if_neg (by rw[show gtS p.1 _=false from c];exact qC_)]
     rw[this];rfl
 · rintro σ G' ⟨rfl,y,rfl⟩
   walk_at "r"
   rw[List.take_length]
   exact h
theorem rF{l:Nat}{ps:List Pr}{own hand:Int}(hl:G[l]? =some (.lst (ps.map pD)))(hz:ps.length<=1000)(h:∀G',Ext G G'->Q (.tup [.int (nH ps own+1),.int hand]) G'):run (fC [.ref l,.int own,.int hand]) G Q E:=by
 walk_at "f"
 unfold ia
 walk_at "r"
 refine fv hl ?_
 refine kP (p:=fun _=>true) (g:=fun p:Pr=>D.int p.1.1) (qZ_ hl) (by omega) (fun x _=>gQ ⟨rfl,rfl⟩) (fun x _ _=>?_) ?_
 · unfold pD
   walk_at "r"
   exact⟨rfl,rfl⟩
 have e1:(ps.filter fun _=>true).map (fun p:Pr=>D.int p.1.1)=(turns ps).map D.int:=by
  rw[List.filter_eq_self.mpr (fun _ _=>rfl)]
  unfold turns
  rw[qb_]
  rfl
 rw[e1]
 walk_at "r"
 have tl:(turns ps).length=ps.length:=by unfold turns;rw[qM_]
 refine Cr ((Ext.add _ _).get (aZ G _)) (aZ _ _) (by rw[qM_,tl];simp [aA];omega) ?_
 walk_at "r"
 have e2:intsOf ((turns ps).map D.int++[.int own])=some (turns ps++[own]):=by
  induction turns ps with
  |nil=>rfl
  |cons a r ih=>show Option.map _ (intsOf (r.map D.int++[.int own]))=_;rw[ih];rfl
 cases q:turns ps++[own]with
 |nil=>simp at q
 |cons m r=>
  rw[q]at e2
  refine Hm (aZ _ _) e2 ?_
  walk_at "r"
  have e3:nH ps own=jz m r:=by unfold nH;rw[q]
  rw[<-e3]
  exact h _ (((Ext.add _ _).trans (Ext.add _ _)).trans (Ext.add _ _))
variable{a d:Nat}{k:Kr}{h:Hd}
theorem Ft{Q:D->Hh->Prop}(hk:gw G a k)(hq:∀G',Chg [a] G G'->gw G' a {k with up:=false}->Q (.bl k.up) G'):run (fB [.ref a]) G Q E:=by
 unfold gw krF at hk
 walk_at "f"
 unfold hW
 walk_at "r"
 refine aI hk ⟨by decide,qP_ rfl⟩ fun G' hc hl hn=>?_
 walk_at "r"
 exact hq G' hc hn
theorem HJ{Q:D->Hh->Prop}(hk:gw G a k)(hq:∀G',Chg [a] G G'->gw G' a {k with up:=true}->Q (.bl (!k.up)) G'):run (fz [.ref a]) G Q E:=by
 unfold gw krF at hk
 walk_at "f"
 unfold iq
 walk_at "r"
 refine aI hk ⟨by decide,qP_ rfl⟩ fun G' hc hl hn=>?_
 walk_at "r"
 exact hq G' hc hn
def uM(k:Kr)(p:Pr):Kr:=if gtS p.1 k.pair.1 then {k with pair:=p} else k
theorem Gq{Q:D->Hh->Prop}{p:Pr}(hk:gw G a k)(hq:∀G',Chg [a] G G'->gw G' a (uM k p)->Q .non G'):run (fD [.ref a,pD p]) G Q E:=by
 unfold gw krF at hk
 walk_at "f"
 unfold ij pD
 walk_at "r"
 unfold uM at hq
 refine w_ite (fun c=>?_) fun c=>?_
 · rw[if_pos (show gtS p.1 k.pair.1=true from c)]at hq
   walk_at "r"
   refine aI hk ⟨by decide,qP_ rfl⟩ fun G' hc hl hn=>?_
   walk_at "r"
   exact hq G' hc hn
 · rw[if_neg (by rw[show gtS p.1 k.pair.1=false from c];exact qC_)]at hq
   walk_at "r"
   exact hq G (Chg.refl _ _) hk
def bB(k:Kr)(l:Lt):Kr×Option Lt:=
 if k.up then (match l.pair with
  |none=>(k,some {l with pair:=some k.pair})
  |some p=>(uM k p,some {l with pair:=none}))else (k,none)
def JO:Option Lt->D
 |none=>.non
 |some l=>ltD l
theorem u0{Q:D->Hh->Prop}{l:Lt}(hk:gw G a k)(hq:∀G',Chg [a] G G'->gw G' a (bB k l).1->Q (JO (bB k l).2) G'):run (cC [.ref a,ltD l]) G Q E:=by
 have hk0:=hk
 unfold gw krF at hk
 walk_at "f"
 unfold dM ltD
 unfold bB at hq
 walk_at "r"
 cases up:k.up with
 |false=>
  rw[up]at hq
  walk_at "r"
  exact hq G (Chg.refl _ _) hk0
 |true=>
  rw[up]at hq
  walk_at "r"
  rw[pw]
  cases lp:l.pair with
  |none=>
   rw[lp]at hq
   refine lR ?_
   walk_at "r"
   refine aD (a:=D.tup [.int (l.hand:Int),.int (l.kpr:Int),.int l.num]) (G':=G) rfl ?_
   walk_at "r"
   refine aD (a:=D.tup [.int (l.hand:Int),.int (l.kpr:Int),.int l.num,pD k.pair]) (G':=G) rfl ?_
   walk_at "r"
   exact hq G (Chg.refl _ _) hk0
  |some p=>
   rw[lp]at hq
   refine nW ?_
   walk_at "r"
   refine Gq hk0 fun G' hc hn=>?_
   walk_at "r"
   refine aD (a:=D.tup [.int (l.hand:Int),.int (l.kpr:Int),.int l.num]) (G':=G') rfl ?_
   walk_at "r"
   refine aD (a:=D.tup [.int (l.hand:Int),.int (l.kpr:Int),.int l.num,.non]) (G':=G') rfl ?_
   walk_at "r"
   exact hq G' hc hn
end
section
variable{G:Hh}{Q:D->Hh->Prop}{E:Nat->Hh->Prop}{a d:Nat}{h:Hd}
def kf(i c:Nat):Hd:=⟨i,c,false,none,none,0,[],0⟩
theorem ve{i c:Nat}(ha:G[a]? =some (.ins 0 []))(hq:∀G' d,Chg [a] G G'->G.length<=d->fg G' a d (kf i c)->Q .non G'):run (gU [.ref a,.int (i:Int),.int (c:Int)]) G Q E:=by
 walk_at "f"
 unfold jJ
 walk_at "r"
 refine aI ha ⟨by decide,qP_ rfl⟩ fun G1 c1 l1 h1=>?_
 walk_at "r"
 refine aI h1 ⟨by decide,qP_ rfl⟩ fun G2 c2 l2 h2=>?_
 walk_at "r"
 refine aI h2 ⟨by decide,qP_ rfl⟩ fun G3 c3 l3 h3=>?_
 walk_at "r"
 refine aI h3 ⟨by decide,qP_ rfl⟩ fun G4 c4 l4 h4=>?_
 walk_at "r"
 refine aI h4 ⟨by decide,qP_ rfl⟩ fun G5 c5 l5 h5=>?_
 walk_at "r"
 refine aI h5 ⟨by decide,qP_ rfl⟩ fun G6 c6 l6 h6=>?_
 refine w_next ?_
 refine aB (fy (pT fun G7 c7 l7 h7=>w_var rfl ?_))
 have h6':=c7.get h6 (by simp)
 refine aI h6' ⟨by decide,qP_ rfl⟩ fun G8 c8 l8 h8=>?_
 have hd8:=c8.get h7 (by have:=av h6;simp;omega)
 walk_at "r"
 refine aI h8 ⟨by decide,qP_ rfl⟩ fun G9 c9 l9 h9=>?_
 walk_at "r"
 have hd9:=c9.get hd8 (by have:=av h6;simp;omega)
 have cc:Chg [a] G G9:=(((((c1.trans c2).trans c3).trans c4).trans c5).trans c6).trans (((c7.mono (by simp)).trans c8).trans c9)
 exact hq G9 G6.length cc (by omega) ⟨h9,hd9⟩
def si(h:Hd):List Nat:=(List.range h.cnt).filter fun k=>!decide (k∈h.ar.map (·.1))
def bo(h:Hd):List Lt:=(si h).map fun k=>⟨h.num,k,h.rnd,h.pair⟩
theorem xm(l:List (Nat×Option Pr))(k:Nat):((look (cY l) (.inl (k:Int))).isSome)=decide (k∈l.map (·.1)):=by
 rw[vO]
 refine decide_eq_decide.mpr ⟨fun z=>?_,fun z=>?_⟩
 · unfold cY at z
   rw[qb_]at z
   obtain⟨e,he,ee⟩:=qH_.mp z
   have:(e.1:Int)=(k:Int):=Sum.inl.inj ee
   exact qH_.mpr ⟨e,he,by omega⟩
 · unfold cY
   rw[qb_]
   obtain⟨e,he,ee⟩:=qH_.mp z
   exact qH_.mpr ⟨e,he,by show Sum.inl (e.1:Int)=Sum.inl (k:Int);rw[ee]⟩
theorem Je(n:Nat):rng 0 n=(List.range n).map fun(k:Nat)=>D.int (k:Int):=by
 unfold rng
 congr 1
 funext k
 rw[Int.zero_add]
theorem kG(h:Hd):(si h).length<=h.cnt:=by
 unfold si
 have:=List.length_filter_le (fun k=>!decide (k∈h.ar.map (·.1))) (List.range h.cnt)
 rw[List.length_range]at this
 exact this
theorem sh(ha:fg G a d h)(hz:h.cnt<=1000)(hq:∀l G',Ext G G'->G.length<=l->G'[l]? =some (.lst ((bo h).map ltD))->Q (.ref l) G'):run (cx [.ref a]) G Q E:=by
 obtain⟨ha,hd⟩:=ha
 unfold hdF at ha
 walk_at "f"
 unfold gE
 walk_at "r"
 with_reducible refine M3.iF (by omega) ?_
 rw[Je]
 refine kP (p:=fun k:Nat=>!decide (k∈h.ar.map (·.1))) (g:=fun k:Nat=>D.int (k:Int)) rfl (by simp;omega) (fun x _=>?_) (fun x _ _=>w_var rfl ⟨rfl,rfl⟩) ?_
 · refine gB (aJ (w_var rfl (w_fld (w_var rfl (bc ha (by decide) rfl ?_)))))
   refine Dn (b:=decide (x∈h.ar.map (·.1))) ?_ ?_
   · unfold inG
     dsimp only
     rw[hd]
     show some (look (cY h.ar) (.inl (x:Int))).isSome=_
     rw[xm]
   exact⟨rfl,rfl⟩
 have e0:((List.range h.cnt).filter fun k:Nat=>!decide (k∈h.ar.map (·.1)))=si h:=rfl
 rw[e0]
 refine w_next ?_
 walk_at "s"
 have ha1:=(Ext.add G (.lst ((si h).map fun k:Nat=>D.int (k:Int)))).get ha
 refine bE (tU (oJ (w_var rfl (fv (aZ _ _) ?_))))
 have hw:=kG h
 refine kP (p:=fun _:Nat=>true) (g:=fun k:Nat=>ltD ⟨h.num,k,h.rnd,h.pair⟩) (qZ_ (aZ _ _)) (by omega) (fun x _=>gQ ⟨rfl,rfl⟩) (fun x _ _=>?_) ?_
 · walk_at "r"
   exact⟨rfl,rfl⟩
 rw[List.filter_eq_self.mpr (fun _ _=>rfl)]
 walk_at "r"
 refine hq _ _ ((Ext.add _ _).trans (Ext.add _ _)) (by simp) ?_
 rw[aZ]
 unfold bo
 rw[qb_]
 rfl
def roundF(h:Hd)(p:Option Pr):Hd:={h with rnd:=h.rnd+1,pair:=p,ar:=[]}
theorem lD{p:Option Pr}(ha:fg G a d h)(hz:h.cnt<=1000)(hq:∀l d' G',Chg [a] G G'->G.length<=d'->G.length<=l->fg G' a d' (roundF h p)->G'[l]? =some (.lst ((bo (roundF h p)).map ltD))->Q (.ref l) G'):run (bF [.ref a,opD p]) G Q E:=by
 obtain⟨ha,hd⟩:=ha
 unfold hdF at ha
 walk_at "f"
 unfold et
 walk_at "r"
 refine aI ha ⟨by decide,qP_ rfl⟩ fun G1 c1 l1 h1=>?_
 walk_at "r"
 refine aI h1 ⟨by decide,qP_ rfl⟩ fun G2 c2 l2 h2=>?_
 refine w_next ?_
 refine aB (fy (pT fun G3 c3 l3 h3=>w_var rfl ?_))
 have h2':=c3.get h2 (by simp)
 refine aI h2' ⟨by decide,qP_ rfl⟩ fun G4 c4 l4 h4=>?_
 have hd4:=c4.get h3 (by have:=av h2;simp;omega)
 refine w_next ?_
 refine bE (bh (w_var rfl (bR h4 (az ?_))))
 refine sh (h:=roundF h p) (d:=G2.length) ⟨h4,hd4⟩ hz fun l G5 x5 l5 h5=>?_
 walk_at "r"
 have cc:Chg [a] G G4:=(c1.trans c2).trans ((c3.mono (by simp)).trans c4)
 exact hq l G2.length G5 (cc.trans x5.chg) (by omega) (by omega) ⟨x5.get h4,x5.get hd4⟩ h5
def bj(h:Hd)(v:Option Int):Hd:=roundF {h with atw:=true,val:=v} none
theorem ym{v:Option Int}(ha:fg G a d h)(hz:h.cnt<=1000)(hb:h.atw=true->E 1004 G)(hq:h.atw=false->∀l d' G',Chg [a] G G'->G.length<=d'->G.length<=l->fg G' a d' (bj h v)->G'[l]? =some (.lst ((bo (bj h v)).map ltD))->Q (.ref l) G'):run (dm [.ref a,oD v]) G Q E:=by
 have ha0:=ha
 obtain⟨ha,hd⟩:=ha
 unfold hdF at ha
 walk_at "f"
 unfold iT
 walk_at "r"
 cases q:h.atw with
 |true=>
  walk_at "r"
  exact hb q
 |false=>
  walk_at "r"
  rw[q]at ha
  refine aI ha ⟨by decide,qP_ rfl⟩ fun G1 c1 l1 h1=>?_
  walk_at "r"
  refine aI h1 ⟨by decide,qP_ rfl⟩ fun G2 c2 l2 h2=>?_
  refine w_next ?_
  refine bE (bh (w_var rfl (bR h2 (ak (w_c (az ?_))))))
  have hne:d≠a:=by rintro rfl;rw[ha]at hd;cases hd
  refine lD (p:=none) (h:={h with atw:=true,val:=v}) (d:=d) ⟨h2,c2.get (c1.get hd (by simpa using hne)) (by simpa using hne)⟩ hz fun l d' G3 c3 l3 l4 h3 h4=>?_
  walk_at "r"
  exact hq q l d' G3 ((c1.trans c2).trans c3) (by omega) (by omega) h3 h4
theorem rj{v:Int}(ha:fg G a d h)(hz:h.cnt<=1000)(hb:h.atw=true->E 1004 G)(hq:h.atw=false->∀l d' G',Chg [a] G G'->G.length<=d'->G.length<=l->fg G' a d' (bj h (some v))->G'[l]? =some (.lst ((bo (bj h (some v))).map ltD))->Q (.ref l) G'):run (cG [.ref a,.int v]) G Q E:=by
 have ha0:=ha.1
 unfold hdF at ha0
 walk_at "f"
 unfold dQ
 walk_at "r"
 refine ym (v:=some v) ha hz hb fun q l d' G' c l1 l2 h1 h2=>?_
 walk_at "r"
 exact hq q l d' G' c l1 l2 h1 h2
theorem t9(ha:fg G a d h)(hz:h.cnt<=1000)(hb:h.atw=true->E 1004 G)(hq:h.atw=false->∀l d' G',Chg [a] G G'->G.length<=d'->G.length<=l->fg G' a d' (bj h none)->G'[l]? =some (.lst ((bo (bj h none)).map ltD))->Q (.ref l) G'):run (cR [.ref a]) G Q E:=by
 have ha0:=ha.1
 unfold hdF at ha0
 walk_at "f"
 unfold eW
 walk_at "r"
 refine ym (v:=none) ha hz hb fun q l d' G' c l1 l2 h1 h2=>?_
 walk_at "r"
 exact hq q l d' G' c l1 l2 h1 h2
theorem lF(ha:fg G a d h)(hb:h.atw=false->E 1005 G)(hq:h.atw=true->Q .non G):run (bD [.ref a]) G Q E:=by
 obtain⟨ha,hd⟩:=ha
 unfold hdF at ha
 walk_at "f"
 unfold dS
 walk_at "r"
 cases q:h.atw with
 |true=>walk_at "r"
        exact hq q
 |false=>walk_at "r"
         exact hb q
theorem ud(ha:fg G a d h)(hz:h.cnt<=1000)(hb:h.atw=false->E 1005 G)(hq:h.atw=true->∀l G',Ext G G'->G.length<=l->G'[l]? =some (.lst ((bo h).map ltD))->Q (.ref l) G'):run (cQ [.ref a]) G Q E:=by
 have ha0:=ha.1
 unfold hdF at ha0
 walk_at "f"
 unfold eF
 walk_at "r"
 refine lF ha hb fun q=>?_
 walk_at "r"
 refine sh ha hz fun l G' x l1 h1=>?_
 walk_at "r"
 exact hq q l G' x l1 h1
theorem zl(ha:fg G a d h)(hb:h.atw=false->E 1005 G)(hq:h.atw=true->∀G',Chg [a] G G'->fg G' a d {h with atw:=false}->Q .non G'):run (eE [.ref a]) G Q E:=by
 have ha0:=ha.1
 unfold hdF at ha0
 have hne:d≠a:=by rintro rfl;have:=ha.2;rw[ha0]at this;cases this
 walk_at "f"
 unfold gG
 walk_at "r"
 refine lF ha hb fun q=>?_
 walk_at "r"
 refine aI ha0 ⟨by decide,qP_ rfl⟩ fun G1 c1 l1 h1=>?_
 walk_at "r"
 exact hq q G1 c1 ⟨h1,c1.get ha.2 (by simpa using hne)⟩
def bp(h:Hd)(ps:List Pr):Hd×Pr:=match h.val with
 |none=>(h,pf ps)
 |some v=>({h with own:=nH ps h.own+1},((nH ps h.own+1,(h.num:Int)),v))
theorem BC{ps:List Pr}(ha:fg G a d h)(hp:h.ar.map (·.2)=ps.map some)(hz:ps.length<=1000)(hq:∀G',Chg [a] G G'->fg G' a d (bp h ps).1->Q (pD (bp h ps).2) G'):run (fE [.ref a]) G Q E:=by
 obtain⟨ha,hd⟩:=ha
 unfold hdF at ha
 have hne:d≠a:=by rintro rfl;rw[ha]at hd;cases hd
 unfold bp at hq
 walk_at "f"
 unfold ir
 walk_at "r"
 refine CP hd ?_
 have e1:(cY h.ar).map (·.2)=ps.map pD:=by
  have:(h.ar.map (·.2)).map opD=(ps.map some).map opD:=by rw[hp]
  rw[qb_,qb_]at this
  unfold cY
  rw[qb_]
  exact this
 rw[e1]
 have x1:Ext G (G++[O.lst (ps.map pD)]):=Ext.add _ _
 have ha1:=x1.get ha
 have hd1:=x1.get hd
 have hl1:(G++[O.lst (ps.map pD)])[G.length]? =some (.lst (ps.map pD)):=aZ _ _
 generalize G++[O.lst (ps.map pD)]=G1 at x1 ha1 hd1 hl1
 generalize G.length=ll at hl1
 walk_at "r"
 rw[BX]
 cases hv:h.val with
 |none=>
  rw[hv]at hq
  refine lR ?_
  walk_at "r"
  refine As hl1 ?_
  walk_at "r"
  exact hq G1 x1.chg ⟨ha1,hd1⟩
 |some v=>
  rw[hv]at hq
  refine nW ?_
  walk_at "r"
  refine rF hl1 hz fun G2 x2=>?_
  have ha2:=x2.get ha1
  walk_at "r"
  refine aI ha2 ⟨by decide,qP_ rfl⟩ fun G3 c3 l3 h3=>?_
  have hd3:=c3.get (x2.get hd1) (by simpa using hne)
  rw[hv]at h3
  walk_at "r"
  exact hq G3 ((x1.trans x2).chg.trans c3) ⟨h3,hd3⟩
def aX(l:List (Nat×Option Pr))(k:Nat)(p:Option Pr):List (Nat×Option Pr):=
 if (l.any fun e=>decide (e.1=k))then l.map fun e=>if e.1=k then (e.1,p)else e else l++[(k,p)]
theorem FE(l:List (Nat×Option Pr))(k:Nat)(p:Option Pr):put (cY l) (.inl (k:Int)) (opD p)=cY (aX l k p):=by
 have key:∀e:Nat×Option Pr,decide ((Sum.inl (e.1:Int):Key)= .inl (k:Int))=decide (e.1=k):=fun e=>decide_eq_decide.mpr ⟨fun z=>by have:=Sum.inl.inj z;omega,fun z=>by rw[z]⟩
 unfold put aX
 have e1:((cY l).any fun kv=>decide (kv.1=(.inl (k:Int):Key)))=l.any fun e=>decide (e.1=k):=by
  unfold cY
  rw[List.any_map]
  congr 1
  funext e
  exact key e
 rw[e1]
 by_cases c:(l.any fun e=>decide (e.1=k))=true
 · rw[if_pos c,if_pos c]
   unfold cY
   rw[qb_,qb_]
   apply List.map_congr_left
   intro e _
   by_cases z:e.1=k
   · have z':(Sum.inl (e.1:Int):Key)= .inl (k:Int):=by rw[z]
     show (if (Sum.inl (e.1:Int):Key)= .inl (k:Int)then ((Sum.inl (e.1:Int):Key),opD p)else (Sum.inl (e.1:Int),opD e.2))=(Sum.inl ((if e.1=k then (e.1,p)else e).1:Int),opD (if e.1=k then (e.1,p)else e).2)
     rw[if_pos z',if_pos z]
   · have z':¬(Sum.inl (e.1:Int):Key)= .inl (k:Int):=fun w=>z (by have:=Sum.inl.inj w;omega)
     show (if (Sum.inl (e.1:Int):Key)= .inl (k:Int)then ((Sum.inl (e.1:Int):Key),opD p)else (Sum.inl (e.1:Int),opD e.2))=(Sum.inl ((if e.1=k then (e.1,p)else e).1:Int),opD (if e.1=k then (e.1,p)else e).2)
     rw[if_neg z',if_neg z]
 · rw[if_neg c,if_neg c]
   unfold cY
   rw[qT_]
   rfl
def vals(l:List (Nat×Option Pr)):List Pr:=l.filterMap (·.2)
theorem Dx{l:List (Nat×Option Pr)}(hl:∀e∈l,e.2.isSome=true):l.map (·.2)=(vals l).map some:=by
 induction l with
 |nil=>rfl
 |cons e r ih=>
  have h1:=hl e qI_
  obtain⟨p,hp⟩:=Option.isSome_iff_exists.mp h1
  unfold vals at*
  rw[List.filterMap_cons,hp]
  simp only[List.map_cons,hp]
  rw[ih fun x hx=>hl x (qR_ _ hx)]
theorem BK(l:List (Nat×Option Pr)):(vals l).length<=l.length:=List.length_filterMap_le _ _
def aM(h:Hd)(l:Lt):Hd×List Lt×Option Pr:=
 if (!h.atw||!decide (l.num=h.rnd))=true then (h,[],none)
 else
  let h1:Hd:={h with ar:=aX h.ar l.kpr l.pair}
  if (!decide (h.cnt < h1.ar.length*2))=true then (h1,[],none)
  else match h.pair with
   |none=>let c:=bp h1 (vals h1.ar);(roundF c.1 (some c.2),bo (roundF c.1 (some c.2)),none)
   |some p=>({h1 with atw:=false},[],some p)
theorem iO(h:Hd)(ps:List Pr):(bp h ps).1.cnt=h.cnt:=by unfold bp;cases h.val <;> rfl
theorem HI{l:Lt}(ha:fg G a d h)(hz:h.cnt<=1000)(hz2:(aX h.ar l.kpr l.pair).length<=1000)(hok:h.atw=true->l.num=h.rnd->h.pair=none->∀e∈aX h.ar l.kpr l.pair,e.2.isSome=true)
 (hq:∀ll d' G',Chg [a,d] G G'->(d'=d\/G.length<=d')->G.length<=ll->fg G' a d' (aM h l).1->G'[ll]? =some (.lst ((aM h l).2.1.map ltD))->Q (.tup [.ref ll,opD (aM h l).2.2]) G'):run (gW [.ref a,ltD l]) G Q E:=by
 have ha0:=ha
 obtain⟨ha,hd⟩:=ha
 unfold hdF at ha
 have hne:d≠a:=by rintro rfl;rw[ha]at hd;cases hd
 have nothing:run (aC (bO (aa (cS ai) (aa (eC .non) ai))) [some (.ref a),some (ltD l)]) G (fun p G1=>p.1= .ret (.tup [.ref G.length,.non])/\Chg [] G G1/\G1[G.length]? =some (.lst [])) E:=by
  refine bE (xR (ak (dI fun G1 c1 l1 h1=>ak (w_c (az ⟨qP_ (by with_unfolding_all rfl),rfl,c1,h1⟩)))))
 unfold aM at hq
 walk_at "f"
 unfold jU
 refine aB (cK (ox (ig (iB (w_fld (w_var rfl (bc ha (by decide) rfl (mn ?_))))))))
 have stop:(!h.atw||!decide (l.num=h.rnd))=true->∀p G1,(p:Fl×St).1= .ret (.tup [.ref G.length,.non])/\Chg [] G G1/\G1[G.length]? =some (.lst [])->Q (.tup [.ref G.length,.non]) G1:=fun c p G1 ⟨_,c1,h1⟩=>by
  rw[if_pos c]at hq
  exact hq G.length d G1 (c1.mono (by simp)) (.inl rfl) (qO_ _) ⟨c1.get ha (by simp),c1.get hd (by simp)⟩ h1
 cases qa:h.atw with
 |false=>
  refine pk ?_
  refine gQ ?_
  refine lR ?_
  refine ao nothing (fun p G1 q=>?_) fun _ _ z=>z
  have qq:=stop (by rw[qa];rfl) p G1 q
  obtain⟨f,σ⟩:=p
  cases (show f= .ret (.tup [.ref G.length,.non])from q.1)
  walk_at "r"
  exact qq
 |true=>
  refine pA ?_
  unfold ltD
  walk_at "r"
  refine jy eq_int ?_
  walk_at "r"
  refine w_ite (fun c=>?_) fun c=>?_
  · refine ao nothing (fun p G1 q=>?_) fun _ _ z=>z
    have qq:=stop (by rw[qa];simpa using c) p G1 q
    obtain⟨f,σ⟩:=p
    cases (show f= .ret (.tup [.ref G.length,.non])from q.1)
    walk_at "r"
    exact qq
  have hnum:l.num=h.rnd:=by simpa using c
  have hc0:¬(!h.atw||!decide (l.num=h.rnd))=true:=by rw[qa,hnum];simp
  rw[if_neg hc0]at hq
  walk_at "r"
  have hzl:(cY h.ar).length < aA:=by
   have:h.ar.length<=(aX h.ar l.kpr l.pair).length:=by
    unfold aX
    split <;> simp
   unfold cY
   rw[qM_]
   unfold aA
   omega
  refine ya hd rfl hzl fun G1 c1 l1 h1=>?_
  rw[FE]at h1
  have ha1:=c1.get ha (by simpa using Ne.symm hne)
  have c1':Chg [a,d] G G1:=c1.mono (by simp)
  walk_at "r"
  refine FV h1 ?_
  have e2:(cY (aX h.ar l.kpr l.pair)).length=(aX h.ar l.kpr l.pair).length:=by unfold cY;rw[qM_]
  rw[e2]
  walk_at "r"
  with_reducible refine yV ?_
  have e3:decide ((h.cnt:Int) < ((aX h.ar l.kpr l.pair).length:Int)*2)=decide (h.cnt < (aX h.ar l.kpr l.pair).length*2):=decide_eq_decide.mpr (by omega)
  rw[e3]
  walk_at "r"
  dsimp only at hq
  cases qm:decide (h.cnt < (aX h.ar l.kpr l.pair).length*2)with
  |false=>
   rw[qm]at hq
   rw[if_pos (show (!false)=true from rfl)]at hq
   walk_at "r"
   have c2:Chg [] G1 (G1++[O.lst []]):=Chg.add _ _
   exact hq G1.length d (G1++[O.lst []]) (c1'.trans (c2.mono (by simp))) (.inl rfl) (Nat.le_of_eq l1.symm) ⟨c2.get ha1 (by simp),c2.get h1 (by simp)⟩ (aZ _ _)
  |true=>
   rw[qm]at hq
   rw[if_neg (show ¬(!true)=true from qC_)]at hq
   walk_at "r"
   rw[pw]
   cases qp:h.pair with
   |none=>
    rw[qp]at hq
    refine lR ?_
    dsimp only at hq
    have hv:=Dx (hok qa hnum qp)
    have hvl:=BK (aX h.ar l.kpr l.pair)
    walk_at "r"
    have hat1:fg G1 a d {h with ar:=aX h.ar l.kpr l.pair,pair:=none}:=⟨by rw[qp]at ha1;exact ha1,h1⟩
    refine BC hat1 hv (by omega) fun G2 c2 h2=>?_
    have hcn:=iO {h with ar:=aX h.ar l.kpr l.pair,pair:=none} (vals (aX h.ar l.kpr l.pair))
    generalize bp {h with ar:=aX h.ar l.kpr l.pair,pair:=none} (vals (aX h.ar l.kpr l.pair))=ch at hq h2 hcn
    walk_at "r"
    refine lD (p:=some ch.2) h2 (by rw[hcn];exact hz) fun ll d' G3 c3 l3 l4 h3 h4=>?_
    walk_at "r"
    have g2:=c2.1
    exact hq ll d' G3 ((c1'.trans (c2.mono (by simp))).trans (c3.mono (by simp))) (.inr (by omega)) (by omega) h3 h4
   |some p=>
    rw[qp]at hq
    refine nW ?_
    walk_at "r"
    refine aI ha1 ⟨by decide,qP_ rfl⟩ fun G2 c2 l2 h2=>?_
    have hd2:=c2.get h1 (by simpa using hne)
    refine w_next ?_
    refine bE (xR (ak (dI fun G3 c3 l3 h3=>?_)))
    have h23:=c3.get h2 (by simp)
    have hd3:=c3.get hd2 (by simp)
    refine ak (w_fld (w_var rfl (bc h23 (by decide) rfl (az ⟨qP_ (by with_unfolding_all rfl),?_⟩))))
    walk_at "r"
    rw[qp]
    refine hq G2.length d G3 ((c1'.trans (c2.mono (by simp))).trans (c3.mono (by simp))) (.inl rfl) (by omega) ⟨?_,hd3⟩ h3
    rw[qp]at h23
    exact h23
end
structure Hl where
 ks:List Kr
 hs:List Hd
 row:List (Bool×Lt)
structure Ad where
 a:Nat
 lk:Nat
 lh:Nat
 lr:Nat
 ka:List Nat
 ha:List Nat
 da:List Nat
def Ad.foot(A:Ad):List Nat:=[A.a,A.lk,A.lh,A.lr]++(A.ka++(A.ha++A.da))
def refs(xs:List Nat):List D:=xs.map D.ref
structure bu (G:Hh) (A:Ad) (st:Hl):Prop where
 o:G[A.a]? =some (.ins 2 [(9,.ref A.lk),(10,.ref A.lh),(11,.ref A.lr)])
 k:G[A.lk]? =some (.lst (refs A.ka))
 h:G[A.lh]? =some (.lst (refs A.ha))
 r:G[A.lr]? =some (.lst (st.row.map enD))
 kl:A.ka.length=st.ks.length
 hl:A.ha.length=st.hs.length
 dl:A.da.length=st.hs.length
 kr:∀(i:Nat) a k,A.ka[i]? =some a->st.ks[i]? =some k->gw G a k
 hd:∀(i:Nat) a d h,A.ha[i]? =some a->A.da[i]? =some d->st.hs[i]? =some h->fg G a d h
 nd:A.foot.Nodup
section
variable{G G':Hh}{Q:D->Hh->Prop}{E:Nat->Hh->Prop}{A:Ad}{st:Hl}
theorem bu.lt(H:bu G A st):∀n∈A.foot,n < G.length:=by
 intro n hn
 unfold Ad.foot at hn
 rcases qG_.mp hn with z |z
 · simp only[qS_,List.not_mem_nil,or_false]at z
   rcases z with rfl |rfl |rfl |rfl
   · exact av H.o
   · exact av H.k
   · exact av H.h
   · exact av H.r
 · rcases qG_.mp z with z |z
   · obtain⟨i,hi,e⟩:=List.getElem_of_mem z
     have h1:A.ka[i]? =some n:=by rw[qA_ hi,e]
     have h2:i < st.ks.length:=by rw[<-H.kl];exact hi
     exact av (H.kr i n _ h1 (qA_ h2))
   · have lens:=H.dl.trans H.hl.symm
     rcases qG_.mp z with z |z
     · obtain⟨i,hi,e⟩:=List.getElem_of_mem z
       have h1:A.ha[i]? =some n:=by rw[qA_ hi,e]
       have h2:i < st.hs.length:=by rw[<-H.hl];exact hi
       have h3:i < A.da.length:=by rw[H.dl];exact h2
       exact av (H.hd i n _ _ h1 (qA_ h3) (qA_ h2)).1
     · obtain⟨i,hi,e⟩:=List.getElem_of_mem z
       have h1:A.da[i]? =some n:=by rw[qA_ hi,e]
       have h2:i < st.hs.length:=by rw[<-H.dl];exact hi
       have h3:i < A.ha.length:=by rw[H.hl];exact h2
       exact av (H.hd i _ n _ (qA_ h3) h1 (qA_ h2)).2
theorem fg.chg{S:List Nat}{a d:Nat}{h:Hd}(x:fg G a d h)(c:Chg S G G')(h1:a∉S)(h2:d∉S):fg G' a d h:=⟨c.get x.1 h1,c.get x.2 h2⟩
theorem xP{i a:Nat}(h:A.ka[i]? =some a):a∈A.foot:=by unfold Ad.foot;simp [qD_ h]
theorem vj{i a:Nat}(h:A.ha[i]? =some a):a∈A.foot:=by unfold Ad.foot;simp [qD_ h]
theorem yj{i a:Nat}(h:A.da[i]? =some a):a∈A.foot:=by unfold Ad.foot;simp [qD_ h]
theorem bu.frame{S:List Nat}(H:bu G A st)(c:Chg S G G')(hs:∀n∈S,n∉A.foot):bu G' A st:=by
 have ns:∀n∈A.foot,n∉S:=fun n h z=>hs n z h
 exact⟨c.get H.o (ns _ (by simp [Ad.foot])),c.get H.k (ns _ (by simp [Ad.foot])),c.get H.h (ns _ (by simp [Ad.foot])),c.get H.r (ns _ (by simp [Ad.foot])),H.kl,H.hl,H.dl,
  fun i a k h1 h2=>c.get (H.kr i a k h1 h2) (ns _ (xP h1)),fun i a d h h1 h2 h3=>(H.hd i a d h h1 h2 h3).chg c (ns _ (vj h1)) (ns _ (yj h2)),H.nd⟩
theorem qV(nd:A.foot.Nodup):(A.a≠A.lk/\A.a≠A.lh/\A.a≠A.lr/\A.lk≠A.lh/\A.lk≠A.lr/\A.lh≠A.lr)/\(∀x∈A.ka++(A.ha++A.da),x≠A.a/\x≠A.lk/\x≠A.lh/\x≠A.lr)/\A.ka.Nodup/\(∀x∈A.ka,x∉A.ha/\x∉A.da)/\A.ha.Nodup/\A.da.Nodup/\∀x∈A.ha,x∉A.da:=by
 unfold Ad.foot at nd
 rw[List.nodup_append]at nd
 obtain⟨n1,n2,n3⟩:=nd
 rw[List.nodup_append]at n2
 obtain⟨n4,n5,n6⟩:=n2
 rw[List.nodup_append]at n5
 obtain⟨n7,n8,n9⟩:=n5
 refine⟨?_,fun x hx=>⟨fun z=>n3 A.a (by simp) x hx z.symm,fun z=>n3 A.lk (by simp) x hx z.symm,fun z=>n3 A.lh (by simp) x hx z.symm,fun z=>n3 A.lr (by simp) x hx z.symm⟩,n4,fun x hx=>⟨fun z=>n6 x hx x (qF_ _ z) rfl,fun z=>n6 x hx x (qE_ _ z) rfl⟩,n7,n8,fun x hx z=>n9 x hx x z rfl⟩
 simp only[List.nodup_cons,qS_,List.not_mem_nil,or_false,not_or]at n1
 obtain⟨⟨a1,a2,a3⟩,⟨a4,a5⟩,a6,_⟩:=n1
 exact⟨a1,a2,a3,a4,a5,a6⟩
theorem get_inj{xs:List Nat}(nd:xs.Nodup){i j x:Nat}(h1:xs[i]? =some x)(h2:xs[j]? =some x):i=j:=by
 obtain⟨l1,e1⟩:=qB_.mp h1
 obtain⟨l2,e2⟩:=qB_.mp h2
 exact(List.getElem_inj nd).mp (e1.trans e2.symm)
theorem IZ{xs:List Nat}(h:∀(i j x:Nat),xs[i]? =some x->xs[j]? =some x->i=j):xs.Nodup:=by
 unfold List.Nodup
 rw[List.pairwise_iff_getElem]
 intro i j hi hj hij e
 have:=h i j xs[i] (qA_ hi) (by rw[qA_ hj,e])
 omega
theorem bu.Gv{i a:Nat}{k:Kr}(H:bu G A st)(hi:A.ka[i]? =some a)(c:Chg [a] G G')(hk:gw G' a k):bu G' A {st with ks:=st.ks.set i k}:=by
 obtain⟨_,q,nk,nkh,_⟩:=qV H.nd
 have ha:=qD_ hi
 obtain⟨e1,e2,e3,e4⟩:=q a (qF_ _ ha)
 have ns:∀n,n≠a->n∉ [a]:=fun n h z=>h (by simpa using z)
 refine⟨c.get H.o (ns _ (Ne.symm e1)),c.get H.k (ns _ (Ne.symm e2)),c.get H.h (ns _ (Ne.symm e3)),c.get H.r (ns _ (Ne.symm e4)),by simp [H.kl],H.hl,H.dl,fun j b k' h1 h2=>?_,fun j b d h h1 h2 h3=>?_,H.nd⟩
 · by_cases z:j=i
   · subst z
     rw[hi]at h1
     cases h1
     have:j < st.ks.length:=by rw[<-H.kl];exact(qB_.mp hi).1
     rw[qU_ this]at h2
     cases h2
     exact hk
   · have h2:st.ks[j]? =some k':=by
      have h2:(st.ks.set i k)[j]? =some k':=h2
      rw[qV_ (Ne.symm z)]at h2
      exact h2
     refine c.get (H.kr j b k' h1 h2) (ns _ fun w=>z ?_)
     subst w
     exact get_inj nk h1 hi
 · refine(H.hd j b d h h1 h2 h3).chg c (ns _ fun w=>?_) (ns _ fun w=>?_)
   · subst w;exact(nkh _ ha).1 (qD_ h1)
   · subst w;exact(nkh _ ha).2 (qD_ h2)
theorem bu.Gi{i a d d':Nat}{h:Hd}(H:bu G A st)(hi:A.ha[i]? =some a)(hj:A.da[i]? =some d)(c:Chg [a,d] G G')(hd':d'=d\/G.length<=d')(hk:fg G' a d' h):bu G' {A with da:=A.da.set i d'} {st with hs:=st.hs.set i h}:=by
 obtain⟨p0,q,nk,nkh,nh,nD,nhd⟩:=qV H.nd
 have ha:=qD_ hi
 have hda:=qD_ hj
 obtain⟨e1,e2,e3,e4⟩:=q a (qE_ _ (qF_ _ ha))
 obtain⟨g1,g2,g3,g4⟩:=q d (qE_ _ (qE_ _ hda))
 have ns:∀n,n≠a->n≠d->n∉ [a,d]:=fun n h1 h2 z=>by
  simp only[qS_,List.not_mem_nil,or_false]at z
  exact z.elim h1 h2
 have fresh:∀n∈A.foot,n=d'->d'=d:=fun n hn z=>by
  rcases hd' with w |w
  · exact w
  · have:=H.lt n hn;omega
 have mem_set:∀x,x∈A.da.set i d'->x=d'\/x∈A.da/\x≠d:=fun x hx=>by
  obtain⟨j,hjl,e⟩:=List.getElem_of_mem hx
  have e':(A.da.set i d')[j]? =some x:=by rw[qA_ hjl,e]
  by_cases z:j=i
  · subst z
    rw[qU_ (qB_.mp hj).1]at e'
    cases e'
    exact .inl rfl
  · rw[qV_ (Ne.symm z)]at e'
    exact .inr ⟨qD_ e',fun w=>z (by subst w;exact get_inj nD e' hj)⟩
 refine⟨c.get H.o (ns _ (Ne.symm e1) (Ne.symm g1)),c.get H.k (ns _ (Ne.symm e2) (Ne.symm g2)),c.get H.h (ns _ (Ne.symm e3) (Ne.symm g3)),c.get H.r (ns _ (Ne.symm e4) (Ne.symm g4)),H.kl,by simp [H.hl],by simp [H.dl],fun j b k' h1 h2=>?_,fun j b dd hh h1 h2 h3=>?_,?_⟩
 · refine c.get (H.kr j b k' h1 h2) (ns _ (fun w=>?_) fun w=>?_)
   · subst w;exact(nkh _ (qD_ h1)).1 ha
   · subst w;exact(nkh _ (qD_ h1)).2 hda
 · have h2:(A.da.set i d')[j]? =some dd:=h2
   have h3:(st.hs.set i h)[j]? =some hh:=h3
   by_cases z:j=i
   · subst z
     rw[hi]at h1
     cases h1
     rw[qU_ (qB_.mp hj).1]at h2
     rw[qU_ (by rw[<-H.hl];exact(qB_.mp hi).1)]at h3
     cases h2
     cases h3
     exact hk
   · rw[qV_ (Ne.symm z)]at h2 h3
     refine(H.hd j b dd hh h1 h2 h3).chg c (ns _ (fun w=>z ?_) fun w=>?_) (ns _ (fun w=>?_) fun w=>z ?_)
     · subst w;exact get_inj nh h1 hi
     · subst w;exact nhd _ (qD_ h1) hda
     · subst w;exact nhd _ ha (qD_ h2)
     · subst w;exact get_inj nD h2 hj
 · by_cases hz:d'=d
   · subst hz
     have:A.da.set i d'=A.da:=by
      obtain⟨l,e⟩:=qB_.mp hj
      rw[<-e];exact List.set_getElem_self l
     unfold Ad.foot
     dsimp only
     rw[this]
     exact H.nd
   · have big:G.length<=d':=hd'.resolve_left hz
     have nd:=H.nd
     unfold Ad.foot at nd ⊢
     dsimp only
     rw[List.nodup_append]at nd ⊢
     obtain⟨n1,n2,n3⟩:=nd
     rw[List.nodup_append]at n2 ⊢
     obtain⟨n4,n5,n6⟩:=n2
     rw[List.nodup_append]at n5 ⊢
     obtain⟨n7,n8,n9⟩:=n5
     have old:∀x∈A.foot,x≠d':=fun x hx w=>by have:=H.lt x hx;omega
     have nset:(A.da.set i d').Nodup:=by
      refine IZ fun u v x e1 e2=>?_
      by_cases zu:u=i
      · by_cases zv:v=i
        · rw[zu,zv]
        · rw[zu,qU_ (qB_.mp hj).1]at e1
          cases e1
          rw[qV_ (Ne.symm zv)]at e2
          exact absurd rfl (old d' (yj e2))
      · rw[qV_ (Ne.symm zu)]at e1
        by_cases zv:v=i
        · rw[zv,qU_ (qB_.mp hj).1]at e2
          cases e2
          exact absurd rfl (old d' (yj e1))
        · rw[qV_ (Ne.symm zv)]at e2
          exact get_inj n8 e1 e2
     refine⟨n1,⟨n4,⟨n7,nset,fun x hx y hy=>?_⟩,fun x hx y hy=>?_⟩,fun x hx y hy=>?_⟩
     · rcases mem_set y hy with w |w
       · rw[w];exact old x (by unfold Ad.foot;simp [hx])
       · exact n9 x hx y w.1
     · rcases qG_.mp hy with w |w
       · exact n6 x hx y (qF_ _ w)
       · rcases mem_set y w with w |w
         · rw[w];exact old x (by unfold Ad.foot;simp [hx])
         · exact n6 x hx y (qE_ _ w.1)
     · rcases qG_.mp hy with w |w
       · exact n3 x hx y (qF_ _ w)
       · rcases qG_.mp w with w |w
         · exact n3 x hx y (qE_ _ (qF_ _ w))
         · rcases mem_set y w with w |w
           · rw[w];exact old x (by unfold Ad.foot;exact qF_ _ hx)
           · exact n3 x hx y (qE_ _ (qE_ _ w.1))
theorem bu.FC{row:List (Bool×Lt)}(H:bu G A st)(c:Chg [A.lr] G G')(hr:G'[A.lr]? =some (.lst (row.map enD))):bu G' A {st with row:=row}:=by
 obtain⟨⟨_,_,p3,_,p5,p6⟩,q,_⟩:=qV H.nd
 have ns:∀n,n≠A.lr->n∉ [A.lr]:=fun n h z=>h (by simpa using z)
 have nq:∀x∈A.ka++(A.ha++A.da),x≠A.lr:=fun x hx=>(q x hx).2.2.2
 exact⟨c.get H.o (ns _ p3),c.get H.k (ns _ p5),c.get H.h (ns _ p6),hr,H.kl,H.hl,H.dl,
  fun i a k h1 h2=>c.get (H.kr i a k h1 h2) (ns _ (nq _ (qF_ _ (qD_ h1)))),
  fun i a d h h1 h2 h3=>(H.hd i a d h h1 h2 h3).chg c (ns _ (nq _ (qE_ _ (qF_ _ (qD_ h1))))) (ns _ (nq _ (qE_ _ (qE_ _ (qD_ h2))))),H.nd⟩
end
structure WF (st:Hl):Prop where
 hk:∀(i:Nat) h,st.hs[i]? =some h->h.num=i/\h.cnt=st.ks.length/\(∀e∈h.ar,e.1 < st.ks.length)/\(h.ar.map (·.1)).Nodup/\(h.pair=none->∀e∈h.ar,e.2.isSome=true)
 rw:∀e∈st.row,∃h,st.hs[e.2.hand]? =some h/\e.2.kpr < st.ks.length/\e.2.num<=h.rnd/\(e.2.num=h.rnd->(e.1=false->e.2.pair=h.pair)/\(e.1=true->e.2.pair.isSome=h.pair.isNone))
 ksz:st.ks.length<=9
 hsz:st.hs.length<=9
def qU(e:Nat×Pr):D:= .tup [.int (e.1:Int),pD e.2]
def cO(st:Hl)(place:Nat)(stays:Bool):List (Bool×Lt):=if stays then st.row else st.row.eraseIdx place
def aL(st:Hl)(place:Nat)(stays:Bool):Hl×List (Nat×Pr):=
 match st.row[place]? with
 |none=>(st,[])
 |some (true,l)=>(match st.hs[l.hand]? with
  |none=>(st,[])
  |some h=>({st with hs:=st.hs.set l.hand (aM h l).1,row:=cO st place stays++(aM h l).2.1.map fun x=>(false,x)},match (aM h l).2.2 with
   |none=>[]
   |some p=>[(l.hand,p)]))
 |some (false,l)=>(match st.ks[l.kpr]? with
  |none=>(st,[])
  |some k=>({st with ks:=st.ks.set l.kpr (bB k l).1,row:=cO st place stays++(match (bB k l).2 with
   |none=>[]
   |some x=>[(true,x)])},[]))
structure Ad.To (A A':Ad) (n:Nat):Prop where
 a:A'.a=A.a
 lk:A'.lk=A.lk
 lh:A'.lh=A.lh
 lr:A'.lr=A.lr
 ka:A'.ka=A.ka
 ha:A'.ha=A.ha
 da:∀x∈A'.da,x∈A.da\/n<=x
theorem Ad.To.refl(A:Ad)(n:Nat):A.To A n:=⟨rfl,rfl,rfl,rfl,rfl,rfl,fun _ h=>.inl h⟩
theorem Ad.To.trans{A B C:Ad}{n m:Nat}(x:A.To B n)(y:B.To C m)(h:n<=m):A.To C n:=
 ⟨y.a.trans x.a,y.lk.trans x.lk,y.lh.trans x.lh,y.lr.trans x.lr,y.ka.trans x.ka,y.ha.trans x.ha,fun z hz=>(y.da z hz).elim (x.da z) fun w=>.inr (Nat.le_trans h w)⟩
theorem Ad.To.foot{A B:Ad}{n:Nat}(x:A.To B n):∀z∈B.foot,z∈A.foot\/n<=z:=by
 intro z hz
 unfold Ad.foot at*
 rw[x.a,x.lk,x.lh,x.lr,x.ka,x.ha]at hz
 rcases qG_.mp hz with w |w
 · exact .inl (qF_ _ w)
 · rcases qG_.mp w with w |w
   · exact .inl (qE_ _ (qF_ _ w))
   · rcases qG_.mp w with w |w
     · exact .inl (qE_ _ (qE_ _ (qF_ _ w)))
     · exact(x.da z w).elim (fun w=>.inl (qE_ _ (qE_ _ (qE_ _ w)))) .inr
section
variable{G:Hh}{Q:D->Hh->Prop}{E:Nat->Hh->Prop}{A:Ad}{st:Hl}
theorem iY{xs:List Nat}{i a:Nat}(h:xs[i]? =some a):atI (refs xs) (i:Int)=some (.ref a):=g8 h
theorem bu.hand(H:bu G A st){i:Nat}{h:Hd}(e:st.hs[i]? =some h):∃a d,A.ha[i]? =some a/\A.da[i]? =some d/\fg G a d h:=by
 have hl:=(qB_.mp e).1
 have h1:i < A.ha.length:=by rw[H.hl];exact hl
 have h2:i < A.da.length:=by rw[H.dl];exact hl
 exact⟨_,_,qA_ h1,qA_ h2,H.hd i _ _ _ (qA_ h1) (qA_ h2) e⟩
theorem bu.FY(H:bu G A st){i:Nat}{k:Kr}(e:st.ks[i]? =some k):∃a,A.ka[i]? =some a/\gw G a k:=by
 have hl:=(qB_.mp e).1
 have h1:i < A.ka.length:=by rw[H.kl];exact hl
 exact⟨_,qA_ h1,H.kr i _ _ (qA_ h1) e⟩
theorem zK{n k:Nat}{xs:List D}{y:D}(hn:G[n]? =some (.lst xs))(hy:xs[k]? =some y)(hz:xs.length<=1000000)(h:∀G',Chg [n] G G'->G'.length=G.length->G'[n]? =some (.lst (xs.eraseIdx k))->Q y G'):run (mf (.ref n) (.int (k:Int))) G Q E:=by
 have hk:=(qB_.mp hy).1
 refine AQ hn (k:=k) ?_ hy (by omega) (h _ (Chg.set _ _ qI_) (by simp) (gy hn))
 unfold M3.ixN
 rw[if_pos (by omega),if_pos (by omega)]
 simp
theorem tY{ll:Nat}{ls:List Lt}(H:bu G A st)(hl:G[ll]? =some (.lst (ls.map ltD)))(hz:st.row.length+ls.length<=1000000)(hq:∀G',Chg [A.lr] G G'->bu G' A {st with row:=st.row++ls.map fun x=>(false,x)}->Q .non G'):run (bP [.ref A.a,.ref ll]) G Q E:=by
 have ho:=H.o
 walk_at "f"
 unfold jH
 walk_at "r"
 refine m4 H.r ?_
 walk_at "r"
 refine fv hl ?_
 refine kP (p:=fun _:Lt=>true) (g:=fun x=>enD (false,x)) (qZ_ hl) (by omega) (fun x _=>gQ ⟨rfl,rfl⟩) (fun x _ _=>?_) ?_
 · walk_at "r"
   exact⟨rfl,rfl⟩
 rw[List.filter_eq_self.mpr (fun _ _=>rfl)]
 have c1:Chg [] G (G++[O.lst (ls.map fun x=>enD (false,x))]):=Chg.add _ _
 have H1:bu (G++[O.lst (ls.map fun x=>enD (false,x))]) A st:=H.frame c1 (by simp)
 refine gM H1.r (aZ _ _) (by simp [aA];omega) fun G2 c2 l2 h2=>?_
 walk_at "r"
 refine hq G2 ((c1.mono (by simp)).trans c2) (H1.FC c2 ?_)
 rw[h2,qT_,qb_]
 rfl
theorem nK{l:Lt}{k:Kr}(H:bu G A st)(hk:st.ks[l.kpr]? =some k)(hz:st.row.length < 1000000)
 (hq:∀G',Chg A.foot G G'->bu G' A {st with ks:=st.ks.set l.kpr (bB k l).1,row:=st.row++(match (bB k l).2 with |none=>[] |some x=>[(true,x)])}->Q .non G'):run (bW [.ref A.a,ltD l]) G Q E:=by
 obtain⟨a,ha,hka⟩:=H.FY hk
 have ho:=H.o
 have hka0:=hka
 unfold gw krF at hka0
 walk_at "f"
 unfold cN
 refine aB (bq (bh (aJ (w_fld (w_var rfl (bc ho (by decide) rfl (aJ (w_var rfl (w_c ?_)))))))))
 unfold ltD
 refine bb rfl ?_
 refine cP H.k (iY ha) (bR hka0 (ak (w_var rfl (az ?_))))
 refine u0 hka fun G1 c1 h1=>?_
 have H1:=H.Gv ha c1 h1
 have ho1:=H1.o
 have cf:Chg A.foot G G1:=c1.mono (by intro n hn;simp at hn;subst hn;exact xP ha)
 refine w_next ?_
 refine cK (gB (oi (w_var rfl ?_)))
 walk_at "r"
 cases q:(bB k l).2 with
 |none=>
  rw[q]at hq
  refine pA ?_
  walk_at "r"
  rw[qY_]at hq
  exact hq G1 cf H1
 |some x=>
  rw[q]at hq
  refine pk ?_
  walk_at "r"
  refine m4 H1.r ?_
  walk_at "r"
  refine nP H1.r (by rw[qM_];unfold aA;exact qd_ hz (by decide)) fun G2 c2 l2 h2=>?_
  walk_at "r"
  refine hq G2 (cf.trans (c2.mono (by intro n hn;simp at hn;subst hn;simp [Ad.foot]))) (H1.FC c2 ?_)
  rw[h2,qT_]
  rfl
theorem tm:∀(n:Nat) (m:List Nat),m.Nodup->(∀x∈m,x < n)->m.length<=n
 |0,m,_,h=>by
  cases m with
  |nil=>simp
  |cons a r=>exact absurd (h a qI_) (Nat.not_lt_zero _)
 |n+1,m,nd,h=>by
  by_cases hn:n∈m
  · have:=tm n (m.erase n) (nd.erase n) fun x hx=>by
     have h1:=nd.mem_erase_iff.mp hx
     have h2:=h x h1.2
     have h3:=h1.1
     omega
    rw[List.length_erase_of_mem hn]at this
    omega
  · have:=tm n m nd fun x hx=>by
     have h1:=h x hx
     have h2:x≠n:=fun z=>hn (z ▸ hx)
     omega
    omega
theorem Cq{l:List (Nat×Option Pr)}{k:Nat}{p:Option Pr}{n:Nat}(hn:(l.map (·.1)).Nodup)(hl:∀e∈l,e.1 < n)(hk:k < n):(aX l k p).length<=n:=by
 have key:∀m:List Nat,m.Nodup->(∀x∈m,x < n)->m.length<=n:=fun m h1 h2=>tm n m h1 h2
 unfold aX
 split
 · rw[qM_,<-qM_ (f:=(·.1))]
   exact key _ hn fun x hx=>by obtain⟨e,he,rfl⟩:=qH_.mp hx;exact hl e he
 · rename_i hc
   have:((l++[(k,p)]).map (·.1)).length<=n:=by
    refine key _ ?_ fun x hx=>?_
    · rw[qT_,List.nodup_append]
      refine⟨hn,by simp,fun x hx y hy=>?_⟩
      simp at hy
      subst hy
      rintro rfl
      obtain⟨e,he,ee⟩:=qH_.mp hx
      exact hc (List.any_eq_true.mpr ⟨e,he,qZ_ ee⟩)
    · obtain⟨e,he,rfl⟩:=qH_.mp hx
      rcases qG_.mp he with z |z
      · exact hl e z
      · simp at z;rw[z];exact hk
   rw[qM_]at this
   exact this
theorem mQ{l:List (Nat×Option Pr)}{k:Nat}{p:Option Pr}{e:Nat×Option Pr}(h:e∈aX l k p):(e.1=k/\e.2=p)\/e∈l:=by
 unfold aX at h
 split at h
 · obtain⟨x,hx,ex⟩:=qH_.mp h
   split at ex
   · rename_i z;subst ex;exact .inl ⟨z,rfl⟩
   · subst ex;exact .inr hx
 · rcases qG_.mp h with z |z
   · exact .inr z
   · simp at z;rw[z];exact .inl ⟨rfl,rfl⟩
theorem tq(h:Hd)(l:Lt):(aM h l).2.1.length<=h.cnt:=by
 unfold aM
 split
 · simp
 · dsimp only
   split
   · simp
   · split
     · dsimp only
       unfold bo
       rw[qM_]
       have:=kG (roundF (bp {h with ar:=aX h.ar l.kpr l.pair} (vals (aX h.ar l.kpr l.pair))).1 (some (bp {h with ar:=aX h.ar l.kpr l.pair} (vals (aX h.ar l.kpr l.pair))).2))
       rw[show (roundF (bp {h with ar:=aX h.ar l.kpr l.pair} (vals (aX h.ar l.kpr l.pair))).1 (some (bp {h with ar:=aX h.ar l.kpr l.pair} (vals (aX h.ar l.kpr l.pair))).2)).cnt=h.cnt from iO _ _]at this
       exact this
     · simp
theorem qH{l:Lt}{h:Hd}(H:bu G A st)(hh:st.hs[l.hand]? =some h)(hc:h.cnt<=9)(hz2:(aX h.ar l.kpr l.pair).length<=1000)(hok:h.atw=true->l.num=h.rnd->h.pair=none->∀e∈aX h.ar l.kpr l.pair,e.2.isSome=true)(hz:st.row.length < 900000)
 (hq:∀le A' G',Chg A.foot G G'->A.To A' G.length->G.length<=le->bu G' A' {st with hs:=st.hs.set l.hand (aM h l).1,row:=st.row++(aM h l).2.1.map fun x=>(false,x)}->G'[le]? =some (.lst ((match (aM h l).2.2 with |none=>[] |some p=>[(l.hand,p)]).map qU))->Q (.ref le) G'):run (cq [.ref A.a,ltD l]) G Q E:=by
 obtain⟨a,d,ha,hda,hat⟩:=H.hand hh
 have ho:=H.o
 have hat0:=hat.1
 unfold hdF at hat0
 walk_at "f"
 unfold dC
 refine aB (bq (bh (aJ (w_fld (w_var rfl (bc ho (by decide) rfl (aJ (w_var rfl (w_c ?_)))))))))
 unfold ltD
 refine bb rfl ?_
 refine cP H.h (iY ha) (bR hat0 (ak (w_var rfl (az ?_))))
 refine HI hat (by omega) hz2 hok fun ll d' G1 c1 l1 l2 h1 h2=>?_
 have H1:=H.Gi ha hda c1 l1 h1
 have ho1:G1[A.a]? =_:=H1.o
 have cf:Chg A.foot G G1:=c1.mono (by
  intro n hn
  simp only[qS_,List.not_mem_nil,or_false]at hn
  rcases hn with rfl |rfl
  · exact vj ha
  · exact yj hda)
 have to:A.To {A with da:=A.da.set l.hand d'} G.length:=⟨rfl,rfl,rfl,rfl,rfl,rfl,fun x hx=>by
  rcases List.mem_or_eq_of_mem_set hx with z |z
  · exact .inl z
  · rw[z]
    exact l1.elim (fun w=>.inl (by rw[w];exact qD_ hda)) .inr⟩
 have hl3:=tq h l
 generalize aM h l=r at*
 walk_at "r"
 refine tY (A:={A with da:=A.da.set l.hand d'}) H1 h2 (by show st.row.length+_<=_;omega) fun G2 c2 H2=>?_
 have c2f:Chg A.foot G1 G2:=c2.mono (by intro n hn;simp at hn;subst hn;simp [Ad.foot])
 have g1:=c1.1
 have g2:=c2.1
 walk_at "r"
 rw[pw]
 cases q:r.2.2 with
 |none=>
  rw[q]at hq
  refine lR ?_
  refine bE (dI fun G3 c3 l3 h3=>?_)
  walk_at "r"
  exact hq G2.length _ G3 ((cf.trans c2f).trans (c3.mono (by simp))) to (by omega) (H2.frame c3 (by simp)) h3
 |some p=>
  rw[q]at hq
  refine nW ?_
  walk_at "r"
  have c3:Chg [] G2 (G2++[O.lst [D.tup [D.int (l.hand:Int),opD (some p)]]]):=Chg.add _ _
  exact hq G2.length _ _ ((cf.trans c2f).trans (c3.mono (by simp))) to (by omega) (H2.frame c3 (by simp)) (aZ _ _)
end
def HOK(n i:Nat)(h:Hd):Prop:=h.num=i/\h.cnt=n/\(∀e∈h.ar,e.1 < n)/\(h.ar.map (·.1)).Nodup/\(h.pair=none->∀e∈h.ar,e.2.isSome=true)
def EOK(n:Nat)(hs:List Hd)(e:Bool×Lt):Prop:=∃h,hs[e.2.hand]? =some h/\e.2.kpr < n/\e.2.num<=h.rnd/\(e.2.num=h.rnd->(e.1=false->e.2.pair=h.pair)/\(e.1=true->e.2.pair.isSome=h.pair.isNone))
theorem wz{l:List (Nat×Option Pr)}{k:Nat}{p:Option Pr}(hn:(l.map (·.1)).Nodup):((aX l k p).map (·.1)).Nodup:=by
 unfold aX
 split
 · rw[qb_]
   have:((fun x:Nat×Option Pr=>x.1) ∘ fun e:Nat×Option Pr=>if e.1=k then (e.1,p)else e)=fun e=>e.1:=by
    funext e
    show (if e.1=k then (e.1,p)else e).1=e.1
    split <;> rfl
   rw[this]
   exact hn
 · rename_i hc
   rw[qT_,List.nodup_append]
   refine⟨hn,by simp,fun x hx y hy=>?_⟩
   simp at hy
   subst hy
   rintro rfl
   obtain⟨e,he,ee⟩:=qH_.mp hx
   exact hc (List.any_eq_true.mpr ⟨e,he,qZ_ ee⟩)
theorem uW{n i:Nat}{h:Hd}(hc:h.cnt=n)(hi:h.num=i)(p:Option Pr):HOK n i (roundF h p):=⟨hi,hc,by simp [roundF],by simp [roundF],by simp [roundF]⟩
theorem wY(h:Hd)(ps:List Pr):(bp h ps).1.num=h.num/\(bp h ps).1.rnd=h.rnd/\(bp h ps).1.atw=h.atw:=by unfold bp;cases h.val <;> exact⟨rfl,rfl,rfl⟩
theorem qt{n i:Nat}{h:Hd}(H:HOK n i h){x:Lt}(hx:x∈bo h):x.hand=i/\x.kpr < n/\x.num=h.rnd/\x.pair=h.pair:=by
 unfold bo at hx
 obtain⟨k,hk,rfl⟩:=qH_.mp hx
 unfold si at hk
 have:=List.mem_range.mp (List.mem_filter.mp hk).1
 exact⟨H.1,by rw[<-H.2.1];exact this,rfl,rfl⟩
theorem Fy{n i:Nat}{h:Hd}(H:HOK n i h){l:Lt}(hk:l.kpr < n)(hp:h.pair=none->l.pair.isSome=true):HOK n i {h with ar:=aX h.ar l.kpr l.pair}:=by
 refine⟨H.1,H.2.1,fun e he=>?_,wz H.2.2.2.1,fun z e he=>?_⟩
 · rcases mQ he with w |w
   · rw[w.1];exact hk
   · exact H.2.2.1 e w
 · rcases mQ he with w |w
   · rw[w.2];exact hp z
   · exact H.2.2.2.2 z e w
theorem DD{n i:Nat}{h:Hd}(H:HOK n i h){l:Lt}(hk:l.kpr < n)(hp:l.num=h.rnd->l.pair.isSome=h.pair.isNone):
 HOK n i (aM h l).1/\((aM h l).1.rnd=h.rnd/\(aM h l).1.pair=h.pair\/(aM h l).1.rnd=h.rnd+1)/\∀x∈(aM h l).2.1,x.hand=i/\x.kpr < n/\x.num=(aM h l).1.rnd/\x.pair=(aM h l).1.pair:=by
 unfold aM
 split
 · exact⟨H,.inl ⟨rfl,rfl⟩,by simp⟩
 · rename_i hc
   have hnum:l.num=h.rnd:=by
    simp only[Bool.or_eq_true,Bool.not_eq_true',decide_eq_false_iff_not,not_or,Bool.not_eq_false,Decidable.not_not]at hc
    exact hc.2
   have P:=Fy H hk (l:=l) fun z=>by rw[hp hnum,z];rfl
   dsimp only
   split
   · exact⟨P,.inl ⟨rfl,rfl⟩,by simp⟩
   · split
     · rename_i qp
       dsimp only
       have c1:=iO {h with ar:=aX h.ar l.kpr l.pair} (vals (aX h.ar l.kpr l.pair))
       have c2:=wY {h with ar:=aX h.ar l.kpr l.pair} (vals (aX h.ar l.kpr l.pair))
       generalize bp {h with ar:=aX h.ar l.kpr l.pair} (vals (aX h.ar l.kpr l.pair))=c at*
       have R:=uW (n:=n) (i:=i) (h:=c.1) (c1.trans H.2.1) (c2.1.trans H.1) (some c.2)
       refine⟨R,.inr ?_,fun x hx=>qt R hx⟩
       show c.1.rnd+1=h.rnd+1
       rw[c2.2.1]
     · exact⟨⟨P.1,P.2.1,P.2.2.1,P.2.2.2.1,P.2.2.2.2⟩,.inl ⟨rfl,rfl⟩,by simp⟩
theorem WF.hok{st:Hl}(W:WF st){i:Nat}{h:Hd}(e:st.hs[i]? =some h):HOK st.ks.length i h:=W.hk i h e
theorem WF.eok{st:Hl}(W:WF st){e:Bool×Lt}(h:e∈st.row):EOK st.ks.length st.hs e:=W.rw e h
theorem pj{st:Hl}{p:Nat}{s:Bool}{e:Bool×Lt}(h:e∈cO st p s):e∈st.row:=by
 unfold cO at h
 cases s with
 |true=>exact h
 |false=>exact List.mem_of_mem_eraseIdx h
theorem gR{st:Hl}(W:WF st)(p:Nat)(s:Bool):WF (aL st p s).1:=by
 unfold aL
 split
 · exact W
 · rename_i l hr
   obtain⟨h,hh,hk,hn,hp⟩:=W.eok (qD_ hr)
   have hh:st.hs[l.hand]? =some h:=hh
   rw[hh]
   dsimp only
   obtain⟨o1,o2,o3⟩:=DD (W.hok hh) hk fun z=>(hp z).2 rfl
   have hlt:=(qB_.mp hh).1
   generalize aM h l=r at*
   refine⟨fun i g e=>?_,fun e he=>?_,W.ksz,by simpa using W.hsz⟩
   · have e:(st.hs.set l.hand r.1)[i]? =some g:=e
     by_cases z:i=l.hand
     · subst z
       rw[qU_ hlt]at e
       cases e
       exact o1
     · rw[qV_ (Ne.symm z)]at e
       exact W.hk i g e
   · show EOK st.ks.length (st.hs.set l.hand r.1) e
     have he:e∈cO st p s++r.2.1.map fun x=>(false,x):=he
     rcases qG_.mp he with z |z
     · obtain⟨g,hg,q1,q2,q3⟩:=W.eok (pj z)
       by_cases w:e.2.hand=l.hand
       · rw[w]at hg
         rw[hh]at hg
         cases hg
         refine⟨r.1,by rw[w];exact qU_ hlt,q1,?_,fun c=>?_⟩
         · rcases o2 with ⟨o2,_⟩ |o2 <;> omega
         · rcases o2 with ⟨o2,o4⟩ |o2
           · rw[o4];exact q3 (by omega)
           · omega
       · exact⟨g,by rw[qV_ (Ne.symm w)];exact hg,q1,q2,q3⟩
     · obtain⟨x,hx,rfl⟩:=qH_.mp z
       obtain⟨y1,y2,y3,y4⟩:=o3 x hx
       exact⟨r.1,by rw[y1];exact qU_ hlt,y2,Int.le_of_eq y3,fun _=>⟨fun _=>y4,fun z=>by cases z⟩⟩
 · rename_i l hr
   obtain⟨h,hh,hk,hn,hp⟩:=W.eok (qD_ hr)
   have hk':st.ks[l.kpr]? =some st.ks[l.kpr]:=qA_ hk
   rw[hk']
   dsimp only
   generalize st.ks[l.kpr]=k
   have hp0:l.num=h.rnd->l.pair=h.pair:=fun z=>(hp z).1 rfl
   refine⟨fun i g e=>by
    show HOK (st.ks.set l.kpr (bB k l).1).length i g
    rw[qX_]
    exact W.hk i g e,fun e he=>?_,by simpa using W.ksz,W.hsz⟩
   show EOK (st.ks.set l.kpr (bB k l).1).length st.hs e
   rw[qX_]
   have he:e∈cO st p s++(match (bB k l).2 with |none=>[] |some x=>[(true,x)]):=he
   rcases qG_.mp he with z |z
   · exact W.eok (pj z)
   · unfold bB at z
     split at z
     · rename_i e1
       cases up:k.up with
       |false=>simp at z
       |true=>simp at z
     · rename_i x e1
       have z:e=(true,x):=by simpa using z
       subst z
       cases up:k.up with
       |false=>
        rw[up]at e1
        cases e1
       |true=>
        rw[up]at e1
        cases lp:l.pair with
        |none=>
         rw[lp]at e1
         cases e1
         exact⟨h,hh,hk,hn,fun c=>⟨fun z=>(by cases z),fun _=>by rw[<-hp0 c,lp];rfl⟩⟩
        |some q=>
         rw[lp]at e1
         cases e1
         exact⟨h,hh,hk,hn,fun c=>⟨fun z=>(by cases z),fun _=>by rw[<-hp0 c,lp];rfl⟩⟩
def wt(e:Bool×Lt):Nat:=if e.1 then 1 else 2
def pot(h:Hd):Nat:=if h.atw&&h.pair.isNone then 2*h.cnt else 0
def mea(st:Hl):Nat:=(st.row.map wt).sum+(st.hs.map pot).sum
theorem zb{xs:List (Bool×Lt)}:∀{i:Nat} {e:Bool×Lt},xs[i]? =some e->(xs.map wt).sum=wt e+((xs.eraseIdx i).map wt).sum:=by
 induction xs with
 |nil=>intro i e h;simp at h
 |cons x r ih=>
  intro i e h
  cases i with
  |zero=>simp at h;subst h;simp
  |succ i=>
   have:=ih (i:=i) (e:=e) (by simpa using h)
   simp only[List.eraseIdx_cons_succ,List.map_cons,List.sum_cons]
   omega
theorem sum_set{hs:List Hd}:∀{i:Nat} {h g:Hd},hs[i]? =some h->((hs.set i g).map pot).sum+pot h=(hs.map pot).sum+pot g:=by
 induction hs with
 |nil=>intro i h g e;simp at e
 |cons x r ih=>
  intro i h g e
  cases i with
  |zero=>simp at e;subst e;simp;omega
  |succ i=>
   have:=ih (i:=i) (h:=h) (g:=g) (by simpa using e)
   simp only[List.set_cons_succ,List.map_cons,List.sum_cons]
   omega
theorem oy(ls:List Lt):((ls.map fun x=>(false,x)).map wt).sum=2*ls.length:=by
 induction ls with
 |nil=>rfl
 |cons x r ih=>
  simp only[List.map_cons,List.sum_cons,List.length_cons]
  rw[ih]
  show 2+2*r.length=2*(r.length+1)
  omega
theorem Bm{h:Hd}{l:Lt}:pot (aM h l).1+2*(aM h l).2.1.length<=pot h:=by
 unfold aM
 split
 · simp
 · rename_i hc
   have hat:h.atw=true:=by
    simp only[Bool.or_eq_true,Bool.not_eq_true',decide_eq_false_iff_not,not_or,Bool.not_eq_false,Decidable.not_not]at hc
    exact hc.1
   dsimp only
   split
   · simp [pot]
   · split
     · rename_i qp
       dsimp only
       have c1:=iO {h with ar:=aX h.ar l.kpr l.pair} (vals (aX h.ar l.kpr l.pair))
       generalize bp {h with ar:=aX h.ar l.kpr l.pair} (vals (aX h.ar l.kpr l.pair))=c at*
       have h1:pot (roundF c.1 (some c.2))=0:=by unfold pot roundF;simp
       have h2:pot h=2*h.cnt:=by unfold pot;rw[hat,qp];rfl
       have h3:(bo (roundF c.1 (some c.2))).length<=h.cnt:=by
        unfold bo
        rw[qM_]
        have:=kG (roundF c.1 (some c.2))
        rw[show (roundF c.1 (some c.2)).cnt=h.cnt from c1]at this
        exact this
       rw[h1,h2]
       omega
     · simp [pot]
theorem wc{st:Hl}(W:WF st){p:Nat}{s:Bool}{e:Bool×Lt}(hr:st.row[p]? =some e):mea (aL st p s).1+(if s then 0 else 1)<=mea st+(if s then 1 else 0):=by
 have off:((cO st p s).map wt).sum+(if s then 0 else wt e)=(st.row.map wt).sum:=by
  unfold cO
  cases s with
  |true=>simp
  |false=>have:=zb hr;simp;omega
 obtain⟨h,hh,hk,_⟩:=W.eok (qD_ hr)
 unfold aL
 rw[hr]
 obtain⟨b,l⟩:=e
 cases b with
 |true=>
  have hh:st.hs[l.hand]? =some h:=hh
  dsimp only
  rw[hh]
  dsimp only
  have h1:=Bm (h:=h) (l:=l)
  have h2:=sum_set (g:=(aM h l).1) hh
  unfold mea
  dsimp only
  rw[qT_,List.sum_append,oy]
  have h3:wt (true,l)=1:=rfl
  cases s <;> simp only[reduceIte,Bool.false_eq_true]at off ⊢ <;> omega
 |false=>
  dsimp only
  have hk':st.ks[l.kpr]? =some st.ks[l.kpr]:=qA_ hk
  rw[hk']
  dsimp only
  unfold mea
  dsimp only
  rw[qT_,List.sum_append]
  have h3:wt (false,l)=2:=rfl
  generalize bB st.ks[l.kpr] l=r
  obtain⟨r1,r2⟩:=r
  cases r2 with
  |none=>
   dsimp only
   rw[List.map_nil,List.sum_nil]
   cases s <;> simp only[reduceIte,Bool.false_eq_true]at off ⊢ <;> omega
  |some x=>
   dsimp only
   have h5:([(true,x)].map wt).sum=1:=rfl
   rw[h5]
   cases s <;> simp only[reduceIte,Bool.false_eq_true]at off ⊢ <;> omega
theorem sO(st:Hl):st.row.length<=mea st:=by
 unfold mea
 have:∀xs:List (Bool×Lt),xs.length<=(xs.map wt).sum:=by
  intro xs
  induction xs with
  |nil=>simp
  |cons x r ih=>
   simp only[List.length_cons,List.map_cons,List.sum_cons]
   have:1<=wt x:=by unfold wt;split <;> omega
   omega
 have:=this st.row
 omega
section
variable{G:Hh}{Q:D->Hh->Prop}{E:Nat->Hh->Prop}{A:Ad}{st:Hl}
theorem rY{α β:Type}(f:α->β):∀(xs:List α) (i:Nat),(xs.map f).eraseIdx i=(xs.eraseIdx i).map f
 | [],_=>rfl
 |_ :: _,0=>rfl
 |x :: r,i+1=>by
  show f x :: (r.map f).eraseIdx i=f x :: (r.eraseIdx i).map f
  rw[rY f r i]
theorem xu{p:Nat}{s:Bool}{e:Bool×Lt}(H:bu G A st)(W:WF st)(hr:st.row[p]? =some e)(hz:mea st<=800000)
 (hq:∀le A' G',Chg A.foot G G'->A.To A' G.length->G.length<=le->bu G' A' (aL st p s).1->G'[le]? =some (.lst ((aL st p s).2.map qU))->Q (.ref le) G'):run (cB [.ref A.a,.int (p:Int),.bl s]) G Q E:=by
 obtain⟨h,hh,hk,hn,hp⟩:=W.eok (qD_ hr)
 have hrl:=sO st
 have ho:=H.o
 have hix:atI (st.row.map enD) (p:Int)=some (enD e):=g8 hr
 have hre:(st.row.map enD)[p]? =some (enD e):=by rw[qQ_,hr];rfl
 walk_at "f"
 unfold kg
 refine aB (bq (aJ (w_fld (w_var rfl (bc ho (by decide) rfl (w_var rfl (cP H.r hix ?_)))))))
 refine w_next ?_
 walk_at "s"
 have step:run (sIf (eX (tOf (ae 2))) (b7 (tM (aU (ae 0) 11) (ae 1))) aW [some (.ref A.a),some (.int (p:Int)),some (.bl s),some (enD e)]) G (fun r G1=>r=(.next,[some (.ref A.a),some (.int (p:Int)),some (.bl s),some (enD e)])/\Chg [A.lr] G G1/\bu G1 A {st with row:=cO st p s}) E:=by
  refine cK (ig (iB (w_var rfl (mn ?_))))
  cases s with
  |true=>
   refine pA (jx ⟨rfl,Chg.refl _ _,H⟩)
  |false=>
   refine pk (dO (yE (w_fld (w_var rfl (bc ho (by decide) rfl (m4 H.r (w_var rfl ?_)))))))
   refine zK H.r hre (by rw[qM_];omega) fun G1 c1 l1 h1=>⟨rfl,c1,H.FC c1 ?_⟩
   rw[h1]
   show some (O.lst ((st.row.map enD).eraseIdx p))=some (O.lst ((st.row.eraseIdx p).map enD))
   rw[rY]
 refine aB (ao step (fun r G1 ⟨er,c1,H1⟩=>?_) fun _ _ z=>z)
 subst er
 refine w_next ?_
 have c1f:Chg A.foot G G1:=c1.mono (by intro n hn;simp at hn;subst hn;simp [Ad.foot])
 have g1:=c1.1
 have ho1:=H1.o
 have lo:(cO st p s).length<=st.row.length:=by
  unfold cO
  cases s with
  |true=>exact qO_ _
  |false=>exact List.length_eraseIdx_le _ _
 obtain⟨b,l⟩:=e
 unfold aL at hq
 rw[hr]at hq
 cases b with
 |true=>
  have hh:st.hs[l.hand]? =some h:=hh
  dsimp only at hq
  rw[hh]at hq
  dsimp only at hq
  obtain⟨k1,k2,k3,k4,k5⟩:=W.hk _ _ hh
  have hks:=W.ksz
  refine aB (cK (iB (aJ (w_var rfl (w_c (bb rfl (mn (lR ?_))))))))
  refine bE (bh (w_var rfl (bR ho1 (ak (aJ (w_var rfl (w_c (bb rfl (az ?_)))))))))
  refine qH (st:={st with row:=cO st p s}) H1 hh (by omega) (Nat.le_trans (Cq k4 k3 hk) (by omega)) (fun q1 q2 q3 x hx=>?_) (by show (cO st p s).length < 900000;omega) fun le A' G2 c2 to l2 H2 h2=>?_
  · rcases mQ hx with w |w
    · rw[w.2,(hp q2).2 rfl,q3];rfl
    · exact k5 q3 x w
  · walk_at "r"
    exact hq le A' G2 (c1f.trans c2) ⟨to.a,to.lk,to.lh,to.lr,to.ka,to.ha,fun x hx=>(to.da x hx).imp id fun z=>by omega⟩ (by omega) H2 h2
 |false=>
  have hk':st.ks[l.kpr]? =some st.ks[l.kpr]:=qA_ hk
  dsimp only at hq
  rw[hk']at hq
  dsimp only at hq
  generalize st.ks[l.kpr]=k at hq hk'
  refine aB (cK (iB (aJ (w_var rfl (w_c (bb rfl (mn (nW ?_))))))))
  refine jx (w_next ?_)
  refine aB (dO (bh (w_var rfl (bR ho1 (ak (aJ (w_var rfl (w_c (bb rfl (az ?_))))))))))
  refine nK (st:={st with row:=cO st p s}) H1 hk' (by show (cO st p s).length < 1000000;omega) fun G2 c2 H2=>?_
  refine w_next ?_
  refine bE (dI fun G3 c3 l3 h3=>?_)
  walk_at "r"
  have g2:=c2.1
  exact hq G2.length A G3 ((c1f.trans c2).trans (c3.mono (by simp))) (Ad.To.refl _ _) (by omega) (H2.frame c3 (by simp)) h3
theorem iy{i:Int}(H:bu G A st)(hb:(i < 0\/(st.hs.length:Int)<=i)->E 1001 G)(hq:∀j a:Nat,i=(j:Int)->A.ha[j]? =some a->Q (.ref a) G):run (aV [.ref A.a,.int i]) G Q E:=by
 have ho:=H.o
 walk_at "f"
 unfold gA
 walk_at "r"
 refine w_ite (fun c=>?_) fun c=>?_
 · walk_at "r"
   exact hb (.inl (of_decide_eq_true c))
 · have c:=of_decide_eq_false c
   walk_at "r"
   refine dN H.h ?_
   rw[show (refs A.ha).length=A.ha.length from qM_ _]
   walk_at "r"
   refine w_ite (fun c2=>?_) fun c2=>?_
   · walk_at "r"
     refine hb (.inr ?_)
     have:=of_decide_eq_true c2
     rw[<-H.hl];exact this
   · have c2:=of_decide_eq_false c2
     have hlt:i.toNat < A.ha.length:=by omega
     have e1:A.ha[i.toNat]? =some A.ha[i.toNat]:=qA_ hlt
     have e2:atI (refs A.ha) i=some (.ref A.ha[i.toNat]):=by
      have:=iY e1
      rwa [Int.toNat_of_nonneg (by omega)]at this
     walk_at "r"
     refine cP H.h e2 ?_
     walk_at "r"
     exact hq i.toNat _ (by omega) e1
theorem ke{i:Int}(H:bu G A st)(hb:(i < 0\/(st.ks.length:Int)<=i)->E 1002 G)(hq:∀j a:Nat,i=(j:Int)->A.ka[j]? =some a->Q (.ref a) G):run (bt [.ref A.a,.int i]) G Q E:=by
 have ho:=H.o
 walk_at "f"
 unfold fq
 walk_at "r"
 refine w_ite (fun c=>?_) fun c=>?_
 · walk_at "r"
   exact hb (.inl (of_decide_eq_true c))
 · have c:=of_decide_eq_false c
   walk_at "r"
   refine dN H.k ?_
   rw[show (refs A.ka).length=A.ka.length from qM_ _]
   walk_at "r"
   refine w_ite (fun c2=>?_) fun c2=>?_
   · walk_at "r"
     refine hb (.inr ?_)
     have:=of_decide_eq_true c2
     rw[<-H.kl];exact this
   · have c2:=of_decide_eq_false c2
     have hlt:i.toNat < A.ka.length:=by omega
     have e1:A.ka[i.toNat]? =some A.ka[i.toNat]:=qA_ hlt
     have e2:atI (refs A.ka) i=some (.ref A.ka[i.toNat]):=by
      have:=iY e1
      rwa [Int.toNat_of_nonneg (by omega)]at this
     walk_at "r"
     refine cP H.k e2 ?_
     walk_at "r"
     exact hq i.toNat _ (by omega) e1
def newRow(st:Hl)(h:Hd):List (Bool×Lt):=st.row++(bo h).map fun x=>(false,x)
theorem hG(h:Hd):(bo h).length<=h.cnt:=by unfold bo;rw[qM_];exact kG h
def fR(st:Hl)(i:Nat)(h:Hd)(v:Option Int):Hl:={st with hs:=st.hs.set i (bj h v),row:=newRow st (bj h v)}
theorem pb(H:bu G A st){j a:Nat}(hj:A.ha[j]? =some a):∃h,st.hs[j]? =some h:=by
 have:j < st.hs.length:=by rw[<-H.hl];exact(qB_.mp hj).1
 exact⟨_,qA_ this⟩
theorem BP(H:bu G A st){j a:Nat}(hj:A.ka[j]? =some a):∃k,st.ks[j]? =some k:=by
 have:j < st.ks.length:=by rw[<-H.kl];exact(qB_.mp hj).1
 exact⟨_,qA_ this⟩
theorem begun{i a d d' ll:Nat}{h:Hd}{v:Option Int}{G1:Hh}(H:bu G A st)(ha:A.ha[i]? =some a)(hd:A.da[i]? =some d)(c1:Chg [a] G G1)(l1:G.length<=d')(h1:fg G1 a d' (bj h v)):
 bu G1 {A with da:=A.da.set i d'} {st with hs:=st.hs.set i (bj h v)}/\A.To {A with da:=A.da.set i d'} G.length/\Chg A.foot G G1:=by
 refine⟨H.Gi ha hd (c1.mono (by simp)) (.inr l1) h1,⟨rfl,rfl,rfl,rfl,rfl,rfl,fun x hx=>?_⟩,c1.mono (by intro n hn;simp at hn;subst hn;exact vj ha)⟩
 rcases List.mem_or_eq_of_mem_set hx with z |z
 · exact .inl z
 · rw[z];exact .inr l1
theorem C8{i v:Int}(H:bu G A st)(W:WF st)(hz:mea st<=800000)(hb:(i < 0\/(st.hs.length:Int)<=i)->E 1001 G)(hbusy:∀(j:Nat) h,i=(j:Int)->st.hs[j]? =some h->h.atw=true->E 1004 G)
 (hq:∀(j:Nat) h,i=(j:Int)->st.hs[j]? =some h->h.atw=false->∀A' G',Chg A.foot G G'->A.To A' G.length->bu G' A' (fR st j h (some v))->Q .non G'):run (gn [.ref A.a,.int i,.int v]) G Q E:=by
 have ho:=H.o
 have hrl:=sO st
 walk_at "f"
 unfold iI
 walk_at "r"
 refine iy H hb fun j a hi ha=>?_
 obtain⟨h,hh⟩:=pb H ha
 obtain⟨a',d,ha',hd,hat⟩:=H.hand hh
 rw[ha]at ha'
 cases ha'
 obtain⟨k1,k2,_⟩:=W.hk _ _ hh
 have hks:=W.ksz
 have hat0:=hat.1
 unfold hdF at hat0
 walk_at "r"
 refine rj hat (by omega) (fun q=>hbusy j h hi hh q) fun q ll d' G1 c1 l1 l2 h1 h2=>?_
 obtain⟨H1,to,cf⟩:=begun (ll:=ll) H ha hd c1 l1 h1
 have hll:=hG (bj h (some v))
 have hcn:(bj h (some v)).cnt=h.cnt:=rfl
 walk_at "r"
 refine tY (A:={A with da:=A.da.set j d'}) H1 h2 (by show st.row.length+_<=_;omega) fun G2 c2 H2=>?_
 walk_at "r"
 exact hq j h hi hh q _ G2 (cf.trans (c2.mono (by intro n hn;simp at hn;subst hn;simp [Ad.foot]))) to H2
theorem FU{i:Int}(H:bu G A st)(W:WF st)(hz:mea st<=800000)(hb:(i < 0\/(st.hs.length:Int)<=i)->E 1001 G)(hbusy:∀(j:Nat) h,i=(j:Int)->st.hs[j]? =some h->h.atw=true->E 1004 G)
 (hq:∀(j:Nat) h,i=(j:Int)->st.hs[j]? =some h->h.atw=false->∀A' G',Chg A.foot G G'->A.To A' G.length->bu G' A' (fR st j h none)->Q .non G'):run (g6 [.ref A.a,.int i]) G Q E:=by
 have ho:=H.o
 have hrl:=sO st
 walk_at "f"
 unfold j9
 walk_at "r"
 refine iy H hb fun j a hi ha=>?_
 obtain⟨h,hh⟩:=pb H ha
 obtain⟨a',d,ha',hd,hat⟩:=H.hand hh
 rw[ha]at ha'
 cases ha'
 obtain⟨k1,k2,_⟩:=W.hk _ _ hh
 have hks:=W.ksz
 have hat0:=hat.1
 unfold hdF at hat0
 walk_at "r"
 refine t9 hat (by omega) (fun q=>hbusy j h hi hh q) fun q ll d' G1 c1 l1 l2 h1 h2=>?_
 obtain⟨H1,to,cf⟩:=begun (ll:=ll) H ha hd c1 l1 h1
 have hll:=hG (bj h none)
 have hcn:(bj h none).cnt=h.cnt:=rfl
 walk_at "r"
 refine tY (A:={A with da:=A.da.set j d'}) H1 h2 (by show st.row.length+_<=_;omega) fun G2 c2 H2=>?_
 walk_at "r"
 exact hq j h hi hh q _ G2 (cf.trans (c2.mono (by intro n hn;simp at hn;subst hn;simp [Ad.foot]))) to H2
theorem Du{i:Int}(H:bu G A st)(W:WF st)(hz:mea st<=800000)(hb:(i < 0\/(st.hs.length:Int)<=i)->E 1001 G)(hidle:∀(j:Nat) h,i=(j:Int)->st.hs[j]? =some h->h.atw=false->∀G',Chg [] G G'->E 1005 G')
 (hq:∀(j:Nat) h,i=(j:Int)->st.hs[j]? =some h->h.atw=true->∀G',Chg A.foot G G'->bu G' A {st with row:=newRow st h}->Q (.int ((bo h).length:Int)) G'):run (gc [.ref A.a,.int i]) G Q E:=by
 have ho:=H.o
 have hrl:=sO st
 walk_at "f"
 unfold iM
 walk_at "r"
 refine iy H hb fun j a hi ha=>?_
 obtain⟨h,hh⟩:=pb H ha
 obtain⟨a',d,ha',hd,hat⟩:=H.hand hh
 rw[ha]at ha'
 cases ha'
 obtain⟨k1,k2,_⟩:=W.hk _ _ hh
 have hks:=W.ksz
 have hat0:=hat.1
 unfold hdF at hat0
 walk_at "r"
 refine ud hat (by omega) (fun q=>hidle j h hi hh q G (Chg.refl _ _)) fun q ll G1 x1 l1 h1=>?_
 have H1:=H.frame (S:=[]) x1.chg (by simp)
 have ho1:=H1.o
 have hll:=hG h
 walk_at "r"
 refine tY H1 h1 (by omega) fun G2 c2 H2=>?_
 have hne:ll∉ [A.lr]:=fun z=>by
  have:=av H.r
  simp at z
  omega
 walk_at "r"
 refine dN (c2.get h1 hne) ?_
 rw[qM_]
 walk_at "r"
 exact hq j h hi hh q G2 (x1.chg.trans (c2.mono (by intro n hn;simp at hn;subst hn;simp [Ad.foot]))) H2
theorem Dy{i:Int}(H:bu G A st)(hb:(i < 0\/(st.hs.length:Int)<=i)->E 1001 G)(hidle:∀(j:Nat) h,i=(j:Int)->st.hs[j]? =some h->h.atw=false->E 1005 G)
 (hq:∀(j:Nat) h,i=(j:Int)->st.hs[j]? =some h->h.atw=true->∀G',Chg A.foot G G'->bu G' A {st with hs:=st.hs.set j {h with atw:=false}}->Q .non G'):run (gi [.ref A.a,.int i]) G Q E:=by
 have ho:=H.o
 walk_at "f"
 unfold jh
 walk_at "r"
 refine iy H hb fun j a hi ha=>?_
 obtain⟨h,hh⟩:=pb H ha
 obtain⟨a',d,ha',hd,hat⟩:=H.hand hh
 rw[ha]at ha'
 cases ha'
 have hat0:=hat.1
 unfold hdF at hat0
 walk_at "r"
 refine zl hat (fun q=>hidle j h hi hh q) fun q G1 c1 h1=>?_
 have H1:=H.Gi ha hd (c1.mono (by simp)) (.inl rfl) h1
 have e1:A.da.set j d=A.da:=by
  obtain⟨l,e⟩:=qB_.mp hd
  rw[<-e];exact List.set_getElem_self l
 rw[e1]at H1
 walk_at "r"
 exact hq j h hi hh q G1 (c1.mono (by intro n hn;simp at hn;subst hn;exact vj ha)) H1
theorem q9{i:Int}(H:bu G A st)(hb:(i < 0\/(st.ks.length:Int)<=i)->E 1002 G)
 (hq:∀(j:Nat) k,i=(j:Int)->st.ks[j]? =some k->∀G',Chg A.foot G G'->bu G' A {st with ks:=st.ks.set j {k with up:=false}}->Q (.bl k.up) G'):run (cD [.ref A.a,.int i]) G Q E:=by
 have ho:=H.o
 walk_at "f"
 unfold eg
 walk_at "r"
 refine ke H hb fun j a hi ha=>?_
 obtain⟨k,hk⟩:=BP H ha
 have hka:=H.kr j a k ha hk
 have hka0:=hka
 unfold gw krF at hka0
 walk_at "r"
 refine Ft hka fun G1 c1 h1=>?_
 walk_at "r"
 exact hq j k hi hk G1 (c1.mono (by intro n hn;simp at hn;subst hn;exact xP ha)) (H.Gv ha c1 h1)
theorem rg{i:Int}(H:bu G A st)(hb:(i < 0\/(st.ks.length:Int)<=i)->E 1002 G)
 (hq:∀(j:Nat) k,i=(j:Int)->st.ks[j]? =some k->∀G',Chg A.foot G G'->bu G' A {st with ks:=st.ks.set j {k with up:=true}}->Q (.bl (!k.up)) G'):run (cF [.ref A.a,.int i]) G Q E:=by
 have ho:=H.o
 walk_at "f"
 unfold dR
 walk_at "r"
 refine ke H hb fun j a hi ha=>?_
 obtain⟨k,hk⟩:=BP H ha
 have hka:=H.kr j a k ha hk
 have hka0:=hka
 unfold gw krF at hka0
 walk_at "r"
 refine HJ hka fun G1 c1 h1=>?_
 walk_at "r"
 exact hq j k hi hk G1 (c1.mono (by intro n hn;simp at hn;subst hn;exact xP ha)) (H.Gv ha c1 h1)
end
def runN(sel:Hl->Option Nat):Nat->Hl->Hl×List (Nat×Pr)
 |0,st=>(st,[])
 |k+1,st=>match sel st with
  |none=>(st,[])
  |some p=>((runN sel k (aL st p false).1).1,(aL st p false).2++(runN sel k (aL st p false).1).2)
def Sel(sel:Hl->Option Nat):Prop:=∀st p,sel st=some p->p < st.row.length
theorem bM{st:Hl}(W:WF st){p:Nat}(hp:p < st.row.length):mea (aL st p false).1+1<=mea st:=by
 have:=wc W (s:=false) (qA_ hp)
 simpa using this
theorem kB{sel:Hl->Option Nat}(hs:Sel sel):∀(k:Nat) (st:Hl),WF st->mea st<=k->runN sel k st=runN sel (mea st) st
 |0,st,W,h=>by rw[Nat.le_zero.mp h]
 |k+1,st,W,h=>by
  have key:∀m,mea st<=m+1->m<=k->runN sel (m+1) st=match sel st with
   |none=>(st,[])
   |some p=>((runN sel (mea (aL st p false).1) (aL st p false).1).1,(aL st p false).2++(runN sel (mea (aL st p false).1) (aL st p false).1).2):=by
   intro m hm hmk
   show (match sel st with
    |none=>(st,[])
    |some p=>((runN sel m (aL st p false).1).1,(aL st p false).2++(runN sel m (aL st p false).1).2))=_
   cases q:sel st with
   |none=>rfl
   |some p=>
    dsimp only
    have h1:=bM W (hs st p q)
    have ih:=kB hs k (aL st p false).1 (gR W p false) (by omega)
    rcases Nat.lt_or_ge m k with z |z
    · have ih2:runN sel m (aL st p false).1=runN sel (mea (aL st p false).1) (aL st p false).1:=by
       have a1:=kB hs m (aL st p false).1 (gR W p false) (by omega)
       exact a1
      rw[ih2]
    · have:m=k:=by omega
      rw[this,ih]
  rw[key k h (qO_ _)]
  cases q:mea st with
  |zero=>
   cases qs:sel st with
   |none=>rfl
   |some p=>
    have h1:=bM W (hs st p qs)
    omega
  |succ m=>
   rw[key m (by omega) (by omega)]
 termination_by k=>k
def bY(sel:Hl->Option Nat)(st:Hl):Hl×List (Nat×Pr):=runN sel (mea st) st
theorem cu{sel:Hl->Option Nat}{st:Hl}(h:sel st=none):bY sel st=(st,[]):=by
 unfold bY
 cases mea st with
 |zero=>rfl
 |succ k=>show (match sel st with |none=>(st,[]) |some p=>_)=_;rw[h]
theorem iD{sel:Hl->Option Nat}(hs:Sel sel){st:Hl}(W:WF st){p:Nat}(h:sel st=some p):bY sel st=((bY sel (aL st p false).1).1,(aL st p false).2++(bY sel (aL st p false).1).2):=by
 unfold bY
 have h1:=bM W (hs st p h)
 cases q:mea st with
 |zero=>omega
 |succ k=>
  show (match sel st with |none=>(st,[]) |some p=>_)=_
  rw[h]
  dsimp only
  rw[kB hs k _ (gR W p false) (by omega)]
theorem kK(st:Hl)(p:Nat)(s:Bool):(aL st p s).2.length<=1:=by
 unfold aL
 split
 · simp
 · split
   · simp
   · dsimp only;split <;> simp
 · split <;> simp
theorem m6{sel:Hl->Option Nat}(hs:Sel sel):∀(n:Nat) (st:Hl),WF st->mea st<=n->(bY sel st).2.length<=mea st:=by
 intro n
 induction n with
 |zero=>
  intro st W h
  cases q:sel st with
  |none=>rw[cu q];simp
  |some p=>have:=bM W (hs st p q);omega
 |succ n ih=>
  intro st W h
  cases q:sel st with
  |none=>rw[cu q];simp
  |some p=>
   have h1:=bM W (hs st p q)
   have h2:=ih (aL st p false).1 (gR W p false) (by omega)
   have h3:=kK st p false
   rw[iD hs W q]
   dsimp only
   rw[qN_]
   omega
def aR(st:Hl):Option Nat:=if st.row=[]then none else some 0
theorem bZ:Sel aR:=fun st p h=>by
 unfold aR at h
 split at h
 · cases h
 · rename_i hn
   cases h
   cases q:st.row with
   |nil=>exact absurd q hn
   |cons _ _=>simp
def sj(i j:Nat)(e:Bool×Lt):Bool:=decide (e.2.hand=i)&&decide (e.2.kpr=j)
def cp(i j:Nat)(st:Hl):Option Nat:=st.row.findIdx? (sj i j)
theorem cI(i j:Nat):Sel (cp i j):=fun st p h=>by
 unfold cp at h
 exact(List.findIdx?_eq_some_iff_getElem.mp h).1
section
variable{G:Hh}{Q:D->Hh->Prop}{E:Nat->Hh->Prop}{A:Ad}{st:Hl}
def oN:Option Nat->D
 |none=>.non
 |some p=>.int (p:Int)
theorem ju{i j:Nat}(H:bu G A st)(hq:Q (oN (cp i j st)) G):run (bH [.ref A.a,.int (i:Int),.int (j:Int)]) G Q E:=by
 have ho:=H.o
 walk_at "f"
 unfold cW
 walk_at "r"
 refine Ds H.r ?_
 refine qI (xs:=ix (st.row.map enD)) (fun k σ G'=>G'=G/\(∀x∈st.row.take k,sj i j x=false)/\∃x y,σ=[some (.ref A.a),some (.int (i:Int)),some (.int (j:Int)),x,y]) ?_ ?_ ?_ _ 0 _ _ List.drop_zero (qf_ _) ⟨rfl,by simp,none,none,rfl⟩
 · rintro k σ G' ⟨rfl,_⟩
   exact qZ_ H.r
 · rintro k x σ G' hx ⟨rfl,hP,_,_,rfl⟩
   obtain⟨z,hz,rfl⟩:=zN hx
   obtain⟨e,he,rfl⟩:=pz hz
   have hsplit:st.row.take (k+1)=st.row.take k++[e]:=take_succ he
   unfold enD ltD
   walk_at "r"
   refine aD (a:=D.tup [D.int (e.2.hand:Int),D.int (e.2.kpr:Int)]) (G':=G') rfl ?_
   walk_at "r"
   refine w_eq (b:=sj i j e) ?_ ?_
   · show some ((decide ((e.2.hand:Int)=(i:Int))&&(decide ((e.2.kpr:Int)=(j:Int))&&true))&&decide (2=2))=some (sj i j e)
     unfold sj
     congr 1
     have a1:decide ((e.2.hand:Int)=(i:Int))=decide (e.2.hand=i):=decide_eq_decide.mpr (by omega)
     have a2:decide ((e.2.kpr:Int)=(j:Int))=decide (e.2.kpr=j):=decide_eq_decide.mpr (by omega)
     rw[a1,a2]
     simp
   walk_at "r"
   cases q:sj i j e with
   |true=>
    walk_at "r"
    have:cp i j st=some k:=by
     unfold cp
     rw[List.findIdx?_eq_some_iff_getElem]
     obtain⟨hl,ee⟩:=qB_.mp he
     refine⟨hl,by rw[ee];exact q,fun m hm=>?_⟩
     have hml:m < st.row.length:=by omega
     have:=hP st.row[m] (qD_ (i:=m) (by rw[List.getElem?_take,if_pos hm,qA_ hml]))
     rw[this];exact qC_
    rw[this]at hq
    exact hq
   |false=>
    walk_at "r"
    refine⟨rfl,fun x hx=>?_,_,_,rfl⟩
    rw[hsplit]at hx
    rcases qG_.mp hx with z |z
    · exact hP x z
    · simp at z;rw[z];exact q
 · rintro σ G' ⟨rfl,hP,_,_,rfl⟩
   walk_at "r"
   have:cp i j st=none:=by
    unfold cp
    rw[List.findIdx?_eq_none_iff]
    intro x hx
    refine hP x ?_
    have:=zk (xs:=st.row.map enD)
    rw[qM_]at this
    show x∈st.row.take (ix (st.row.map enD)).length
    rw[this,List.take_length]
    exact hx
   rw[this]at hq
   exact hq
theorem CK{n:Int}{s:Bool}(H:bu G A st)(W:WF st)(hz:mea st<=800000)(hb:st.row=[]->E 1003 G)
 (hq:∀p:Nat,p=(n % (st.row.length:Int)).toNat->p < st.row.length->∀le A' G',Chg A.foot G G'->A.To A' G.length->G.length<=le->bu G' A' (aL st p s).1->G'[le]? =some (.lst ((aL st p s).2.map qU))->Q (.ref le) G'):run (gh [.ref A.a,.int n,.bl s]) G Q E:=by
 have ho:=H.o
 walk_at "f"
 unfold iW
 walk_at "r"
 refine aD (a:=!(st.row.map enD).isEmpty) (G':=G) ?_ ?_
 · unfold truth
   dsimp only
   rw[H.r]
 cases q:st.row with
 |nil=>
  rw[q]at hb
  walk_at "r"
  exact hb rfl
 |cons e r=>
  refine w_ite (fun c=>by cases c) fun _=>?_
  walk_at "r"
  refine dN H.r ?_
  rw[qM_]
  have hpos:0 < (st.row.length:Int):=by rw[q,List.length_cons];omega
  walk_at "r"
  refine oq hpos ?_
  have h1:=Int.emod_nonneg n (show (st.row.length:Int)≠0 by omega)
  have h2:=Int.emod_lt_of_pos n hpos
  have hp:(n % (st.row.length:Int)).toNat < st.row.length:=by omega
  have e1:n % (st.row.length:Int)=(((n % (st.row.length:Int)).toNat:Nat):Int):=by omega
  walk_at "r"
  rw[e1]
  refine xu (p:=(n % (st.row.length:Int)).toNat) H W (qA_ hp) hz fun le A' G' c to l h3 h4=>?_
  walk_at "r"
  exact hq _ rfl hp le A' G' c to l h3 h4
structure Lp (sel:Hl->Option Nat) (G0:Hh) (A:Ad) (st:Hl) (le:Nat) (G:Hh) (A':Ad) (st':Hl) (acc:List (Nat×Pr)):Prop where
 H:bu G A' st'
 W:WF st'
 m:mea st'<=mea st
 l:G[le]? =some (.lst (acc.map qU))
 r1:(bY sel st').1=(bY sel st).1
 r2:acc++(bY sel st').2=(bY sel st).2
 c:Chg A.foot G0 G
 to:A.To A' G0.length
 nf:le∉A'.foot
 ge:G0.length<=le
theorem Lp.start{sel:Hl->Option Nat}{G1:Hh}(H:bu G A st)(W:WF st)(c1:Chg [] G G1)(h1:G1[G.length]? =some (.lst [])):Lp sel G A st G.length G1 A st []:=
 ⟨H.frame c1 (by simp),W,qO_ _,h1,rfl,rfl,c1.mono (by simp),Ad.To.refl _ _,fun z=>by have:=H.lt _ z;omega,qO_ _⟩
theorem Lp.step{sel:Hl->Option Nat}(hs:Sel sel){G0:Hh}{le ln p:Nat}{A' A2:Ad}{st':Hl}{acc:List (Nat×Pr)}{G1 G2:Hh}(L:Lp sel G0 A st le G A' st' acc)(hp:sel st'=some p)
 (c1:Chg A'.foot G G1) (to:A'.To A2 G.length) (H2:bu G1 A2 (aL st' p false).1) (c2:Chg [le] G1 G2) (h2:G2[le]? =some (.lst ((acc++(aL st' p false).2).map qU))):Lp sel G0 A st le G2 A2 (aL st' p false).1 (acc++(aL st' p false).2):=by
 have h1:=bM L.W (hs st' p hp)
 have hr:=iD hs L.W hp
 have g:=L.c.1
 have gl:=av L.l
 have nf2:le∉A2.foot:=fun z=>(to.foot le z).elim L.nf fun w=>by omega
 refine⟨H2.frame c2 (by intro n hn;simp at hn;rw[hn];exact nf2),gR L.W p false,by have:=L.m;omega,h2,?_,?_,?_,L.to.trans to g,nf2,L.ge⟩
 · rw[<-L.r1,hr]
 · rw[<-L.r2,hr,List.append_assoc]
 · refine(L.c.trans' c1 fun n hn=>L.to.foot n hn).trans' c2 fun n hn=>?_
   simp at hn
   rw[hn]
   exact .inr L.ge
theorem Dz(H:bu G A st)(W:WF st)(hz:mea st<=800000)(hq:∀le A' G',Chg A.foot G G'->A.To A' G.length->G.length<=le->le∉A'.foot->bu G' A' (bY aR st).1->G'[le]? =some (.lst ((bY aR st).2.map qU))->Q (.ref le) G'):run (gj [.ref A.a]) G Q E:=by
 have hlen:=m6 bZ (mea st) st W (qO_ _)
 walk_at "f"
 unfold jk
 refine aB (bq (dI fun G1 c1 l1 h1=>w_next ?_))
 walk_at "s"
 refine aB (vE (m:=mea st) (fun σ G' m=>∃A' st' acc,m=mea st'/\σ=[some (.ref A.a),some (.ref G.length)]/\Lp aR G A st G.length G' A' st' acc) ?_ (by omega) ⟨A,st,[],rfl,rfl,Lp.start H W c1 h1⟩)
 rintro σ G' m ⟨A',st',acc,rfl,rfl,L⟩
 have ho:G'[A.a]? =some (.ins 2 [(9,.ref A'.lk),(10,.ref A'.lh),(11,.ref A'.lr)]):=by rw[<-L.to.a];exact L.H.o
 have hlr:=L.H.r
 refine iB (w_fld (w_var rfl (bc ho (by decide) rfl ?_)))
 refine aD (a:=!(st'.row.map enD).isEmpty) (G':=G') ?_ ?_
 · unfold truth
   dsimp only
   rw[hlr]
 cases q:st'.row with
 |nil=>
  rw[List.map_nil]
  refine(if_neg (show ¬(!([]:List D).isEmpty)=true by decide)).mpr ?_
  refine w_next ?_
  have hs:aR st'=none:=by unfold aR;rw[if_pos q]
  have hr:=cu hs
  have r1:=L.r1
  have r2:=L.r2
  rw[hr]at r1 r2
  dsimp only at r1 r2
  rw[qY_]at r2
  walk_at "r"
  have HH:=L.H
  rw[r1]at HH
  have ll:=L.l
  rw[r2]at ll
  exact hq _ A' G' L.c L.to L.ge L.nf HH ll
 |cons e r=>
  refine(if_pos (show (!(List.map enD (e :: r)).isEmpty)=true from rfl)).mpr ?_
  have hs:aR st'=some 0:=by unfold aR;rw[if_neg (by rw[q];simp)]
  have h0:st'.row[0]? =some e:=by rw[q];rfl
  have hm:=L.m
  have acl:acc.length<=800000:=by
   have:=congrArg List.length L.r2
   rw[qN_]at this
   omega
  have hend:=kK st' 0 false
  refine dO (uN (w_var rfl (m4 L.l (bh (w_var rfl (bR ho (ak (w_c (ak (w_c (az ?_)))))))))))
  rw[<-L.to.a]
  refine xu (p:=0) (s:=false) L.H L.W h0 (by omega) fun ln A2 G2 c2 to l2 H2 h2=>?_
  have hle2:=c2.get L.l L.nf
  refine gM hle2 h2 (by simp [aA];omega) fun G3 c3 l3 h3=>?_
  rw[<-qT_]at h3
  have L2:=L.step (ln:=ln) bZ hs c2 to H2 c3 h3
  have:=bM L.W (bZ st' 0 hs)
  exact⟨mea (aL st' 0 false).1,by omega,A2,_,_,rfl,by rw[L.to.a],L2⟩
theorem oU{i j:Int}(H:bu G A st)(W:WF st)(hz:mea st<=800000)(hb:(i < 0\/(st.hs.length:Int)<=i)->E 1001 G)(hb2:¬(i < 0\/(st.hs.length:Int)<=i)->(j < 0\/(st.ks.length:Int)<=j)->E 1002 G)
 (hq:∀p k:Nat,i=(p:Int)->j=(k:Int)->p < st.hs.length->k < st.ks.length->∀le A' G',Chg A.foot G G'->A.To A' G.length->G.length<=le->le∉A'.foot->bu G' A' (bY (cp p k) st).1->G'[le]? =some (.lst ((bY (cp p k) st).2.map qU))->Q (.ref le) G'):run (b6 [.ref A.a,.int i,.int j]) G Q E:=by
 have ho0:=H.o
 walk_at "f"
 unfold cX
 refine aB (dO (bh (w_var rfl (bR ho0 (ak (w_var rfl (az ?_)))))))
 refine iy H hb fun p a hi ha=>?_
 have hpl:p < st.hs.length:=by rw[<-H.hl];exact(qB_.mp ha).1
 refine w_next ?_
 refine aB (dO (bh (w_var rfl (bR ho0 (ak (w_var rfl (az ?_)))))))
 refine ke H (hb2 (by omega)) fun k a2 hj ha2=>?_
 have hkl:k < st.ks.length:=by rw[<-H.kl];exact(qB_.mp ha2).1
 subst hi hj
 have hq:=hq p k rfl rfl hpl hkl
 have hlen:=m6 (cI p k) (mea st) st W (qO_ _)
 refine w_next ?_
 refine aB (bq (dI fun G1 c1 l1 h1=>w_next ?_))
 walk_at "s"
 have H1:=H.frame c1 (by simp)
 refine aB (bq (bh (w_var rfl (bR H1.o (ak (w_var rfl (ak (w_var rfl (az ?_)))))))))
 refine ju H1 ?_
 refine w_next ?_
 walk_at "s"
 refine aB (vE (m:=mea st) (fun σ G' m=>∃A' st' acc,m=mea st'/\σ=[some (.ref A.a),some (.int (p:Int)),some (.int (k:Int)),some (.ref G.length),some (oN (cp p k st'))]/\Lp (cp p k) G A st G.length G' A' st' acc) ?_ (by omega) ⟨A,st,[],rfl,rfl,Lp.start H W c1 h1⟩)
 rintro σ G' m ⟨A',st',acc,rfl,rfl,L⟩
 have ho:G'[A.a]? =some (.ins 2 [(9,.ref A'.lk),(10,.ref A'.lh),(11,.ref A'.lr)]):=by rw[<-L.to.a];exact L.H.o
 refine gB (oi (w_var rfl (qj (eP ?_))))
 cases hs:cp p k st' with
 |none=>
  refine(if_neg (show ¬(!decide (oN none=D.non))=true by decide)).mpr ?_
  refine w_next ?_
  have hr:=cu hs
  have r1:=L.r1
  have r2:=L.r2
  rw[hr]at r1 r2
  dsimp only at r1 r2
  rw[qY_]at r2
  walk_at "r"
  have HH:=L.H
  rw[r1]at HH
  have ll:=L.l
  rw[r2]at ll
  exact hq _ A' G' L.c L.to L.ge L.nf HH ll
 |some q=>
  refine(if_pos (show (!decide (oN (some q)=D.non))=true from rfl)).mpr ?_
  have hql:=cI p k st' q hs
  have h0:st'.row[q]? =some st'.row[q]:=qA_ hql
  have hm:=L.m
  have acl:acc.length<=800000:=by
   have:=congrArg List.length L.r2
   rw[qN_]at this
   omega
  have hend:=kK st' q false
  refine aB (dO (uN (w_var rfl (m4 L.l (bh (w_var rfl (bR ho (ak (w_var rfl (ak (w_c (az ?_))))))))))))
  rw[<-L.to.a]
  refine xu (p:=q) (s:=false) L.H L.W h0 (by omega) fun ln A2 G2 c2 to l2 H2 h2=>?_
  have hle2:=c2.get L.l L.nf
  refine gM hle2 h2 (by simp [aA];omega) fun G3 c3 l3 h3=>?_
  rw[<-qT_]at h3
  have L2:=L.step (ln:=ln) (cI p k) hs c2 to H2 c3 h3
  have lm:=bM L.W (cI p k st' q hs)
  refine w_next ?_
  have ho2:G3[A'.a]? =some (.ins 2 [(9,.ref A2.lk),(10,.ref A2.lh),(11,.ref A2.lr)]):=by rw[L.to.a,<-L2.to.a];exact L2.H.o
  refine bq (bh (w_var rfl (bR ho2 (ak (w_var rfl (ak (w_var rfl (az ?_))))))))
  rw[L.to.a,<-L2.to.a]
  refine ju L2.H ?_
  exact⟨mea (aL st' q false).1,by omega,A2,_,_,rfl,by walk_at "s",L2⟩
end
def word(b:Bool):Str:=if b then "read" else "write"
def stD:Option (Int×Int)->D
 |none=>.non
 |some s=>.tup [.int s.1,.int s.2]
structure Wk where
 hand:Nat
 rd:Bool
 val:Option Int
 beg:Nat
 en:Option Nat
 bG:Option (Int×Int)
def nD:Option Nat->D
 |none=>.non
 |some n=>.int (n:Int)
def wkF(w:Wk):List (Nat×D):=[(12,.int (w.hand:Int)),(13,.str (word w.rd)),(3,oD w.val),(14,.int (w.beg:Int)),(15,nD w.en),(16,stD w.bG)]
def nZ(G:Hh)(a:Nat)(w:Wk):Prop:=G[a]? =some (.ins 3 (wkF w))
def lQ(w:Wk):D:= .tup [.int (w.hand:Int),.str (word w.rd),oD w.val,.int (w.beg:Int),nD w.en]
structure Sy where
 af:Hl
 ah:List Wk
 last:List (Nat×Nat)
 aQ:Nat
structure Sd where
 s:Nat
 lw:Nat
 ld:Nat
 wa:List Nat
 A:Ad
def fZ(l:List (Nat×Nat)):List (Key×D):=l.map fun e=>(.inl (e.1:Int),.int (e.2:Int))
def Sd.own(S:Sd):List Nat:=[S.s,S.lw,S.ld]++S.wa
structure b9 (G:Hh) (S:Sd) (y:Sy):Prop where
 o:G[S.s]? =some (.ins 4 [(17,.ref S.A.a),(18,.ref S.lw),(19,.ref S.ld),(20,.int (y.aQ:Int))])
 w:G[S.lw]? =some (.lst (refs S.wa))
 d:G[S.ld]? =some (.dK (fZ y.last))
 wl:S.wa.length=y.ah.length
 wk:∀(i:Nat) a w,S.wa[i]? =some a->y.ah[i]? =some w->nZ G a w
 H:bu G S.A y.af
 nd:S.own.Nodup
 dj:∀x∈S.own,x∉S.A.foot
structure SWF (y:Sy):Prop where
 W:WF y.af
 la:∀e∈y.last,e.1 < y.af.hs.length/\e.2 < y.ah.length
 nd:(y.last.map (·.1)).Nodup
 atw:∀(i:Nat) h,y.af.hs[i]? =some h->h.atw=true->i∈y.last.map (·.1)
section
variable{G G':Hh}{Q:D->Hh->Prop}{E:Nat->Hh->Prop}{S:Sd}{y:Sy}
theorem b9.lt(Y:b9 G S y):∀n∈S.own,n < G.length:=by
 intro n hn
 unfold Sd.own at hn
 rcases qG_.mp hn with z |z
 · simp only[qS_,List.not_mem_nil,or_false]at z
   rcases z with rfl |rfl |rfl
   · exact av Y.o
   · exact av Y.w
   · exact av Y.d
 · obtain⟨i,hi,e⟩:=List.getElem_of_mem z
   have h1:S.wa[i]? =some n:=by rw[qA_ hi,e]
   have h2:i < y.ah.length:=by rw[<-Y.wl];exact hi
   exact av (Y.wk i n _ h1 (qA_ h2))
theorem vp{i a:Nat}(h:S.wa[i]? =some a):a∈S.own:=by unfold Sd.own;simp [qD_ h]
theorem iG(nd:S.own.Nodup):S.s≠S.lw/\S.s≠S.ld/\S.lw≠S.ld/\S.wa.Nodup/\∀x∈S.wa,x≠S.s/\x≠S.lw/\x≠S.ld:=by
 unfold Sd.own at nd
 rw[List.nodup_append]at nd
 obtain⟨n1,n2,n3⟩:=nd
 simp only[List.nodup_cons,qS_,List.not_mem_nil,or_false,not_or]at n1
 obtain⟨⟨a1,a2⟩,a3,_⟩:=n1
 exact⟨a1,a2,a3,n2,fun x hx=>⟨fun z=>n3 S.s (by simp) x hx z.symm,fun z=>n3 S.lw (by simp) x hx z.symm,fun z=>n3 S.ld (by simp) x hx z.symm⟩⟩
theorem b9.af{A':Ad}{st:Hl}(Y:b9 G S y)(c:Chg S.A.foot G G')(to:S.A.To A' G.length)(H:bu G' A' st):b9 G' {S with A:=A'} {y with af:=st}:=by
 have ns:∀x∈S.own,x∉S.A.foot:=Y.dj
 refine⟨?_,c.get Y.w (ns _ (by simp [Sd.own])),c.get Y.d (ns _ (by simp [Sd.own])),Y.wl,fun i a w h1 h2=>c.get (Y.wk i a w h1 h2) (ns _ (vp h1)),H,Y.nd,fun x hx z=>?_⟩
 · show G'[S.s]? =some (.ins 4 [(17,.ref A'.a),(18,.ref S.lw),(19,.ref S.ld),(20,.int (y.aQ:Int))])
   rw[to.a]
   exact c.get Y.o (ns _ (by simp [Sd.own]))
 · rcases to.foot x z with w |w
   · exact Y.dj x hx w
   · have:=Y.lt x hx;omega
theorem b9.IU{i a:Nat}{w:Wk}(Y:b9 G S y)(hi:S.wa[i]? =some a)(c:Chg [a] G G')(hw:nZ G' a w):b9 G' S {y with ah:=y.ah.set i w}:=by
 obtain⟨_,_,_,nw,q⟩:=iG Y.nd
 have ha:=qD_ hi
 obtain⟨e1,e2,e3⟩:=q a ha
 have ns:∀n,n≠a->n∉ [a]:=fun n h z=>h (by simpa using z)
 refine⟨c.get Y.o (ns _ (Ne.symm e1)),c.get Y.w (ns _ (Ne.symm e2)),c.get Y.d (ns _ (Ne.symm e3)),by simp [Y.wl],fun j b v h1 h2=>?_,Y.H.frame c (by intro n hn;simp at hn;rw[hn];exact Y.dj a (vp hi)),Y.nd,Y.dj⟩
 by_cases z:j=i
 · subst z
   rw[hi]at h1
   cases h1
   have:j < y.ah.length:=by rw[<-Y.wl];exact(qB_.mp hi).1
   have h2:(y.ah.set j w)[j]? =some v:=h2
   rw[qU_ this]at h2
   cases h2
   exact hw
 · have h2:(y.ah.set i w)[j]? =some v:=h2
   rw[qV_ (Ne.symm z)]at h2
   refine c.get (Y.wk j b v h1 h2) (ns _ fun w=>z ?_)
   subst w
   exact get_inj nw h1 hi
theorem b9.frame{T:List Nat}(Y:b9 G S y)(c:Chg T G G')(hs:∀n∈T,n∉S.own/\n∉S.A.foot):b9 G' S y:=by
 have ns:∀x∈S.own,x∉T:=fun x hx z=>(hs x z).1 hx
 exact⟨c.get Y.o (ns _ (by simp [Sd.own])),c.get Y.w (ns _ (by simp [Sd.own])),c.get Y.d (ns _ (by simp [Sd.own])),Y.wl,fun i a w h1 h2=>c.get (Y.wk i a w h1 h2) (ns _ (vp h1)),Y.H.frame c fun n hn=>(hs n hn).2,Y.nd,Y.dj⟩
theorem rP{l:List (Nat×Nat)}{i p:Nat}(nd:(l.map (·.1)).Nodup)(h:(i,p)∈l):look (fZ l) (.inl (i:Int))=some (.int (p:Int)):=by
 induction l with
 |nil=>cases h
 |cons e r ih=>
  obtain⟨k,q⟩:=e
  rw[List.map_cons,List.nodup_cons]at nd
  unfold fZ look
  rw[List.map_cons,List.find?_cons]
  by_cases z:k=i
  · subst z
    rcases qS_.mp h with w |w
    · cases w
      rw[qZ_ rfl]
      rfl
    · exact absurd (qH_.mpr ⟨_,w,rfl⟩) nd.1
  · have zz:¬((Sum.inl (k:Int):Key)= .inl (i:Int)):=fun w=>z (by have:=Sum.inl.inj w;omega)
    rw[qa_ zz]
    rcases qS_.mp h with w |w
    · cases w;exact absurd rfl z
    · exact ih nd.2 w
def putL(l:List (Nat×Nat))(k p:Nat):List (Nat×Nat):=if (l.any fun e=>decide (e.1=k))then l.map fun e=>if e.1=k then (e.1,p)else e else l++[(k,p)]
theorem Hz(l:List (Nat×Nat))(k p:Nat):put (fZ l) (.inl (k:Int)) (.int (p:Int))=fZ (putL l k p):=by
 have key:∀e:Nat×Nat,decide ((Sum.inl (e.1:Int):Key)= .inl (k:Int))=decide (e.1=k):=fun e=>decide_eq_decide.mpr ⟨fun z=>by have:=Sum.inl.inj z;omega,fun z=>by rw[z]⟩
 unfold put putL
 have e1:((fZ l).any fun kv=>decide (kv.1=(.inl (k:Int):Key)))=l.any fun e=>decide (e.1=k):=by
  unfold fZ
  rw[List.any_map]
  congr 1
  funext e
  exact key e
 rw[e1]
 by_cases c:(l.any fun e=>decide (e.1=k))=true
 · rw[if_pos c,if_pos c]
   unfold fZ
   rw[qb_,qb_]
   apply List.map_congr_left
   intro e _
   by_cases z:e.1=k
   · have z':(Sum.inl (e.1:Int):Key)= .inl (k:Int):=by rw[z]
     show (if (Sum.inl (e.1:Int):Key)= .inl (k:Int)then ((Sum.inl (e.1:Int):Key),D.int (p:Int))else (Sum.inl (e.1:Int),D.int (e.2:Int)))=(Sum.inl ((if e.1=k then (e.1,p)else e).1:Int),D.int ((if e.1=k then (e.1,p)else e).2:Int))
     rw[if_pos z',if_pos z]
   · have z':¬(Sum.inl (e.1:Int):Key)= .inl (k:Int):=fun w=>z (by have:=Sum.inl.inj w;omega)
     show (if (Sum.inl (e.1:Int):Key)= .inl (k:Int)then ((Sum.inl (e.1:Int):Key),D.int (p:Int))else (Sum.inl (e.1:Int),D.int (e.2:Int)))=(Sum.inl ((if e.1=k then (e.1,p)else e).1:Int),D.int ((if e.1=k then (e.1,p)else e).2:Int))
     rw[if_neg z',if_neg z]
 · rw[if_neg c,if_neg c]
   unfold fZ
   rw[qT_]
   rfl
theorem uG{i b:Nat}{rd:Bool}{v:Option Int}{a:Nat}(ha:G[a]? =some (.ins 3 []))(hq:∀G',Chg [a] G G'->nZ G' a ⟨i,rd,v,b,none,none⟩->Q .non G'):run (gV [.ref a,.int (i:Int),.str (word rd),oD v,.int (b:Int)]) G Q E:=by
 walk_at "f"
 unfold ku
 walk_at "r"
 refine aI ha ⟨by decide,qP_ rfl⟩ fun G1 c1 l1 h1=>?_
 walk_at "r"
 refine aI h1 ⟨by decide,qP_ rfl⟩ fun G2 c2 l2 h2=>?_
 walk_at "r"
 refine aI h2 ⟨by decide,qP_ rfl⟩ fun G3 c3 l3 h3=>?_
 walk_at "r"
 refine aI h3 ⟨by decide,qP_ rfl⟩ fun G4 c4 l4 h4=>?_
 walk_at "r"
 refine aI h4 ⟨by decide,qP_ rfl⟩ fun G5 c5 l5 h5=>?_
 walk_at "r"
 refine aI h5 ⟨by decide,qP_ rfl⟩ fun G6 c6 l6 h6=>?_
 walk_at "r"
 exact hq G6 (((((c1.trans c2).trans c3).trans c4).trans c5).trans c6) h6
def pI(y:Sy)(i:Nat)(rd:Bool)(v:Option Int):Sy:={y with ah:=y.ah++[⟨i,rd,v,y.aQ,none,none⟩],last:=putL y.last i y.ah.length}
theorem vT{l:List (Nat×Nat)}{k p:Nat}{e:Nat×Nat}(h:e∈putL l k p):e=(k,p)\/e∈l:=by
 unfold putL at h
 split at h
 · obtain⟨x,hx,ex⟩:=qH_.mp h
   split at ex
   · rename_i z;subst ex;rw[z];exact .inl rfl
   · subst ex;exact .inr hx
 · rcases qG_.mp h with z |z
   · exact .inr z
   · simp at z;rw[z];exact .inl rfl
theorem oQ{i:Nat}{rd:Bool}{v:Option Int}(Y:b9 G S y)(hz:y.ah.length<=1000)(hz2:y.last.length<=1000)(hq:∀a G',Chg (S.own++S.A.foot) G G'->G.length<=a->b9 G' {S with wa:=S.wa++[a]} (pI y i rd v)->Q (.int (y.ah.length:Int)) G'):run (b8 [.ref S.s,.int (i:Int),.str (word rd),oD v]) G Q E:=by
 obtain⟨n1,n2,n3,n4,n5⟩:=iG Y.nd
 have ho:=Y.o
 walk_at "f"
 unfold eL
 walk_at "r"
 refine dN Y.w ?_
 rw[show (refs S.wa).length=S.wa.length from qM_ _,Y.wl]
 walk_at "r"
 refine m4 Y.w ?_
 refine kQ (ak (w_var rfl (ak (w_var rfl (ak (w_var rfl (ak (w_fld (w_var rfl (bc ho (by decide) rfl (az ?_)))))))))))
 intro G1 c1 l1 h1
 refine uG h1 fun G2 c2 h2=>⟨rfl,?_⟩
 have nw:∀x∈S.own,x∉ [G.length]:=fun x hx z=>by have:=Y.lt x hx;simp at z;omega
 have w2:=c2.get (c1.get Y.w (by simp)) (nw _ (by simp [Sd.own]))
 refine nP w2 (by rw[show (refs S.wa).length=S.wa.length from qM_ _,Y.wl];unfold aA;omega) fun G3 c3 l3 h3=>?_
 have c12:Chg [] G G2:=(c1.trans' c2 (by intro n hn;simp at hn;rw[hn];exact .inr (qO_ _)))
 have Y2:=Y.frame c12 (by simp)
 have nlw:∀x,x≠S.lw->x∉ [S.lw]:=fun x h z=>h (by simpa using z)
 have o3:=c3.get Y2.o (nlw _ n1)
 have d3:=c3.get Y2.d (nlw _ (Ne.symm n3))
 walk_at "r"
 refine ya d3 rfl (by unfold fZ;rw[qM_];unfold aA;omega) fun G4 c4 l4 h4=>?_
 rw[Hz]at h4
 walk_at "r"
 have g12:=c12.1
 have nld:∀x,x≠S.ld->x∉ [S.ld]:=fun x h z=>h (by simpa using z)
 have lwlt:=av Y.w
 have ldlt:=av Y.d
 refine hq G.length G4 ?_ (qO_ _) ⟨c4.get o3 (nld _ n2),?_,h4,by simp [pI,Y.wl],fun j b w e1 e2=>?_,?_,?_,fun x hx z=>?_⟩
 · refine((c12.mono (by simp)).trans (c3.mono ?_)).trans (c4.mono ?_)
   · intro n hn;simp at hn;rw[hn];simp [Sd.own]
   · intro n hn;simp at hn;rw[hn];simp [Sd.own]
 · have:=c4.get h3 (nld _ n3)
   show G4[S.lw]? =some (.lst (refs (S.wa++[G.length])))
   rw[this]
   unfold refs
   rw[qT_]
   rfl
 · have e1:(S.wa++[G.length])[j]? =some b:=e1
   have e2:(y.ah++[⟨i,rd,v,y.aQ,none,none⟩])[j]? =some w:=e2
   by_cases hj:j < S.wa.length
   · rw[qK_ hj]at e1
     rw[qK_ (by rw[<-Y.wl];exact hj)]at e2
     have q:=n5 b (qD_ e1)
     exact c4.get (c3.get (Y2.wk j b w e1 e2) (nlw _ q.2.1)) (nld _ q.2.2)
   · have hj2:j=S.wa.length:=by
      have:=(qB_.mp e1).1
      simp at this
      omega
     subst hj2
     simp at e1
     rw[Y.wl]at e2
     simp at e2
     subst e1 e2
     exact c4.get (c3.get h2 (nlw _ (by omega))) (nld _ (by omega))
 · exact((Y2.H.frame c3 (by intro n hn;simp at hn;rw[hn];exact Y.dj _ (by simp [Sd.own]))).frame c4 (by intro n hn;simp at hn;rw[hn];exact Y.dj _ (by simp [Sd.own])))
 · have nd:=Y.nd
   unfold Sd.own at nd ⊢
   dsimp only
   rw[<-List.append_assoc,List.nodup_append]
   refine⟨nd,by simp,fun x hx z hz w=>?_⟩
   simp at hz
   have:=Y.lt x hx
   omega
 · unfold Sd.own at hx
   dsimp only at hx
   rw[<-List.append_assoc]at hx
   rcases qG_.mp hx with w |w
   · exact Y.dj x w z
   · simp at w
     have:=Y.H.lt x z
     omega
end
def lastOf(l:List (Nat×Nat))(i:Nat):Nat:=((l.find? fun e=>decide (e.1=i)).map (·.2)).getD 0
theorem iZ{l:List (Nat×Nat)}{i:Nat}(h:i∈l.map (·.1)):(i,lastOf l i)∈l:=by
 unfold lastOf
 cases q:l.find? fun e=>decide (e.1=i)with
 |none=>
  obtain⟨e,he,ee⟩:=qH_.mp h
  exact absurd (qZ_ ee) (List.find?_eq_none.mp q e he)
 |some e=>
  have h1:=List.find?_some q
  have h2:=List.mem_of_find?_eq_some q
  have h3:e.1=i:=of_decide_eq_true h1
  show (i,e.2)∈l
  rw[<-h3]
  exact h2
def g7(y:Sy)(q:Nat)(f:Wk->Wk):Sy:=match y.ah[q]? with
 |none=>y
 |some w=>{y with ah:=y.ah.set q (f w)}
def AE(y:Sy)(p:Pr)(w:Wk):Wk:={w with val:=some p.2,en:=some y.aQ}
def lI(y:Sy)(e:Nat×Pr):Sy:=g7 y (lastOf y.last e.1) (AE y e.2)
def bK(y:Sy)(es:List (Nat×Pr)):Sy:=es.foldl lI y
theorem mw(y:Sy)(q:Nat)(f:Wk->Wk):(g7 y q f).last=y.last/\(g7 y q f).af=y.af/\(g7 y q f).aQ=y.aQ/\(g7 y q f).ah.length=y.ah.length:=by
 unfold g7
 split <;> simp
theorem fH:∀(es:List (Nat×Pr)) (y:Sy),(bK y es).last=y.last/\(bK y es).af=y.af/\(bK y es).aQ=y.aQ/\(bK y es).ah.length=y.ah.length
 | [],y=>⟨rfl,rfl,rfl,rfl⟩
 |e :: r,y=>by
  have h1:=fH r (lI y e)
  have h2:=mw y (lastOf y.last e.1) (AE y e.2)
  unfold bK at*
  rw[List.foldl_cons]
  exact⟨h1.1.trans h2.1,h1.2.1.trans h2.2.1,h1.2.2.1.trans h2.2.2.1,h1.2.2.2.trans h2.2.2.2⟩
def seD(y:Sy)(e:Nat×Pr):D:= .tup [.int (lastOf y.last e.1:Int),.int e.2.2]
section
variable{G G':Hh}{Q:D->Hh->Prop}{E:Nat->Hh->Prop}{S:Sd}{y:Sy}
theorem b9.Jd(Y:b9 G S y){i:Nat}{w:Wk}(h:y.ah[i]? =some w):∃a,S.wa[i]? =some a/\nZ G a w:=by
 have:i < S.wa.length:=by rw[Y.wl];exact(qB_.mp h).1
 exact⟨_,qA_ this,Y.wk i _ w (qA_ this) h⟩
theorem wK{e:Nat×Pr}(Y:b9 G S y)(W:SWF y)(he:e.1∈y.last.map (·.1))(hq:∀G',Chg S.own G G'->b9 G' S (lI y e)->Q (seD y e) G'):run (dh [.ref S.s,.int (e.1:Int),pD e.2]) G Q E:=by
 have hm:=iZ he
 have hlt:=(W.la _ hm).2
 have hw:y.ah[lastOf y.last e.1]? =some y.ah[lastOf y.last e.1]:=qA_ hlt
 generalize y.ah[lastOf y.last e.1]=w at hw
 obtain⟨a,ha,hwa⟩:=Y.Jd hw
 have ho:=Y.o
 have hne:S.s∉ [a]:=fun z=>by simp at z;exact(iG Y.nd).2.2.2.2 a (qD_ ha) |>.1 z.symm
 unfold nZ wkF at hwa
 walk_at "f"
 unfold fi
 refine aB (bq (aJ (w_fld (w_var rfl (bc ho (by decide) rfl (w_var rfl (Fc Y.d rfl (rP W.nd hm) (w_next ?_))))))))
 walk_at "s"
 refine aB (bq (aJ (w_fld (w_var rfl (bc ho (by decide) rfl (w_var rfl (cP Y.w (iY ha) (w_next ?_))))))))
 walk_at "s"
 unfold pD
 refine aB (fy (aJ (w_var rfl (w_c (bb rfl (w_var rfl ?_))))))
 refine aI hwa ⟨by decide,qP_ rfl⟩ fun G1 c1 l1 h1=>?_
 have ho1:=c1.get ho hne
 refine w_next ?_
 refine aB (fy (w_fld (w_var rfl (bc ho1 (by decide) rfl (w_var rfl ?_)))))
 refine aI h1 ⟨by decide,qP_ rfl⟩ fun G2 c2 l2 h2=>?_
 refine w_next ?_
 refine bE (xR (ak (w_var rfl (ak (w_fld (w_var rfl (bc h2 (by decide) rfl (az ⟨qP_ (by with_unfolding_all rfl),?_⟩))))))))
 walk_at "r"
 have c:=c1.trans c2
 have Y2:=Y.IU (w:=AE y e.2 w) ha c h2
 have e1:lI y e={y with ah:=y.ah.set (lastOf y.last e.1) (AE y e.2 w)}:=by
  unfold lI g7
  rw[hw]
 refine hq G2 (c.mono (by intro n hn;simp at hn;rw[hn];exact vp ha)) ?_
 rw[e1]
 exact Y2
theorem uV{le:Nat}{es:List (Nat×Pr)}(Y:b9 G S y)(W:SWF y)(hl:G[le]? =some (.lst (es.map qU)))(hn:le∉S.own)(hz:es.length<=1000000)(he:∀e∈es,e.1∈y.last.map (·.1))
 (hq:∀l2 G',Chg S.own G G'->G.length<=l2->b9 G' S (bK y es)->G'[l2]? =some (.lst (es.map (seD y)))->Q (.ref l2) G'):run (bz [.ref S.s,.ref le]) G Q E:=by
 walk_at "f"
 unfold eN
 refine bE (tU (oJ (w_var rfl (fv hl ?_))))
 refine jd (xs:=es.map qU) (fun i acc G'=>Chg S.own G G'/\b9 G' S (bK y (es.take i))/\acc=(es.take i).map (seD y)) ?_ ?_ ?_ _ 0 [] G List.drop_zero (qf_ _) ⟨Chg.refl _ _,Y,rfl⟩
 · rintro i acc G' ⟨c,_⟩
   exact qZ_ (c.get hl hn)
 · rintro i x acc G' hx ⟨c,Y',rfl⟩
   obtain⟨e,he1,rfl⟩:=pz hx
   refine gQ ?_
   rw[if_pos rfl]
   obtain⟨q1,q2,q3,q4⟩:=fH (es.take i) y
   have W':SWF (bK y (es.take i)):=⟨by rw[q2];exact W.W,by rw[q1,q2,q4];exact W.la,by rw[q1];exact W.nd,by rw[q1,q2];exact W.atw⟩
   have ho:=Y'.o
   unfold qU
   refine bh (w_var rfl (bR ho (ak (aJ (w_var rfl (w_c (bb rfl (ak (aJ (w_var rfl (w_c (bb rfl (az ?_)))))))))))))
   refine wK (e:=e) Y' W' (by rw[q1];exact he e (qD_ he1)) fun G2 c2 Y2=>?_
   refine⟨by have:=List.length_take_le i es;simp [aA];omega,c.trans c2,?_,?_⟩
   · rw[take_succ he1]
     unfold bK at*
     rw[List.foldl_append]
     exact Y2
   · rw[take_succ he1,qT_]
     unfold seD
     rw[q1]
     rfl
 · rintro acc G' ⟨c,Y',rfl⟩
   rw[qM_,List.take_length]at*
   walk_at "r"
   have c3:Chg [] G' (G'++[O.lst (es.map (seD y))]):=Chg.add _ _
   exact hq G'.length _ (c.trans (c3.mono (by simp))) c.1 (Y'.frame c3 (by simp)) (aZ _ _)
end
section
variable{G G':Hh}{Q:D->Hh->Prop}{E:Nat->Hh->Prop}{S:Sd}{y:Sy}{σ:St}{QS:Fl×St->Hh->Prop}
theorem Df{e:E3}{g:D->St->M St}{body:S3}(h:run (e σ) G (fun x G1=>∃n kvs,x= .ref n/\G1[n]? =some (.dK kvs)/\run (forL (fun _=>true) (fun x σ=>bnd (g x σ) body) (eO kvs) σ) (G1.set n (.dF kvs)) (fun p G2=>G2[n]? =some (.dF kvs)/\QS p (G2.set n (.dK kvs))) (fun _ _=>False)) E):run (xt e g body σ) G QS E:=by
 refine ay (ao h (fun x G1 q=>?_) fun _ _ z=>z)
 obtain⟨n,kvs,rfl,hn,hr⟩:=q
 unfold M3.run xw
 dsimp only
 rw[hn]
 dsimp only
 unfold uI
 unfold M3.run at hr
 cases q:forL (fun _=>true) (fun x σ=>bnd (g x σ) body) (eO kvs) σ (G1.set n (.dF kvs))with
 |none=>rw[q]at hr;exact hr
 |some r=>
  obtain⟨o,G2⟩:=r
  rw[q]at hr
  cases o with
  |exc c=>exact absurd hr (by intro z;exact z)
  |ok p=>
   dsimp only at hr ⊢
   rw[if_pos hr.1]
   exact hr.2
def nV(p:Pr)(w:Wk):Wk:={w with bG:=some p.1}
def aT(y:Sy)(e:Nat×Nat):Sy:=match (y.af.hs[e.1]?).bind (·.pair)with
 |none=>y
 |some p=>g7 y e.2 (nV p)
def aK(y:Sy):Sy:=y.last.foldl aT y
theorem oM(y:Sy)(e:Nat×Nat):(aT y e).last=y.last/\(aT y e).af=y.af/\(aT y e).aQ=y.aQ/\(aT y e).ah.length=y.ah.length:=by
 unfold aT
 split
 · exact⟨rfl,rfl,rfl,rfl⟩
 · exact mw _ _ _
theorem cA:∀(l:List (Nat×Nat)) (y:Sy),(l.foldl aT y).last=y.last/\(l.foldl aT y).af=y.af/\(l.foldl aT y).aQ=y.aQ/\(l.foldl aT y).ah.length=y.ah.length
 | [],y=>⟨rfl,rfl,rfl,rfl⟩
 |e :: l,y=>by
  obtain⟨a,b,c,d⟩:=cA l (aT y e)
  obtain⟨a',b',c',d'⟩:=oM y e
  exact⟨a.trans a',b.trans b',c.trans c',d.trans d'⟩
theorem iu{n m:Nat}{o p:O}(h:(G.set n o)[m]? =some p)(hm:m≠n):G[m]? =some p:=by
 rw[qV_ (Ne.symm hm)]at h;exact h
theorem vk{T:List Nat}{n:Nat}{o:O}(c:Chg T G G'):Chg T (G.set n o) (G'.set n o):=by
 refine⟨by simpa using c.1,fun m hm ht=>?_⟩
 have hm':m < G.length:=by simpa using hm
 by_cases z:m=n
 · subst z
   rw[qU_ hm',qU_ (qd_ hm' c.1)]
 · rw[qV_ (Ne.symm z),qV_ (Ne.symm z)]
   exact c.2 m hm' ht
theorem vH{n:Nat}{o p:O}(h:G[n]? =some o):(G.set n p).set n o=G:=by
 rw[List.set_set]
 apply List.ext_getElem?
 intro m
 by_cases z:m=n
 · subst z
   rw[qU_ (av h),h]
 · rw[qV_ (Ne.symm z)]
theorem qY(Y:b9 G S y)(W:SWF y)(hq:∀G',Chg S.own G G'->b9 G' S (aK y)->Q .non G'):run (cn [.ref S.s]) G Q E:=by
 obtain⟨n1,n2,n3,n4,n5⟩:=iG Y.nd
 have ho:=Y.o
 walk_at "f"
 unfold dt
 refine Df (w_fld (w_var rfl (bc ho (by decide) rfl ⟨S.ld,fZ y.last,rfl,Y.d,?_⟩)))
 have hit:eO (fZ y.last)=y.last.map fun e=>D.tup [.int (e.1:Int),.int (e.2:Int)]:=by
  unfold eO fZ
  rw[qb_]
  rfl
 rw[hit]
 refine lW (fun i σ G'=>(∃a b c d,σ=[some (.ref S.s),a,b,c,d])/\G'[S.ld]? =some (.dF (fZ y.last))/\Chg S.own G (G'.set S.ld (.dK (fZ y.last)))/\b9 (G'.set S.ld (.dK (fZ y.last))) S ((y.last.take i).foldl aT y)) (fun _ _ _ _=>rfl) ?_ ?_ ⟨⟨_,_,_,_,rfl⟩,gy Y.d,by rw[vH Y.d];exact Chg.refl _ _,by rw[vH Y.d];exact Y⟩
 · rintro i e σ G' he ⟨⟨v1,v2,v3,v4,rfl⟩,hf,c,Y'⟩
   obtain⟨q1,q2,q3,q4⟩:=cA (y.last.take i) y
   have hem:=qD_ he
   obtain⟨l1,l2⟩:=W.la e hem
   rw[show (y.last.take (i+1)).foldl aT y=aT ((y.last.take i).foldl aT y) e by rw[take_succ he,List.foldl_append];rfl]
   generalize (y.last.take i).foldl aT y=y' at*
   have hh:y'.af.hs[e.1]? =some y.af.hs[e.1]:=by rw[q2];exact qA_ l1
   generalize y.af.hs[e.1]=h at hh
   obtain⟨a,d,ha,hd,hat⟩:=Y'.H.hand hh
   have hso:∀x,x∈S.A.foot->x≠S.ld:=fun x hx z=>Y.dj S.ld (by simp [Sd.own]) (z ▸ hx)
   have o1:=iu Y'.o n2
   have w1:=iu Y'.w n3
   have ho1:=iu Y'.H.o (hso _ (by simp [Ad.foot]))
   have hh1:=iu Y'.H.h (hso _ (by simp [Ad.foot]))
   have ha1:=iu hat.1 (hso _ (vj ha))
   refine ay (BU rfl ?_)
   walk_at "s"
   refine aB (bq (w_fld (aJ (w_fld (w_fld (w_var rfl (bc o1 (by decide) rfl (bc ho1 (by decide) rfl (w_var rfl (cP hh1 (iY ha) (bc ha1 (by decide) rfl (w_next ?_))))))))))))
   walk_at "s"
   refine cK (gB (oi (w_var rfl ?_)))
   walk_at "r"
   rw[pw]
   cases hp:h.pair with
   |none=>
    have e1:aT y' e=y':=by unfold aT;rw[hh];dsimp only[Option.bind];rw[hp]
    rw[e1]
    dsimp only[Option.isNone]
    walk_at "r"
    exact⟨⟨_,_,_,_,rfl⟩,hf,c,Y'⟩
   |some p=>
    have e1:aT y' e=g7 y' e.2 (nV p):=by unfold aT;rw[hh];dsimp only[Option.bind];rw[hp]
    rw[e1]
    dsimp only[Option.isNone]
    have hw:y'.ah[e.2]? =some (y'.ah[e.2]'(by rw[q4];exact l2)):=qA_ _
    generalize y'.ah[e.2]'(by rw[q4];exact l2)=w at hw
    obtain⟨b,hb,hwb⟩:=Y'.Jd hw
    have hbn:=n5 b (qD_ hb)
    have hwb1:=iu hwb hbn.2.2
    unfold wkF at hwb1
    walk_at "r"
    refine cP w1 (iY hb) ?_
    walk_at "r"
    unfold opD pD
    walk_at "r"
    refine aI hwb1 ⟨by decide,qP_ rfl⟩ fun G2 c2 g2 h2=>?_
    refine⟨⟨_,_,_,_,rfl⟩,c2.get hf (by intro z;simp at z;exact hbn.2.2 z.symm),?_,?_⟩
    · exact c.trans ((vk c2).mono (by intro n hn;simp at hn;rw[hn];exact vp hb))
    · unfold g7
      rw[hw]
      refine Y'.IU (w:=nV p w) hb (vk c2) ?_
      show (G2.set S.ld _)[b]? =some (.ins 3 (wkF (nV p w)))
      rw[qV_ (Ne.symm hbn.2.2)]
      exact h2
 · rintro σ G' ⟨⟨v1,v2,v3,v4,rfl⟩,hf,c,Y'⟩
   refine⟨hf,?_⟩
   rw[List.take_length]at Y'
   walk_at "r"
   exact hq _ c Y'
end
inductive bU where
 |wr (i v:Int)
 |rd (i:Int)
 |ca (n:Int) (s:Bool)
 |pa (i j:Int)
 |sw
 |ag (i:Int)
 |qu (i:Int)
 |st (j:Int)
 |wa (j:Int)
def bC:bU->D
 | .wr i v=>.tup [.str "write",.int i,.int v]
 | .rd i=>.tup [.str "read",.int i]
 | .ca n s=>.tup [.str "carry",.int n,.bl s]
 | .pa i j=>.tup [.str "pass",.int i,.int j]
 | .sw=>.tup [.str "sweep"]
 | .ag i=>.tup [.str "again",.int i]
 | .qu i=>.tup [.str "quit",.int i]
 | .st j=>.tup [.str "stop",.int j]
 | .wa j=>.tup [.str "wake",.int j]
inductive An where
 |one (d:D)
 |lst (ds:List D)
inductive Rs where
 |no (c:Nat)
 |ok (y:Sy) (a:An)
def inB(i:Int)(n:Nat):Option Nat:=if i < 0\/(n:Int)<=i then none else some i.toNat
theorem fI{i:Int}{n:Nat}(h:i < 0\/(n:Int)<=i):inB i n=none:=if_pos h
theorem j7{i:Int}{n j:Nat}(h:i=(j:Int))(hj:j < n):inB i n=some j:=by
 unfold inB
 rw[if_neg (by omega),h]
 rfl
def aG(y:Sy)(h:Hl):Sy:={y with af:=h}
def endsF(y:Sy)(r:Hl×List (Nat×Pr)):Sy:=bK (aG y r.1) r.2
def oE(y:Sy)(r:Hl×List (Nat×Pr)):List D:=r.2.map (seD y)
def cE(y:Sy)(i:Int)(rd:Bool)(v:Option Int):Rs:=match inB i y.af.hs.length with
 |none=>.no 1001
 |some j=>match y.af.hs[j]? with
  |none=>.no 1001
  |some h=>if h.atw then .no 1004 else .ok (pI (aG y (fR y.af j h v)) j rd v) (.one (.int (y.ah.length:Int)))
def gK(y:Sy)(i:Int)(f:Nat->Hd->Rs):Rs:=match inB i y.af.hs.length with
 |none=>.no 1001
 |some j=>match y.af.hs[j]? with
  |none=>.no 1001
  |some h=>if h.atw then f j h else .no 1005
def qx(y:Sy)(i:Int)(f:Nat->Kr->Rs):Rs:=match inB i y.af.ks.length with
 |none=>.no 1002
 |some j=>match y.af.ks[j]? with
  |none=>.no 1002
  |some k=>f j k
def z8:List D->D
 | []=>.non
 |d :: _=>d
def CF(y:Sy)(n:Int):Nat:=(n % (y.af.row.length:Int)).toNat
def doneF(y:Sy):bU->Rs
 | .wr i v=>cE y i false (some v)
 | .rd i=>cE y i true none
 | .ca n s=>if y.af.row=[]then .no 1003 else .ok (endsF y (aL y.af (CF y n) s)) (.one (z8 (oE y (aL y.af (CF y n) s))))
 | .pa i j=>match inB i y.af.hs.length with
   |none=>.no 1001
   |some p=>match inB j y.af.ks.length with
    |none=>.no 1002
    |some k=>.ok (endsF y (bY (cp p k) y.af)) (.lst (oE y (bY (cp p k) y.af)))
 | .sw=>.ok (endsF y (bY aR y.af)) (.lst (oE y (bY aR y.af)))
 | .ag i=>gK y i fun j h=>.ok (aG y {y.af with row:=newRow y.af h}) (.one (.int ((bo h).length:Int)))
 | .qu i=>gK y i fun j h=>.ok (aG y {y.af with hs:=y.af.hs.set j {h with atw:=false}}) (.one (.int (lastOf y.last j:Int)))
 | .st i=>qx y i fun j k=>.ok (aG y {y.af with ks:=y.af.ks.set j {k with up:=false}}) (.one (.bl k.up))
 | .wa i=>qx y i fun j k=>.ok (aG y {y.af with ks:=y.af.ks.set j {k with up:=true}}) (.one (.bl (!k.up)))
structure Iv (y:Sy):Prop where
 W:SWF y
 m:mea y.af<=40*y.aQ
 w:y.ah.length<=y.aQ
 l:y.last.length<=9
theorem Dj{y:Sy}(nd:(y.last.map (·.1)).Nodup)(la:∀e∈y.last,e.1 < y.af.hs.length)(hs:y.af.hs.length<=9):y.last.length<=9:=by
 have:=tm y.af.hs.length (y.last.map (·.1)) nd (fun x hx=>by
  obtain⟨e,he,rfl⟩:=qH_.mp hx
  exact la e he)
 rw[qM_]at this
 omega
structure Hon (a b:Hl):Prop where
 W:WF b
 hl:b.hs.length=a.hs.length
 at':∀(i:Nat) g,b.hs[i]? =some g->g.atw=true->∃h,a.hs[i]? =some h/\h.atw=true
theorem Hon.swf{y:Sy}{b:Hl}(W:SWF y)(h:Hon y.af b):SWF (aG y b):=by
 refine⟨h.W,fun e he=>⟨by show e.1 < b.hs.length;rw[h.hl];exact(W.la e he).1,(W.la e he).2⟩,W.nd,fun i g hi hg=>?_⟩
 obtain⟨x,h1,h2⟩:=h.at' i g hi hg
 exact W.atw i x h1 h2
theorem qe{a:Hl}(W:WF a)(p:Nat)(s:Bool):Hon a (aL a p s).1:=by
 refine⟨gR W p s,?_,?_⟩
 · unfold aL
   split
   · rfl
   · split
     · rfl
     · simp
   · split
     · rfl
     · rfl
 · intro i g
   unfold aL
   split
   · exact fun h1 h2=>⟨g,h1,h2⟩
   · rename_i l hr
     split
     · exact fun h1 h2=>⟨g,h1,h2⟩
     · rename_i h hh
       intro h1 h2
       have h1:(a.hs.set l.hand (aM h l).1)[i]? =some g:=h1
       by_cases z:i=l.hand
       · subst z
         rw[qU_ (qB_.mp hh).1]at h1
         cases h1
         refine⟨h,hh,?_⟩
         revert h2
         unfold aM
         cases q:h.atw with
         |true=>exact fun _=>rfl
         |false=>intro h2;simp [q]at h2
       · rw[qV_ (Ne.symm z)]at h1
         exact⟨g,h1,h2⟩
   · split
     · exact fun h1 h2=>⟨g,h1,h2⟩
     · exact fun h1 h2=>⟨g,h1,h2⟩
theorem Hon.trans{a b c:Hl}(x:Hon a b)(y:Hon b c):Hon a c:=⟨y.W,y.hl.trans x.hl,fun i g h1 h2=>by
 obtain⟨g',h3,h4⟩:=y.at' i g h1 h2
 exact x.at' i g' h3 h4⟩
theorem Hon.refl{a:Hl}(W:WF a):Hon a a:=⟨W,rfl,fun _ g h1 h2=>⟨g,h1,h2⟩⟩
theorem sW{a:Hl}(p:Nat)(s:Bool):∀e∈(aL a p s).2,∃h,a.hs[e.1]? =some h/\h.atw=true:=by
 intro e he
 unfold aL at he
 split at he
 · cases he
 · split at he
   · cases he
   · rename_i l hr h hh
     dsimp only at he
     split at he
     · cases he
     · rename_i p hp
       simp at he
       subst he
       refine⟨h,hh,?_⟩
       unfold aM at hp
       cases q:h.atw with
       |true=>rfl
       |false=>simp [q]at hp
 · split at he <;> cases he
theorem jN{sel:Hl->Option Nat}(hs:Sel sel):∀(n:Nat) (a:Hl),WF a->mea a<=n->Hon a (bY sel a).1/\mea (bY sel a).1<=mea a/\∀e∈(bY sel a).2,∃h,a.hs[e.1]? =some h/\h.atw=true:=by
 intro n
 induction n with
 |zero=>
  intro a W hm
  cases q:sel a with
  |none=>rw[cu q];exact⟨Hon.refl W,qO_ _,by simp⟩
  |some p=>
   have:=bM W (hs a p q)
   omega
 |succ n ih=>
  intro a W hm
  cases q:sel a with
  |none=>rw[cu q];exact⟨Hon.refl W,qO_ _,by simp⟩
  |some p=>
   rw[iD hs W q]
   have h1:=bM W (hs a p q)
   have c:=qe W p false
   obtain⟨i1,i2,i3⟩:=ih (aL a p false).1 c.W (by omega)
   refine⟨c.trans i1,by dsimp only;omega,fun e he=>?_⟩
   rcases qG_.mp he with z |z
   · exact sW p false e z
   · obtain⟨h,h2,h3⟩:=i3 e z
     exact c.at' _ h h2 h3
theorem yF{st:Hl}(W:WF st){j:Nat}{h h':Hd}(hj:st.hs[j]? =some h)(ok:HOK st.ks.length j h')(hr:h.rnd<=h'.rnd)(hp:h'.rnd=h.rnd->h'.pair=h.pair):WF {st with hs:=st.hs.set j h'}:=by
 have hlt:=(qB_.mp hj).1
 refine⟨fun i g hg=>?_,fun e he=>?_,W.ksz,by show (st.hs.set j h').length<=9;simpa using W.hsz⟩
 · have hg:(st.hs.set j h')[i]? =some g:=hg
   by_cases z:i=j
   · subst z
     rw[qU_ hlt]at hg
     cases hg
     exact ok
   · rw[qV_ (Ne.symm z)]at hg
     exact W.hk i g hg
 · obtain⟨g,h1,h2,h3,h4⟩:=W.rw e he
   by_cases z:e.2.hand=j
   · rw[z]at h1
     rw[hj]at h1
     cases h1
     refine⟨h',by show (st.hs.set j h')[e.2.hand]? =some h';rw[z];exact qU_ hlt,h2,by omega,fun w=>?_⟩
     have e1:h'.rnd=h.rnd:=by omega
     rw[hp e1]
     exact h4 (by omega)
   · exact⟨g,by show (st.hs.set j h')[e.2.hand]? =some g;rw[qV_ (Ne.symm z)];exact h1,h2,h3,h4⟩
theorem yn{st:Hl}(W:WF st)(j:Nat)(k:Kr):WF {st with ks:=st.ks.set j k}:=by
 have hl:(st.ks.set j k).length=st.ks.length:=by simp
 refine⟨fun i g hg=>?_,fun e he=>?_,by show (st.ks.set j k).length<=9;rw[hl];exact W.ksz,W.hsz⟩
 · have:=W.hk i g hg
   show g.num=i/\g.cnt=(st.ks.set j k).length/\_
   rw[hl]
   exact this
 · have:=W.rw e he
   show ∃h,st.hs[e.2.hand]? =some h/\e.2.kpr < (st.ks.set j k).length/\_
   rw[hl]
   exact this
theorem BG{st:Hl}(W:WF st){j:Nat}{h:Hd}(hj:st.hs[j]? =some h):WF {st with row:=newRow st h}:=by
 refine⟨W.hk,fun e he=>?_,W.ksz,W.hsz⟩
 have he:e∈st.row++(bo h).map fun x=>(false,x):=he
 rcases qG_.mp he with z |z
 · exact W.rw e z
 · obtain⟨x,hx,rfl⟩:=qH_.mp z
   obtain⟨a,b,c,d⟩:=qt (W.hok hj) hx
   dsimp only
   refine⟨h,by rw[a];exact hj,b,by omega,fun _=>⟨fun _=>d,fun q=>by cases q⟩⟩
theorem BE{st:Hl}(W:WF st){j:Nat}{h:Hd}(hj:st.hs[j]? =some h)(v:Option Int):WF (fR st j h v):=by
 have hlt:=(qB_.mp hj).1
 have ok:=W.hok hj
 have W1:WF {st with hs:=st.hs.set j (bj h v)}:=yF W hj (uW (by exact ok.2.1) (by exact ok.1) none) (by show h.rnd<=h.rnd+1;omega) (fun z=>by have z:h.rnd+1=h.rnd:=z;omega)
 exact BG W1 (by show (st.hs.set j (bj h v))[j]? =_;exact qU_ hlt)
theorem xZ(st:Hl)(h:Hd)(hc:h.cnt<=9):((newRow st h).map wt).sum<=(st.row.map wt).sum+18:=by
 unfold newRow
 rw[qT_,List.sum_append,oy]
 have:=hG h
 omega
theorem Gk(h:Hd):pot h<=2*h.cnt:=by unfold pot;split <;> omega
theorem zR{st:Hl}(W:WF st){j:Nat}{h:Hd}(hj:st.hs[j]? =some h)(v:Option Int):mea (fR st j h v)<=mea st+36:=by
 have ok:=(W.hok hj).2.1
 have hk:=W.ksz
 have hc:(bj h v).cnt<=9:=by show h.cnt<=9;omega
 have a:=xZ st (bj h v) hc
 have b:=sum_set (g:=bj h v) hj
 have c:=Gk (bj h v)
 show ((newRow st (bj h v)).map wt).sum+((st.hs.set j (bj h v)).map pot).sum<=mea st+36
 unfold mea
 omega
theorem zC{st:Hl}(W:WF st){j:Nat}{h:Hd}(hj:st.hs[j]? =some h):mea {st with row:=newRow st h}<=mea st+18:=by
 have ok:=(W.hok hj).2.1
 have hk:=W.ksz
 have a:=xZ st h (by omega)
 show ((newRow st h).map wt).sum+(st.hs.map pot).sum<=mea st+18
 unfold mea
 omega
theorem Ay{st:Hl}{j:Nat}{h:Hd}(hj:st.hs[j]? =some h):mea {st with hs:=st.hs.set j {h with atw:=false}}<=mea st:=by
 have b:=sum_set (g:={h with atw:=false}) hj
 have c:pot {h with atw:=false}=0:=by unfold pot;rfl
 show (st.row.map wt).sum+((st.hs.set j {h with atw:=false}).map pot).sum<=mea st
 unfold mea
 omega
structure Iv1 (y z:Sy):Prop where
 W:SWF z
 d:z.aQ=y.aQ
 m:mea z.af<=40*y.aQ+40
 w:z.ah.length<=y.aQ+1
 l:z.last.length<=9
 hl:z.af.hs.length=y.af.hs.length
 kl:z.af.ks.length=y.af.ks.length
theorem Iv.same{y:Sy}(I:Iv y):Iv1 y y:=⟨I.W,rfl,by have:=I.m;omega,by have:=I.w;omega,I.l,rfl,rfl⟩
theorem sG{y z:Sy}(I:Iv1 y z)(es:List (Nat×Pr)):Iv1 y (bK z es):=by
 obtain⟨q1,q2,q3,q4⟩:=fH es z
 exact⟨⟨by rw[q2];exact I.W.W,by rw[q1,q2,q4];exact I.W.la,by rw[q1];exact I.W.nd,by rw[q1,q2];exact I.W.atw⟩,q3.trans I.d,by rw[q2];exact I.m,by rw[q4];exact I.w,by rw[q1];exact I.l,by rw[q2];exact I.hl,by rw[q2];exact I.kl⟩
theorem kN{y:Sy}(I:Iv y){b:Hl}(h:Hon y.af b)(hm:mea b<=mea y.af+40)(hk:b.ks.length=y.af.ks.length):Iv1 y (aG y b):=
 ⟨h.swf I.W,rfl,by have:=I.m;show mea b<=_;omega,by have:=I.w;show y.ah.length<=_;omega,I.l,h.hl,hk⟩
theorem kx(l:List (Nat×Nat))(k p:Nat):(putL l k p).map (·.1)=if (l.any fun e=>decide (e.1=k))then l.map (·.1)else l.map (·.1)++[k]:=by
 unfold putL
 split
 · rw[qb_]
   apply List.map_congr_left
   intro e _
   show (if e.1=k then (e.1,p)else e).1=e.1
   split <;> rfl
 · simp
theorem Eb{l:List (Nat×Nat)}{k p:Nat}(h:(l.map (·.1)).Nodup):((putL l k p).map (·.1)).Nodup:=by
 rw[kx]
 split
 · exact h
 · rename_i q
   rw[List.nodup_append]
   refine⟨h,by simp,fun a ha b hb w=>q ?_⟩
   simp at hb
   obtain⟨e,he,e1⟩:=qH_.mp ha
   rw[List.any_eq_true]
   exact⟨e,he,qZ_ (by rw[e1,w,hb])⟩
theorem Ed{l:List (Nat×Nat)}{k p i:Nat}(h:i=k\/i∈l.map (·.1)):i∈(putL l k p).map (·.1):=by
 rw[kx]
 split
 · rename_i q
   rcases h with rfl |h
   · rw[List.any_eq_true]at q
     obtain⟨e,he,e1⟩:=q
     exact qH_.mpr ⟨e,he,of_decide_eq_true e1⟩
   · exact h
 · rcases h with rfl |h
   · simp
   · exact qF_ _ h
theorem B5{y:Sy}(I:Iv y){j:Nat}{h:Hd}(hj:y.af.hs[j]? =some h)(rd:Bool)(v:Option Int):Iv1 y (pI (aG y (fR y.af j h v)) j rd v):=by
 have hlt:=(qB_.mp hj).1
 have W:=I.W
 have wf:=BE W.W hj v
 have hl:(fR y.af j h v).hs.length=y.af.hs.length:=by show (y.af.hs.set j _).length=_;simp
 have la:∀e∈putL y.last j y.ah.length,e.1 < y.af.hs.length/\e.2 < y.ah.length+1:=by
  intro e he
  rcases vT he with z |z
  · rw[z];exact⟨hlt,by dsimp only;omega⟩
  · have:=W.la e z;exact⟨this.1,by omega⟩
 have nd:=Eb (k:=j) (p:=y.ah.length) W.nd
 refine⟨⟨wf,fun e he=>?_,nd,fun i g hg ha=>?_⟩,rfl,?_,?_,?_,hl,rfl⟩
 · have:=la e he
   refine⟨by show e.1 < (fR y.af j h v).hs.length;rw[hl];exact this.1,?_⟩
   show e.2 < (y.ah++[_]).length
   simpa using this.2
 · refine Ed ?_
   by_cases z:i=j
   · exact .inl z
   · have hg:(y.af.hs.set j (bj h v))[i]? =some g:=hg
     rw[qV_ (Ne.symm z)]at hg
     exact .inr (W.atw i g hg ha)
 · have:=zR W.W hj v
   have:=I.m
   show mea (fR y.af j h v)<=_
   omega
 · have:=I.w
   show (y.ah++[_]).length<=_
   simp
   omega
 · have:=Dj (y:={y with last:=putL y.last j y.ah.length}) nd (fun e he=>(la e he).1) W.W.hsz
   exact this
theorem yp(a:Hl)(p:Nat)(s:Bool):(aL a p s).1.ks.length=a.ks.length:=by
 unfold aL
 split
 · rfl
 · split <;> rfl
 · split
   · rfl
   · simp
theorem DJ{sel:Hl->Option Nat}(hs:Sel sel):∀(n:Nat) (a:Hl),WF a->mea a<=n->(bY sel a).1.ks.length=a.ks.length:=by
 intro n
 induction n with
 |zero=>
  intro a W hm
  cases q:sel a with
  |none=>rw[cu q]
  |some p=>
   have:=bM W (hs a p q)
   omega
 |succ n ih=>
  intro a W hm
  cases q:sel a with
  |none=>rw[cu q]
  |some p=>
   rw[iD hs W q]
   have h1:=bM W (hs a p q)
   exact(ih (aL a p false).1 (gR W p false) (by omega)).trans (yp a p false)
theorem yd{y:Sy}(I:Iv y)(d:bU){z:Sy}{a:An}(h:doneF y d= .ok z a):Iv1 y z:=by
 have W:=I.W
 have bg:∀{i rd v},cE y i rd v= .ok z a->Iv1 y z:=by
  intro i rd v h
  unfold cE at h
  split at h
  · cases h
  · split at h
    · cases h
    · rename_i j _ _ g hg
      split at h
      · cases h
      · cases h
        exact B5 I hg rd v
 have rn:∀{sel:Hl->Option Nat},Sel sel->Iv1 y (endsF y (bY sel y.af)):=by
  intro sel hs
  obtain⟨i1,i2,i3⟩:=jN hs (mea y.af) y.af W.W (qO_ _)
  exact sG (kN I i1 (by omega) (DJ hs _ _ W.W (qO_ _))) _
 cases d with
 |wr i v=>exact bg h
 |rd i=>exact bg h
 |ca n s=>
  unfold doneF at h
  dsimp only at h
  split at h
  · cases h
  · rename_i hne
    cases h
    refine sG (kN I (qe W.W _ _) ?_ (yp _ _ _)) _
    have hp:CF y n < y.af.row.length:=by
     unfold CF
     have:0 < y.af.row.length:=List.length_pos_iff.mpr hne
     have h1:=Int.emod_nonneg n (b:=(y.af.row.length:Int)) (by omega)
     have h2:=Int.emod_lt_of_pos n (b:=(y.af.row.length:Int)) (by omega)
     omega
    have:=wc W.W (s:=s) (qA_ hp)
    split at this <;> omega
 |pa i j=>
  unfold doneF at h
  dsimp only at h
  split at h
  · cases h
  · split at h
    · cases h
    · cases h
      exact rn (cI _ _)
 |sw=>
  unfold doneF at h
  dsimp only at h
  cases h
  exact rn bZ
 |ag i=>
  unfold doneF gK at h
  dsimp only at h
  split at h
  · cases h
  · split at h
    · cases h
    · rename_i j _ _ g hg
      split at h
      · cases h
        exact kN I ⟨BG W.W hg,rfl,fun i g h1 h2=>⟨g,h1,h2⟩⟩ (by have:=zC W.W hg;omega) rfl
      · cases h
 |qu i=>
  unfold doneF gK at h
  dsimp only at h
  split at h
  · cases h
  · split at h
    · cases h
    · rename_i j _ _ g hg
      split at h
      · cases h
        have hlt:=(qB_.mp hg).1
        have ok:=W.W.hok hg
        refine kN I ⟨yF W.W hg (h':={g with atw:=false}) ok (Int.le_refl _) (fun _=>rfl),by show (y.af.hs.set j _).length=_;simp,fun i g' h1 h2=>?_⟩ (by have:=Ay hg;omega) rfl
        have h1:(y.af.hs.set j {g with atw:=false})[i]? =some g':=h1
        by_cases q:i=j
        · subst q
          rw[qU_ hlt]at h1
          cases h1
          cases h2
        · rw[qV_ (Ne.symm q)]at h1
          exact⟨g',h1,h2⟩
      · cases h
 |st i=>
  unfold doneF qx at h
  dsimp only at h
  split at h
  · cases h
  · split at h
    · cases h
    · cases h
      exact kN I ⟨yn W.W _ _,rfl,fun i g h1 h2=>⟨g,h1,h2⟩⟩ (by show mea y.af<=_;omega) (by show (y.af.ks.set _ _).length=_;simp)
 |wa i=>
  unfold doneF qx at h
  dsimp only at h
  split at h
  · cases h
  · split at h
    · cases h
    · cases h
      exact kN I ⟨yn W.W _ _,rfl,fun i g h1 h2=>⟨g,h1,h2⟩⟩ (by show mea y.af<=_;omega) (by show (y.af.ks.set _ _).length=_;simp)
def Sd.all(S:Sd):List Nat:=S.own++S.A.foot
structure Sd.To (S S':Sd) (n:Nat):Prop where
 s:S'.s=S.s
 z:∀x∈S'.all,x∈S.all\/n<=x
theorem Sd.To.refl(S:Sd)(n:Nat):S.To S n:=⟨rfl,fun _ h=>.inl h⟩
theorem Sd.To.af(S:Sd){A':Ad}{n:Nat}(t:S.A.To A' n):S.To {S with A:=A'} n:=by
 refine⟨rfl,fun x hx=>?_⟩
 rcases qG_.mp hx with w |w
 · exact .inl (qF_ _ w)
 · exact(t.foot x w).elim (fun q=>.inl (qE_ _ q)) .inr
def lS(S:Sd)(n:Nat)(G:Hh)(a:An)(v:D):Prop:=match a with
 | .one d=>v=d
 | .lst ds=>∃l,v= .ref l/\n<=l/\l∉S.all/\G[l]? =some (.lst ds)
section
variable{G G':Hh}{Q:D->Hh->Prop}{E:Nat->Hh->Prop}{S:Sd}{y:Sy}{σ:St}{QS:Fl×St->Hh->Prop}
theorem b9.ltA(Y:b9 G S y):∀n∈S.all,n < G.length:=fun n hn=>(qG_.mp hn).elim (Y.lt n) (Y.H.lt n)
theorem aY{u w:Str}{A B:S3}(hv:σ[2]? =some (some (.str u)))(hn:decide (u=w)=false)(h:M3.run (B σ) G QS E):M3.run (aq (sIf (tB (eOp oEq (ae 2) (eC (.str w)))) A aW) B σ) G QS E:=by
 refine aB (cK (gB (aJ (w_var hv (w_c (w_eq (b:=false) ?_ (eP ?_)))))))
 · show some (decide (u=w))=some false
   rw[hn]
 · rw[if_neg qC_]
   exact jx (w_next h)
theorem km{u w:Str}{A B:S3}(hv:σ[2]? =some (some (.str u)))(hn:decide (u=w)=true)(h:M3.run (A σ) G (fun r G1=>M3.run (sK B r) G1 QS E) E):M3.run (aq (sIf (tB (eOp oEq (ae 2) (eC (.str w)))) A aW) B σ) G QS E:=by
 refine aB (cK (gB (aJ (w_var hv (w_c (w_eq (b:=true) ?_ (eP ?_)))))))
 · show some (decide (u=w))=some true
   rw[hn]
 · rw[if_pos rfl]
   exact h
theorem HX{n:Nat}{xs:List D}{QB:Bool->Hh->Prop}(hn:G[n]? =some (.lst xs))(h:QB (!xs.isEmpty) G):M3.run (truth (.ref n)) G QB E:=by
 refine aD (a:=!xs.isEmpty) (G':=G) ?_ h
 unfold truth
 dsimp only
 rw[hn]
theorem oR{i:Int}{j:Nat}{h:Hd}(e:i=(j:Int))(hj:y.af.hs[j]? =some h):inB i y.af.hs.length=some j:=j7 e (qB_.mp hj).1
theorem ES{i:Int}{j:Nat}{k:Kr}(e:i=(j:Int))(hj:y.af.ks[j]? =some k):inB i y.af.ks.length=some j:=j7 e (qB_.mp hj).1
theorem Ah(Y:b9 G S y):G[S.A.a]? =some (.ins 2 [(9,.ref S.A.lk),(10,.ref S.A.lh),(11,.ref S.A.lr)]):=Y.H.o
theorem wg{r:Hl×List (Nat×Pr)}{A':Ad}{G1:Hh}{le:Nat}(I:Iv y)(Y:b9 G S y)(c:Chg S.A.foot G G1)(to:S.A.To A' G.length)(hl:G.length<=le)(H:bu G1 A' r.1)(h:G1[le]? =some (.lst (r.2.map qU)))
 (hon:Hon y.af r.1) (hat:∀e∈r.2,∃h,y.af.hs[e.1]? =some h/\h.atw=true) (hz:r.2.length<=1000000)
 (hq:∀l2 S' G',S'.s=S.s->Chg S.all G G'->S.To S' G.length->b9 G' S' (endsF y r)->G.length<=l2->l2∉S'.all->G'[l2]? =some (.lst (oE y r))->Q (.ref l2) G'):M3.run (bz [.ref S.s,.ref le]) G1 Q E:=by
 have Y1:=Y.af c to H
 have W1:SWF (aG y r.1):=hon.swf I.W
 refine uV (S:={S with A:=A'}) (y:=aG y r.1) Y1 W1 h (fun z=>?_) hz (fun e he=>?_) fun l2 G2 c2 hl2 Y2 h2=>?_
 · have:=Y.lt le z;omega
 · obtain⟨g,h1,h2⟩:=hat e he
   exact I.W.atw _ g h1 h2
 · have c1:=c.1
   refine hq l2 {S with A:=A'} G2 rfl ((c.mono fun n hn=>qE_ _ hn).trans (c2.mono fun n hn=>qF_ _ hn)) (Sd.To.af S to) Y2 (by omega) (fun z=>?_) h2
   have:=Y1.ltA l2 z
   omega
theorem Fv{d:bU}(I:Iv y)(hd:y.aQ<=1000)(Y:b9 G S y)
 (hE:∀c G',doneF y d= .no c->Chg [] G G'->E c G')
 (hq:∀v S' G' z a,doneF y d= .ok z a->Chg S.all G G'->S.To S' G.length->b9 G' S' z->lS S' G.length G' a v->Q v G'):M3.run (gd [.ref S.s,bC d]) G Q E:=by
 have W:=I.W
 have hm:mea y.af<=800000:=by have:=I.m;omega
 have ho:=Y.o
 have hH:=Ah Y
 have r0:=Chg.refl [] G
 walk_at "f"
 unfold jf
 cases d with
 |wr i v=>
  unfold bC
  refine aB (bq (aJ (w_var rfl (w_c (bb rfl (w_next ?_))))))
  walk_at "s"
  refine km rfl (by decide) ?_
  refine aB (dO (bh (w_fld (w_var rfl (bc ho (by decide) rfl (bR hH (ak (aJ (w_var rfl (w_c (bb rfl (ak (aJ (w_var rfl (w_c (bb rfl (az ?_)))))))))))))))))
  refine C8 Y.H W.W hm (fun z=>hE _ _ ?_ r0) (fun j h e hj ha=>hE _ _ ?_ r0) fun j h e hj ha A' G1 c1 to H1=>?_
  · show cE y i false (some v)=_
    unfold cE
    rw[fI z]
  · show cE y i false (some v)=_
    unfold cE
    rw[oR e hj]
    dsimp only
    rw[hj]
    dsimp only
    rw[if_pos ha]
  · have eR:doneF y (.wr i v)= .ok (pI (aG y (fR y.af j h (some v))) j false (some v)) (.one (.int (y.ah.length:Int))):=by
     show cE y i false (some v)=_
     unfold cE
     rw[oR e hj]
     dsimp only
     rw[hj]
     dsimp only
     rw[if_neg (by rw[ha];exact qC_)]
    have Y1:=Y.af c1 to H1
    have ho1:=Y1.o
    subst e
    walk_at "r"
    refine oQ (S:={S with A:=A'}) (rd:=false) (v:=some v) Y1 (by have:=I.w;show y.ah.length<=1000;omega) (by have:=I.l;show y.last.length<=1000;omega) fun a G2 c2 hl Y2=>?_
    have g1:=c1.1
    have Y1l:=Y1.ltA
    walk_at "r"
    refine hq _ {S with A:=A',wa:=S.wa++[a]} G2 _ _ eR ((c1.mono fun n hn=>qE_ _ hn).trans' c2 fun n hn=>(Sd.To.af S to).z n hn) ⟨rfl,fun x hx=>?_⟩ Y2 rfl
    have hx:x∈([S.s,S.lw,S.ld]++(S.wa++[a]))++A'.foot:=hx
    rcases qG_.mp hx with w |w
    · rw[<-List.append_assoc]at w
      rcases qG_.mp w with w |w
      · exact .inl (qF_ _ w)
      · simp at w;exact .inr (by omega)
    · exact(to.foot x w).elim (fun q=>.inl (qE_ _ q)) .inr
 |rd i=>
  unfold bC
  refine aB (bq (aJ (w_var rfl (w_c (bb rfl (w_next ?_))))))
  walk_at "s"
  refine aY rfl (by decide) ?_
  refine km rfl (by decide) ?_
  refine aB (dO (bh (w_fld (w_var rfl (bc ho (by decide) rfl (bR hH (ak (aJ (w_var rfl (w_c (bb rfl (az ?_))))))))))))
  refine FU Y.H W.W hm (fun z=>hE _ _ ?_ r0) (fun j h e hj ha=>hE _ _ ?_ r0) fun j h e hj ha A' G1 c1 to H1=>?_
  · show cE y i true none=_
    unfold cE
    rw[fI z]
  · show cE y i true none=_
    unfold cE
    rw[oR e hj]
    dsimp only
    rw[hj]
    dsimp only
    rw[if_pos ha]
  · have eR:doneF y (.rd i)= .ok (pI (aG y (fR y.af j h none)) j true none) (.one (.int (y.ah.length:Int))):=by
     show cE y i true none=_
     unfold cE
     rw[oR e hj]
     dsimp only
     rw[hj]
     dsimp only
     rw[if_neg (by rw[ha];exact qC_)]
    have Y1:=Y.af c1 to H1
    have ho1:=Y1.o
    subst e
    walk_at "r"
    refine oQ (S:={S with A:=A'}) (rd:=true) (v:=none) Y1 (by have:=I.w;show y.ah.length<=1000;omega) (by have:=I.l;show y.last.length<=1000;omega) fun a G2 c2 hl Y2=>?_
    have g1:=c1.1
    have Y1l:=Y1.ltA
    walk_at "r"
    refine hq _ {S with A:=A',wa:=S.wa++[a]} G2 _ _ eR ((c1.mono fun n hn=>qE_ _ hn).trans' c2 fun n hn=>(Sd.To.af S to).z n hn) ⟨rfl,fun x hx=>?_⟩ Y2 rfl
    have hx:x∈([S.s,S.lw,S.ld]++(S.wa++[a]))++A'.foot:=hx
    rcases qG_.mp hx with w |w
    · rw[<-List.append_assoc]at w
      rcases qG_.mp w with w |w
      · exact .inl (qF_ _ w)
      · simp at w;exact .inr (by omega)
    · exact(to.foot x w).elim (fun q=>.inl (qE_ _ q)) .inr
 |ca n s=>
  unfold bC
  refine aB (bq (aJ (w_var rfl (w_c (bb rfl (w_next ?_))))))
  walk_at "s"
  refine aY rfl (by decide) ?_
  refine aY rfl (by decide) ?_
  refine km rfl (by decide) ?_
  refine aB (bq (bh (w_var rfl (bR ho (ak (bh (w_fld (w_var rfl (bc ho (by decide) rfl (bR hH (ak (aJ (w_var rfl (w_c (bb rfl (ak (aJ (w_var rfl (w_c (bb rfl (az ?_)))))))))))))))))))))
  refine CK Y.H W.W hm (fun z=>hE _ _ (if_pos z) r0) fun p hp hlt le A' G1 c1 to hl H1 h1=>az ?_
  have eR:doneF y (.ca n s)= .ok (endsF y (aL y.af p s)) (.one (z8 (oE y (aL y.af p s)))):=by
   subst hp
   exact if_neg (by intro z;rw[z]at hlt;simp at hlt)
  have hln:=kK y.af p s
  refine wg I Y c1 to hl H1 h1 (qe W.W p s) (sW p s) (by omega) fun l2 S' G2 hs c2 to2 Y2 hl2 hn2 h2=>?_
  walk_at "r"
  refine HX h2 ?_
  cases q:oE y (aL y.af p s)with
  |nil=>
   dsimp only[List.isEmpty]
   walk_at "r"
   exact hq _ S' G2 _ _ eR c2 to2 Y2 (by rw[q];rfl)
  |cons x r=>
   rw[q]at h2
   dsimp only[List.isEmpty]
   walk_at "r"
   refine cP h2 (show atI (x :: r) 0=some x from ?_) ?_
   · unfold atI M3.ixN
     simp
   walk_at "r"
   exact hq _ S' G2 _ _ eR c2 to2 Y2 (by rw[q];rfl)
 |pa i j=>
  unfold bC
  refine aB (bq (aJ (w_var rfl (w_c (bb rfl (w_next ?_))))))
  walk_at "s"
  refine aY rfl (by decide) ?_
  refine aY rfl (by decide) ?_
  refine aY rfl (by decide) ?_
  refine km rfl (by decide) ?_
  refine bE (bh (w_var rfl (bR ho (ak (bh (w_fld (w_var rfl (bc ho (by decide) rfl (bR hH (ak (aJ (w_var rfl (w_c (bb rfl (ak (aJ (w_var rfl (w_c (bb rfl (az ?_))))))))))))))))))))
  refine oU Y.H W.W hm (fun z=>hE _ _ ?_ r0) (fun z1 z2=>hE _ _ ?_ r0) fun p k e1 e2 h1 h2 le A' G1 c1 to hl hn H1 g1=>az ?_
  · unfold doneF
    dsimp only
    rw[fI z]
  · unfold doneF
    dsimp only
    have:inB i y.af.hs.length=some i.toNat:=by unfold inB;rw[if_neg z1]
    rw[this]
    dsimp only
    rw[fI z2]
  have eR:doneF y (.pa i j)= .ok (endsF y (bY (cp p k) y.af)) (.lst (oE y (bY (cp p k) y.af))):=by
   unfold doneF
   dsimp only
   rw[j7 e1 h1]
   dsimp only
   rw[j7 e2 h2]
  have hln:=m6 (cI p k) (mea y.af) y.af W.W (qO_ _)
  obtain⟨i1,i2,i3⟩:=jN (cI p k) (mea y.af) y.af W.W (qO_ _)
  refine wg I Y c1 to hl H1 g1 i1 i3 (by omega) fun l2 S' G2 hs c2 to2 Y2 hl2 hn2 h2=>?_
  walk_at "r"
  exact hq _ S' G2 _ _ eR c2 to2 Y2 ⟨l2,rfl,hl2,hn2,h2⟩
 |sw=>
  unfold bC
  refine aB (bq (aJ (w_var rfl (w_c (bb rfl (w_next ?_))))))
  walk_at "s"
  refine aY rfl (by decide) ?_
  refine aY rfl (by decide) ?_
  refine aY rfl (by decide) ?_
  refine aY rfl (by decide) ?_
  refine km rfl (by decide) ?_
  refine bE (bh (w_var rfl (bR ho (ak (bh (w_fld (w_var rfl (bc ho (by decide) rfl (bR hH (az ?_))))))))))
  refine Dz Y.H W.W hm fun le A' G1 c1 to hl hn H1 g1=>az ?_
  have hln:=m6 bZ (mea y.af) y.af W.W (qO_ _)
  obtain⟨i1,i2,i3⟩:=jN bZ (mea y.af) y.af W.W (qO_ _)
  refine wg I Y c1 to hl H1 g1 i1 i3 (by omega) fun l2 S' G2 hs c2 to2 Y2 hl2 hn2 h2=>?_
  walk_at "r"
  exact hq _ S' G2 _ _ rfl c2 to2 Y2 ⟨l2,rfl,hl2,hn2,h2⟩
 |ag i=>
  unfold bC
  refine aB (bq (aJ (w_var rfl (w_c (bb rfl (w_next ?_))))))
  walk_at "s"
  refine aY rfl (by decide) ?_
  refine aY rfl (by decide) ?_
  refine aY rfl (by decide) ?_
  refine aY rfl (by decide) ?_
  refine aY rfl (by decide) ?_
  refine km rfl (by decide) ?_
  refine bE (bh (w_fld (w_var rfl (bc ho (by decide) rfl (bR hH (ak (aJ (w_var rfl (w_c (bb rfl (az ?_)))))))))))
  refine Du Y.H W.W hm (fun z=>hE _ _ ?_ r0) (fun j h e hj ha G1 c1=>hE _ _ ?_ c1) fun j h e hj ha G1 c1 H1=>?_
  · unfold doneF gK
    dsimp only
    rw[fI z]
  · unfold doneF gK
    dsimp only
    rw[oR e hj]
    dsimp only
    rw[hj]
    dsimp only
    rw[if_neg (by rw[ha];exact qC_)]
  · have eR:doneF y (.ag i)= .ok (aG y {y.af with row:=newRow y.af h}) (.one (.int ((bo h).length:Int))):=by
     unfold doneF gK
     dsimp only
     rw[oR e hj]
     dsimp only
     rw[hj]
     dsimp only
     rw[if_pos ha]
    have to:=Ad.To.refl S.A G.length
    walk_at "r"
    exact hq _ S G1 _ _ eR (c1.mono fun n hn=>qE_ _ hn) (Sd.To.refl _ _) (Y.af c1 to H1) rfl
 |qu i=>
  unfold bC
  refine aB (bq (aJ (w_var rfl (w_c (bb rfl (w_next ?_))))))
  walk_at "s"
  refine aY rfl (by decide) ?_
  refine aY rfl (by decide) ?_
  refine aY rfl (by decide) ?_
  refine aY rfl (by decide) ?_
  refine aY rfl (by decide) ?_
  refine aY rfl (by decide) ?_
  refine km rfl (by decide) ?_
  refine aB (dO (bh (w_fld (w_var rfl (bc ho (by decide) rfl (bR hH (ak (aJ (w_var rfl (w_c (bb rfl (az ?_))))))))))))
  refine Dy Y.H (fun z=>hE _ _ ?_ r0) (fun j h e hj ha=>hE _ _ ?_ r0) fun j h e hj ha G1 c1 H1=>?_
  · unfold doneF gK
    dsimp only
    rw[fI z]
  · unfold doneF gK
    dsimp only
    rw[oR e hj]
    dsimp only
    rw[hj]
    dsimp only
    rw[if_neg (by rw[ha];exact qC_)]
  · have eR:doneF y (.qu i)= .ok (aG y {y.af with hs:=y.af.hs.set j {h with atw:=false}}) (.one (.int (lastOf y.last j:Int))):=by
     unfold doneF gK
     dsimp only
     rw[oR e hj]
     dsimp only
     rw[hj]
     dsimp only
     rw[if_pos ha]
    have Y1:=Y.af c1 (Ad.To.refl S.A G.length) H1
    have ho1:=Y1.o
    have hl:=rP W.nd (iZ (W.atw j h hj ha))
    subst e
    refine w_next (bE (aJ (w_fld (w_var rfl (bc ho1 (by decide) rfl (aJ (w_var rfl (w_c (bb rfl (Fc Y1.d rfl hl ?_))))))))))
    walk_at "r"
    exact hq _ S G1 _ _ eR (c1.mono fun n hn=>qE_ _ hn) (Sd.To.refl _ _) Y1 rfl
 |st i=>
  unfold bC
  refine aB (bq (aJ (w_var rfl (w_c (bb rfl (w_next ?_))))))
  walk_at "s"
  refine aY rfl (by decide) ?_
  refine aY rfl (by decide) ?_
  refine aY rfl (by decide) ?_
  refine aY rfl (by decide) ?_
  refine aY rfl (by decide) ?_
  refine aY rfl (by decide) ?_
  refine aY rfl (by decide) ?_
  refine km rfl (by decide) ?_
  refine bE (bh (w_fld (w_var rfl (bc ho (by decide) rfl (bR hH (ak (aJ (w_var rfl (w_c (bb rfl (az ?_)))))))))))
  refine q9 Y.H (fun z=>hE _ _ ?_ r0) fun j k e hj G1 c1 H1=>?_
  · unfold doneF qx
    dsimp only
    rw[fI z]
  · have eR:doneF y (.st i)= .ok (aG y {y.af with ks:=y.af.ks.set j {k with up:=false}}) (.one (.bl k.up)):=by
     unfold doneF qx
     dsimp only
     rw[ES e hj]
     dsimp only
     rw[hj]
    walk_at "r"
    exact hq _ S G1 _ _ eR (c1.mono fun n hn=>qE_ _ hn) (Sd.To.refl _ _) (Y.af c1 (Ad.To.refl S.A G.length) H1) rfl
 |wa i=>
  unfold bC
  refine aB (bq (aJ (w_var rfl (w_c (bb rfl (w_next ?_))))))
  walk_at "s"
  refine aY rfl (by decide) ?_
  refine aY rfl (by decide) ?_
  refine aY rfl (by decide) ?_
  refine aY rfl (by decide) ?_
  refine aY rfl (by decide) ?_
  refine aY rfl (by decide) ?_
  refine aY rfl (by decide) ?_
  refine aY rfl (by decide) ?_
  refine bE (bh (w_fld (w_var rfl (bc ho (by decide) rfl (bR hH (ak (aJ (w_var rfl (w_c (bb rfl (az ?_)))))))))))
  refine rg Y.H (fun z=>hE _ _ ?_ r0) fun j k e hj G1 c1 H1=>?_
  · unfold doneF qx
    dsimp only
    rw[fI z]
  · have eR:doneF y (.wa i)= .ok (aG y {y.af with ks:=y.af.ks.set j {k with up:=true}}) (.one (.bl (!k.up))):=by
     unfold doneF qx
     dsimp only
     rw[ES e hj]
     dsimp only
     rw[hj]
    walk_at "r"
    exact hq _ S G1 _ _ eR (c1.mono fun n hn=>qE_ _ hn) (Sd.To.refl _ _) (Y.af c1 (Ad.To.refl S.A G.length) H1) rfl
end
def wordOf(c:Nat):Str:=if c=1001 then "no hand" else if c=1002 then "no keeper" else if c=1003 then "no letter" else if c=1004 then "busy" else "idle"
def iR(y:Sy)(d:bU):Sy×An:=match doneF y d with
 | .no c=>(y,.one (.str (wordOf c)))
 | .ok z a=>(z,a)
def cH(y:Sy):Sy:={y with aQ:=y.aQ+1}
def aS(y:Sy)(d:bU):Sy×An:=(cH (aK (iR y d).1),(iR y d).2)
def cT(y:Sy)(ds:List bU):Sy:=ds.foldl (fun y d=>(aS y d).1) y
def gS:Sy->List bU->List An
 |_,[]=>[]
 |y,d :: r=>(aS y d).2 :: gS (aS y d).1 r
theorem sy(y:Sy)(a b:List bU):gS y (a++b)=gS y a++gS (cT y a) b:=by
 induction a generalizing y with
 |nil=>rfl
 |cons d r ih=>
  show _ :: gS _ (r++b)=_
  rw[ih]
  rfl
theorem sD(y:Sy)(a:List bU):(gS y a).length=a.length:=by
 induction a generalizing y with
 |nil=>rfl
 |cons d r ih=>simp [gS,ih]
theorem mM(y:Sy)(a b:List bU):cT y (a++b)=cT (cT y a) b:=List.foldl_append
theorem Ef{y:Sy}{d:bU}{c:Nat}(h:doneF y d= .no c):c=1001\/c=1002\/c=1003\/c=1004\/c=1005:=by
 cases d <;> (unfold doneF at h;(try unfold cE at h);(try unfold gK at h);(try unfold qx at h);dsimp only at h;repeat' split at h) <;> cases h <;> simp
theorem kJ{y z:Sy}(I:Iv1 y z):Iv1 y (aK z):=by
 obtain⟨q1,q2,q3,q4⟩:=cA z.last z
 unfold aK
 exact⟨⟨by rw[q2];exact I.W.W,by rw[q1,q2,q4];exact I.W.la,by rw[q1];exact I.W.nd,by rw[q1,q2];exact I.W.atw⟩,q3.trans I.d,by rw[q2];exact I.m,by rw[q4];exact I.w,by rw[q1];exact I.l,by rw[q2];exact I.hl,by rw[q2];exact I.kl⟩
theorem mE{y:Sy}(I:Iv y)(d:bU):Iv1 y (iR y d).1:=by
 unfold iR
 split
 · exact I.same
 · rename_i z a h
   exact yd I d h
theorem Bz{y z:Sy}(I:Iv1 y z):Iv (cH z):=by
 have h1:=I.d
 have h2:=I.m
 have h3:=I.w
 refine⟨⟨I.W.W,I.W.la,I.W.nd,I.W.atw⟩,?_,?_,I.l⟩
 · show mea z.af<=40*(z.aQ+1);omega
 · show z.ah.length<=z.aQ+1;omega
theorem sL{y:Sy}(I:Iv y)(d:bU):Iv (aS y d).1:=Bz (kJ (mE I d))
theorem wX{y:Sy}(I:Iv y)(d:bU):(aS y d).1.aQ=y.aQ+1:=by
 show (aK (iR y d).1).aQ+1=_
 rw[(kJ (mE I d)).d]
theorem AR{y:Sy}(I:Iv y)(d:bU):(aS y d).1.af.hs.length=y.af.hs.length/\(aS y d).1.af.ks.length=y.af.ks.length:=⟨(kJ (mE I d)).hl,(kJ (mE I d)).kl⟩
theorem kI{y:Sy}(I:Iv y)(ds:List bU):Iv (cT y ds)/\(cT y ds).aQ=y.aQ+ds.length/\(cT y ds).af.hs.length=y.af.hs.length/\(cT y ds).af.ks.length=y.af.ks.length:=by
 induction ds generalizing y with
 |nil=>exact⟨I,rfl,rfl,rfl⟩
 |cons d r ih=>
  obtain⟨a,b,c,e⟩:=ih (sL I d)
  obtain⟨p,q⟩:=AR I d
  refine⟨a,b.trans ?_,c.trans p,e.trans q⟩
  rw[wX I d,List.length_cons]
  omega
section
variable{G G':Hh}{Q:D->Hh->Prop}{E:Nat->Hh->Prop}{S:Sd}{y:Sy}{σ:St}{QS:Fl×St->Hh->Prop}
theorem lS.chg{n:Nat}{a:An}{v:D}{T:List Nat}(h:lS S n G a v)(c:Chg T G G')(ht:∀x∈T,x∈S.all):lS S n G' a v:=by
 cases a with
 |one d=>exact h
 |lst ds=>
  obtain⟨l,e,h1,h2,h3⟩:=h
  exact⟨l,e,h1,h2,c.get h3 fun z=>h2 (ht l z)⟩
theorem lS.on{S':Sd}{n:Nat}{a:An}{v:D}(h:lS S n G a v)(c:Chg S.all G G')(t:S.To S' G.length):lS S' n G' a v:=by
 cases a with
 |one d=>exact h
 |lst ds=>
  obtain⟨l,e,h1,h2,h3⟩:=h
  have:=av h3
  exact⟨l,e,h1,fun z=>(t.z l z).elim h2 fun w=>by omega,c.get h3 h2⟩
theorem b9.count(Y:b9 G S y)(c:Chg [S.s] G G')(h:G'[S.s]? =some (.ins 4 [(17,.ref S.A.a),(18,.ref S.lw),(19,.ref S.ld),(20,.int ((y.aQ+1:Nat):Int))])):b9 G' S (cH y):=by
 obtain⟨n1,n2,n3,n4,n5⟩:=iG Y.nd
 have ns:∀n,n≠S.s->n∉ [S.s]:=fun n h z=>h (by simpa using z)
 exact⟨h,c.get Y.w (ns _ (Ne.symm n1)),c.get Y.d (ns _ (Ne.symm n2)),Y.wl,fun i a w h1 h2=>c.get (Y.wk i a w h1 h2) (ns _ (n5 a (qD_ h1)).1),Y.H.frame c (by intro n hn;simp at hn;rw[hn];exact Y.dj _ (by simp [Sd.own])),Y.nd,Y.dj⟩
theorem mC{d:bU}(I:Iv y)(hd:y.aQ<=1000)(Y:b9 G S y)
 (hq:∀v S' G',Chg S.all G G'->S.To S' G.length->b9 G' S' (iR y d).1->lS S' G.length G' (iR y d).2 v->Q v G'):M3.run (bL [.ref S.s,bC d]) G Q E:=by
 have ho:=Y.o
 walk_at "f"
 unfold cz
 refine IB (bh (w_var rfl (bR ho (ak (w_var rfl (az ?_))))))
 refine Fv I hd Y (fun c G1 e c1=>?_) fun v S' G1 z a e c1 t Y1 h1=>?_
 · have e1:iR y d=(y,.one (.str (wordOf c))):=by unfold iR;rw[e]
   have Y1:b9 G1 S (iR y d).1:=by rw[e1];exact Y.frame c1 (by simp)
   have q:=hq (.str (wordOf c)) S G1 (c1.mono (by simp)) (Sd.To.refl _ _) Y1 (by rw[e1];rfl)
   rcases Ef e with rfl |rfl |rfl |rfl |rfl
   · exact⟨_,rfl,bE (w_c (kC q))⟩
   · exact⟨_,rfl,bE (w_c (kC q))⟩
   · exact⟨_,rfl,bE (w_c (kC q))⟩
   · exact⟨_,rfl,bE (w_c (kC q))⟩
   · exact⟨_,rfl,bE (w_c (kC q))⟩
 · have e1:iR y d=(z,a):=by unfold iR;rw[e]
   refine kC (hq v S' G1 c1 t (by rw[e1];exact Y1) (by rw[e1];exact h1))
theorem AU{d:bU}(I:Iv y)(hd:y.aQ<=1000)(Y:b9 G S y)
 (hq:∀v S' G',Chg S.all G G'->S.To S' G.length->b9 G' S' (aS y d).1->lS S' G.length G' (aS y d).2 v->Q v G'):M3.run (bT [.ref S.s,bC d]) G Q E:=by
 have ho:=Y.o
 walk_at "f"
 unfold gz
 refine aB (bq (bh (w_var rfl (bR ho (ak (w_var rfl (az ?_)))))))
 refine mC I hd Y fun v S1 G1 c1 t1 Y1 h1=>w_next ?_
 walk_at "s"
 have I1:=mE I d
 have ho1:=Y1.o
 rw[t1.s]at ho1
 refine aB (dO (bh (w_var rfl (bR ho1 (az ?_)))))
 rw[<-t1.s]
 refine qY Y1 I1.W fun G2 c2 Y2=>w_next ?_
 have ho2:=Y2.o
 have h2:=h1.chg c2 fun x hx=>qF_ _ hx
 refine aB (fy (aJ (w_fld (w_var rfl (bc ho2 (by decide) rfl (w_c (tj (w_var rfl ?_))))))))
 refine aI ho2 ⟨by decide,qP_ rfl⟩ fun G3 c3 l3 h3=>?_
 walk_at "r"
 have sm:S1.s∈S1.all:=qF_ _ (by simp [Sd.own])
 refine hq v S1 G3 ?_ t1 (Y2.count c3 ?_) (h2.chg c3 (by intro x hx;simp at hx;rw[hx];exact sm))
 · refine(c1.trans' c2 fun n hn=>t1.z n (qF_ _ hn)).trans' c3 fun n hn=>?_
   simp at hn
   rw[hn]
   exact t1.z _ sm
 · exact h3
end
def k0:Kr:=⟨start,true⟩
def dq(count many:Nat):Hl:=⟨List.replicate count k0,(List.range many).map fun i=>kf i count,[]⟩
def ba(count many:Nat):Sy:=⟨dq count many,[],[],0⟩
theorem kM{c m:Nat}(hc:c<=9)(hm:m<=9):Iv (ba c m):=by
 have hg:∀(i:Nat) h,(dq c m).hs[i]? =some h->h=kf i c:=by
  intro i h hh
  unfold dq at hh
  dsimp only at hh
  rw[qQ_]at hh
  cases q:(List.range m)[i]? with
  |none=>rw[q]at hh;cases hh
  |some j=>
   rw[q]at hh
   obtain⟨h1,h2⟩:=qB_.mp q
   rw[List.getElem_range]at h2
   cases hh
   rw[h2]
 have hk:(dq c m).ks.length=c:=by unfold dq;simp
 have hl:(dq c m).hs.length=m:=by unfold dq;simp
 refine⟨⟨⟨fun i h hh=>?_,fun e he=>(by cases he),by rw[show (ba c m).af=dq c m from rfl,hk];exact hc,by rw[show (ba c m).af=dq c m from rfl,hl];exact hm⟩,fun e he=>(by cases he),List.nodup_nil,fun i h hh ha=>?_⟩,?_,qO_ _,qf_ _⟩
 · rw[hg i h hh]
   exact⟨rfl,hk.symm,by simp [kf],by simp [kf],by simp [kf]⟩
 · rw[hg i h hh]at ha
   cases ha
 · show mea (dq c m)<=0
   unfold mea dq
   dsimp only
   rw[qb_]
   have:∀l:List Nat,(l.map (pot ∘ fun i=>kf i c)).sum=0:=by
    intro l
    induction l with
    |nil=>rfl
    |cons x r ih=>rw[List.map_cons,List.sum_cons,ih];rfl
   rw[this]
   exact qO_ _
section
variable{G G':Hh}{Q:D->Hh->Prop}{E:Nat->Hh->Prop}{S:Sd}{y:Sy}{σ:St}{QS:Fl×St->Hh->Prop}
theorem iN{it:I3}{cap:List Nat}{cond:T3}{elt:E3}
 (h:M3.run (it σ) G (fun s G1=>M3.run (bX s.ck (fun x=>cond (some x :: dU σ cap)) (fun x=>elt (some x :: dU σ cap)) s.xs []) G1 (fun ys G2=>∀G3,Chg [] G2 G3->G3.length=G2.length+1->G3[G2.length]? =some (.lst ys)->Q (.ref G2.length) G3) E) E):M3.run (fT it cap cond elt σ) G Q E:=
 tU (ao h (fun s G1 q=>ao q (fun ys G2 q=>q _ (Chg.add _ _) (by simp) (aZ _ _)) fun _ _ z=>z) fun _ _ z=>z)
theorem rE{a:Nat}(ha:G[a]? =some (.ins 1 []))(hq:∀G',Chg [a] G G'->gw G' a k0->Q .non G'):M3.run (fF [.ref a]) G Q E:=by
 walk_at "f"
 unfold hX
 walk_at "r"
 refine aI ha ⟨by decide,qP_ rfl⟩ fun G1 c1 l1 h1=>?_
 walk_at "r"
 refine aI h1 ⟨by decide,qP_ rfl⟩ fun G2 c2 l2 h2=>?_
 walk_at "r"
 exact hq G2 (c1.trans c2) h2
theorem uw{i:Int}{j:Nat}{QI:Src->Hh->Prop}(e:i=(j:Int))(hj:j<=1000000)(h:QI ⟨rng 0 j,fun _=>true⟩ G):M3.run (DT (.int i)) G QI E:=by
 rw[e]
 with_reducible exact iF hj h
theorem uL{a c m:Nat}{ci mi:Int}(hci:ci=(c:Int))(hmi:mi=(m:Int))(ha:G[a]? =some (.ins 2 []))(hc:c<=9)(hm:m<=9)(hq:∀A G',A.a=a->Chg [a] G G'->(∀x∈A.foot,x=a\/G.length<=x)->bu G' A (dq c m)->Q .non G'):M3.run (fJ [.ref a,.int ci,.int mi]) G Q E:=by
 have hal:=av ha
 unfold fJ
 with_reducible refine M3.Dl rfl ?_
 simp only[List.map_cons,List.map_nil,List.cons_append,qc_]
 unfold jQ
 with_reducible refine aB ?_
 with_reducible refine fy ?_
 with_reducible refine iN ?_
 with_reducible refine kS ?_
 walk_at "w"
 with_reducible refine uw hci (by omega) ?_
 with_reducible refine jd (xs:=rng 0 c) (fun i acc G'=>∃ka:List Nat,acc=refs ka/\ka.length=i/\ka.Nodup/\(∀x∈ka,G.length<=x/\gw G' x k0)/\Chg [] G G') (fun _ _ _ _=>rfl) ?_ ?_ _ 0 [] G List.drop_zero (qf_ _) ⟨[],rfl,rfl,List.nodup_nil,by simp,Chg.refl _ _⟩
 · rintro i x acc G' hx ⟨ka,rfl,hl,hnd,hk,cc⟩
   obtain⟨_,hi⟩:=mU hx
   refine gQ ?_
   rw[if_pos rfl]
   refine kQ (az fun G1 c1 l1 h1=>?_)
   refine rE h1 fun G2 c2 h2=>⟨rfl,?_,ka++[G'.length],?_,?_,?_,?_,?_⟩
   · unfold refs;rw[qM_,hl];unfold aA;omega
   · unfold refs;rw[qT_];rfl
   · simp [hl]
   · rw[List.nodup_append]
     refine⟨hnd,by simp,fun x hx y hy w=>?_⟩
     simp at hy
     have:=av (hk x hx).2
     omega
   · intro x hx
     have g:=cc.1
     rcases qG_.mp hx with w |w
     · obtain⟨q1,q2⟩:=hk x w
       have:=av q2
       exact⟨q1,c2.get (c1.get q2 (by simp)) (by simp;omega)⟩
     · simp at w
       subst w
       exact⟨g,h2⟩
   · have g:=cc.1
     exact cc.trans (c1.trans' c2 (by intro n hn;simp at hn;rw[hn];exact .inr (qO_ _)))
 rintro acc G1 ⟨ka,rfl,hkl,hknd,hk,cc1⟩
 rw[pB]at hkl
 refine fun G2 c2 l2 h2=>w_var rfl ?_
 have cc2:=cc1.trans c2
 have ha2:=cc2.get ha (by simp)
 refine aI ha2 ⟨by decide,qP_ rfl⟩ fun G3 c3 l3 h3=>w_next ?_
 have g1:=cc1.1
 with_reducible refine aB ?_
 with_reducible refine fy ?_
 with_reducible refine iN ?_
 with_reducible refine kS ?_
 walk_at "w"
 with_reducible refine uw hmi (by omega) ?_
 with_reducible refine jd (xs:=rng 0 m) (fun i acc G'=>∃ha da:List Nat,acc=refs ha/\ha.length=i/\da.length=i/\(ha++da).Nodup/\(∀x∈ha++da,G3.length<=x/\x < G'.length)/\(∀(j:Nat) a d,ha[j]? =some a->da[j]? =some d->fg G' a d (kf j c))/\Chg [] G3 G') (fun _ _ _ _=>rfl) ?_ ?_ _ 0 [] G3 List.drop_zero (qf_ _) ⟨[],[],rfl,rfl,rfl,(by simp),(by simp),(by simp),Chg.refl _ _⟩
 · rintro i x acc G' hx ⟨ha,da,rfl,hl,hdl,hnd,hk,hh,cc⟩
   obtain⟨rfl,hi⟩:=mU hx
   rw[Int.zero_add]
   refine gQ ?_
   rw[if_pos rfl]
   refine kQ (ak (w_var rfl (ak (w_var rfl (az fun G4 c4 l4 h4=>?_)))))
   rw[hci]
   with_reducible refine ve h4 fun G5 d c5 hd h5=>⟨rfl,?_,ha++[G'.length],da++[d],?_,?_,?_,?_,?_,?_,?_⟩
   · unfold refs;rw[qM_,hl];unfold aA;omega
   · unfold refs;rw[qT_];rfl
   · simp [hl]
   · simp [hdl]
   · have hlt:∀x∈ha++da,x < G'.length:=fun x hx=>(hk x hx).2
     refine(List.Perm.nodup_iff (l₂:=(ha++da)++[G'.length,d]) ?_).mpr ?_
     · rw[List.append_assoc,List.append_assoc]
       exact List.Perm.append_left ha (show (G'.length :: (da++[d])).Perm (da++G'.length :: [d])from List.perm_middle.symm)
     · rw[List.nodup_append]
       refine⟨hnd,by simp;omega,fun x hx y hy w=>?_⟩
       have:=hlt x hx
       simp at hy
       rcases hy with q |q <;> omega
   · intro x hx
     have g:=cc.1
     have l5:=av h5.1
     have l6:=av h5.2
     have g5:=c5.1
     simp only[qG_,qS_,List.not_mem_nil,or_false]at hx
     rcases hx with (w |w) |(w |w)
     · have:=hk x (qF_ _ w);omega
     · omega
     · have:=hk x (qE_ _ w);omega
     · omega
   · intro j a' d' e1 e2
     by_cases z:j < i
     · rw[qK_ (by omega)]at e1
       rw[qK_ (by omega)]at e2
       have q:=hh j a' d' e1 e2
       have r1:=av q.1
       have r2:=av q.2
       exact(q.chg c4 (by simp) (by simp)).chg c5 (by simp;omega) (by simp;omega)
     · have z1:j=i:=by
        have:=(qB_.mp e1).1
        simp at this
        omega
       subst z1
       rw[qL_ (by omega)]at e1 e2
       simp [hl]at e1
       simp [hdl]at e2
       subst e1 e2
       exact h5
   · exact cc.trans (c4.trans' c5 (by intro n hn;simp at hn;rw[hn];exact .inr (qO_ _)))
 rintro acc G4 ⟨hA,dA,rfl,hhl,hdl,hnd,hk4,hh,cc4⟩
 rw[pB]at hhl hdl
 refine fun G5 c5 l5 h5=>w_var rfl ?_
 have ha5:=c5.get (cc4.get h3 (by simp)) (by simp)
 refine aI ha5 ⟨by decide,qP_ rfl⟩ fun G6 c6 l6 h6=>w_next ?_
 refine fy (dI fun G7 c7 l7 h7=>w_var rfl ?_)
 have ha7:=c7.get h6 (by simp)
 refine aI ha7 ⟨by decide,qP_ rfl⟩ fun G8 c8 l8 h8=>?_
 have g4:=cc4.1
 have na:∀x,x≠a->x∉ [a]:=fun x h z=>h (by simpa using z)
 have k8:G8[G1.length]? =some (.lst (refs ka)):=c8.get (c7.get (c6.get (c5.get (cc4.get (c3.get h2 (na _ (by omega))) (by simp)) (by simp)) (na _ (by omega))) (by simp)) (na _ (by omega))
 have r8:G8[G4.length]? =some (.lst (refs hA)):=c8.get (c7.get (c6.get h5 (na _ (by omega))) (by simp)) (na _ (by omega))
 have e8:G8[G6.length]? =some (.lst []):=c8.get h7 (na _ (by omega))
 refine sZ ?_
 refine hq ⟨a,G1.length,G4.length,G6.length,ka,hA,dA⟩ G8 rfl ?_ ?_ ⟨h8,k8,r8,e8,?_,?_,?_,?_,?_,?_⟩
 · exact((cc2.mono (by simp)).trans c3).trans ((((cc4.mono (by simp)).trans (c5.mono (by simp))).trans c6).trans ((c7.mono (by simp)).trans c8))
 · intro x hx
   unfold Ad.foot at hx
   simp only[qG_,qS_,List.not_mem_nil,or_false]at hx
   rcases hx with (w |w |w |w) |(w |w |w)
   · exact .inl w
   · exact .inr (by omega)
   · exact .inr (by omega)
   · exact .inr (by omega)
   · exact .inr (hk x w).1
   · have:=hk4 x (qF_ _ w);exact .inr (by omega)
   · have:=hk4 x (qE_ _ w);exact .inr (by omega)
 · unfold dq;simp [hkl]
 · unfold dq;simp [hhl]
 · unfold dq;simp [hdl]
 · intro i x k h1 h2
   have hk':=hk x (qD_ h1)
   have hlt:=av hk'.2
   have:k=k0:=by
    have:=qD_ h2
    unfold dq at this
    exact(List.mem_replicate.mp this).2
   subst this
   exact c8.get (c7.get (c6.get (c5.get (cc4.get (c3.get (c2.get hk'.2 (by simp)) (na _ (by omega))) (by simp)) (by simp)) (na _ (by omega))) (by simp)) (na _ (by omega))
 · intro i x d h h1 h2 h3'
   have q:=hh i x d h1 h2
   have e:h=kf i c:=by
    unfold dq at h3'
    dsimp only at h3'
    rw[qQ_]at h3'
    cases w:(List.range m)[i]? with
    |none=>rw[w]at h3';cases h3'
    |some j=>
     rw[w]at h3'
     obtain⟨_,w2⟩:=qB_.mp w
     rw[List.getElem_range]at w2
     cases h3'
     rw[w2]
   subst e
   have u1:=hk4 x (qF_ _ (qD_ h1))
   have u2:=hk4 d (qE_ _ (qD_ h2))
   exact(((q.chg c5 (by simp) (by simp)).chg c6 (na _ (by omega)) (na _ (by omega))).chg c7 (by simp) (by simp)).chg c8 (na _ (by omega)) (na _ (by omega))
 · unfold Ad.foot
   dsimp only
   rw[List.nodup_append]
   refine⟨by simp;omega,?_,fun x hx z hz w=>?_⟩
   · rw[List.nodup_append]
     refine⟨hknd,hnd,fun x hx z hz w=>?_⟩
     have u1:=av (hk x hx).2
     have u2:=hk4 z hz
     omega
   · subst w
     simp only[qS_,List.not_mem_nil,or_false]at hx
     rcases qG_.mp hz with q |q
     · have u1:=(hk x q).1
       have u2:=av (hk x q).2
       omega
     · have:=hk4 x q
       omega
theorem mF{a c m:Nat}{ci mi:Int}(hci:ci=(c:Int))(hmi:mi=(m:Int))(ha:G[a]? =some (.ins 4 []))(hc:c<=9)(hm:m<=9)
 (hq:∀S G',S.s=a->Chg [a] G G'->(∀x∈S.all,x=a\/G.length<=x)->b9 G' S (ba c m)->Q .non G'):M3.run (df [.ref a,.int ci,.int mi]) G Q E:=by
 have hal:=av ha
 have na:∀x,x≠a->x∉ [a]:=fun x h z=>h (by simpa using z)
 walk_at "f"
 unfold jl
 refine aB (fy (kQ (ak (w_var rfl (ak (w_var rfl (az fun G1 c1 l1 h1=>?_)))))))
 refine uL hci hmi h1 hc hm fun A G2 hA c2 hf H2=>⟨rfl,w_var rfl ?_⟩
 have ns2:∀x,x < G.length->x∉ [G.length]:=fun x h z=>by simp at z;omega
 have ha2:=c2.get (c1.get ha (by simp)) (ns2 _ hal)
 refine aI ha2 ⟨by decide,qP_ rfl⟩ fun G3 c3 l3 h3=>w_next ?_
 refine aB (fy (dI fun G4 c4 l4 h4=>w_var rfl ?_))
 have ha4:=c4.get h3 (by simp)
 refine aI ha4 ⟨by decide,qP_ rfl⟩ fun G5 c5 l5 h5=>w_next ?_
 refine aB (fy (pT fun G6 c6 l6 h6=>w_var rfl ?_))
 have ha6:=c6.get h5 (by simp)
 refine aI ha6 ⟨by decide,qP_ rfl⟩ fun G7 c7 l7 h7=>w_next ?_
 refine fy (w_c (w_var rfl ?_))
 refine aI h7 ⟨by decide,qP_ rfl⟩ fun G8 c8 l8 h8=>sZ ?_
 have g2:=c2.1
 have hfa:∀x∈A.foot,x≠a/\G.length<=x/\x < G2.length:=fun x hx=>by
  have:=H2.lt x hx
  rcases hf x hx with w |w <;> omega
 have fr:∀{T:List Nat} {X Y:Hh},Chg T X Y->(∀n∈T,n=a)->bu X A (dq c m)->bu Y A (dq c m):=fun cc ht H=>H.frame cc fun n hn z=>(hfa n z).1 (ht n hn)
 have e1:∀n∈ [a],n=a:=by simp
 have e0:∀n∈([]:List Nat),n=a:=by simp
 have H8:=fr c8 e1 (fr c7 e1 (fr c6 e0 (fr c5 e1 (fr c4 e0 (fr c3 e1 H2)))))
 rw[<-hA]at h8
 have n1:G3.length∉ [a]:=na _ (by omega)
 have n2:G5.length∉ [a]:=na _ (by omega)
 have w8:G8[G3.length]? =some (.lst []):=c8.get (c7.get (c6.get (c5.get h4 n1) (by simp)) n1) n1
 have d8:G8[G5.length]? =some (.dK []):=c8.get (c7.get h6 n2) n2
 refine hq ⟨a,G3.length,G5.length,[],A⟩ G8 rfl ?_ ?_ ⟨h8,w8,d8,rfl,by simp,H8,?_,?_⟩
 · exact(((c1.mono (T:=[a]) (by simp)).trans' c2 (by intro n hn;simp at hn;exact .inr (by omega))).trans c3 |>.trans (c4.mono (by simp)) |>.trans c5 |>.trans (c6.mono (by simp)) |>.trans c7 |>.trans c8)
 · intro x hx
   rcases qG_.mp hx with w |w
   · unfold Sd.own at w
     simp only[qY_,qS_,List.not_mem_nil,or_false]at w
     rcases w with w |w |w
     · exact .inl w
     · exact .inr (by omega)
     · exact .inr (by omega)
   · exact .inr (hfa x w).2.1
 · unfold Sd.own
   simp
   omega
 · intro x hx z
   unfold Sd.own at hx
   simp only[qY_,qS_,List.not_mem_nil,or_false]at hx
   have:=hfa x z
   omega
theorem sv{d:bU}{s:Nat}(hs:S.s=s)(I:Iv y)(hd:y.aQ<=1000)(Y:b9 G S y)
 (hq:∀v S' G',Chg S.all G G'->S.To S' G.length->b9 G' S' (aS y d).1->lS S' G.length G' (aS y d).2 v->Q v G'):M3.run (bT [.ref s,bC d]) G Q E:=by
 subst hs
 exact AU I hd Y hq
def r9(S:Sd)(n:Nat)(G:Hh)(as:List An)(vs:List D):Prop:=as.length=vs.length/\∀(i:Nat) a v,as[i]? =some a->vs[i]? =some v->lS S n G a v
theorem lS.mono{n m:Nat}{a:An}{v:D}(h:lS S n G a v)(hm:m<=n):lS S m G a v:=by
 cases a with
 |one d=>exact h
 |lst ds=>
  obtain⟨l,e,h1,h2,h3⟩:=h
  exact⟨l,e,Nat.le_trans hm h1,h2,h3⟩
theorem r9.snoc{n:Nat}{as:List An}{vs:List D}{a:An}{v:D}(h:r9 S n G as vs)(h1:lS S n G a v):r9 S n G (as++[a]) (vs++[v]):=by
 refine⟨by simp [h.1],fun i b w hb hw=>?_⟩
 by_cases z:i < as.length
 · rw[qK_ z]at hb
   rw[qK_ (by rw[<-h.1];exact z)]at hw
   exact h.2 i b w hb hw
 · rw[qL_ (by omega)]at hb
   rw[qL_ (by rw[<-h.1];omega)]at hw
   have:i - as.length=0:=by
    have:=(qB_.mp hb).1
    simp at this
    omega
   rw[this]at hb
   rw[<-h.1,this]at hw
   simp at hb hw
   subst hb hw
   exact h1
theorem vV{ds:List bU}{i:Nat}{d:bU}(h:ds[i]? =some d)(y:Sy):cT y (ds.take (i+1))=(aS (cT y (ds.take i)) d).1/\gS y (ds.take (i+1))=gS y (ds.take i)++[(aS (cT y (ds.take i)) d).2]:=by
 rw[take_succ h,mM,sy]
 exact⟨rfl,rfl⟩
theorem zj{c m l:Nat}{ci mi:Int}{ds:List bU}(hci:ci=(c:Int))(hmi:mi=(m:Int))(hc:c<=9)(hm:m<=9)(hl:G[l]? =some (.lst (ds.map bC)))(hz:ds.length<=1000)
 (hq:∀S la vs G',Chg [] G G'->G.length<=la->G'[la]? =some (.lst vs)->r9 S G.length G' (gS (ba c m) ds) vs->Q (.ref la) G'):M3.run (kU [.int ci,.int mi,.ref l]) G Q E:=by
 have hll:=av hl
 walk_at "f"
 unfold nL
 refine aB (bq (kQ (ak (w_var rfl (ak (w_var rfl (az fun G1 c1 l1 h1=>?_)))))))
 refine mF hci hmi h1 hc hm fun S0 G2 hS c2 hf Y2=>⟨rfl,w_next ?_⟩
 walk_at "s"
 have I0:=kM hc hm
 have c12:Chg [] G G2:=c1.trans' c2 (by intro n hn;simp at hn;rw[hn];exact .inr (qO_ _))
 have hf0:∀x∈S0.all,G.length<=x:=fun x hx=>by rcases hf x hx with w |w <;> omega
 have hl2:=c12.get hl (by simp)
 refine bE (iN (oJ (w_var rfl (fv hl2 ?_))))
 refine jd (xs:=ds.map bC) (fun i acc G'=>∃S',Chg [] G G'/\S'.s=G.length/\(∀x∈S'.all,G.length<=x)/\b9 G' S' (cT (ba c m) (ds.take i))/\r9 S' G.length G' (gS (ba c m) (ds.take i)) acc) ?_ ?_ ?_ _ 0 [] G2 List.drop_zero (qf_ _) ⟨S0,c12,hS,hf0,Y2,rfl,by intro i a v h;simp [gS]at h⟩
 · rintro i acc G' ⟨S',cc,_⟩
   exact qZ_ (cc.get hl (by simp))
 · rintro i x acc G' hx ⟨S',cc,hs,hf',Y',A'⟩
   obtain⟨d,hd,rfl⟩:=pz hx
   obtain⟨I',hdd,_,_⟩:=kI I0 (ds.take i)
   obtain⟨e1,e2⟩:=vV hd (ba c m)
   have hdd':(cT (ba c m) (ds.take i)).aQ<=1000:=by
    rw[hdd,List.length_take]
    show 0+_<=_
    omega
   have ho:=Y'.o
   rw[hs]at ho
   refine gQ ?_
   rw[if_pos rfl]
   refine bh (w_var rfl (bR ho (ak (w_var rfl (az ?_)))))
   refine sv hs (d:=d) I' hdd' Y' fun v S2 G2 c2 t2 Y2 A2=>?_
   have g:=cc.1
   refine⟨?_,S2,?_,t2.s.trans hs,fun x hx=>?_,by rw[e1];exact Y2,?_⟩
   · rw[<-A'.1,sD,List.length_take];unfold aA;omega
   · exact cc.trans' c2 fun n hn=>.inr (hf' n hn)
   · rcases t2.z x hx with w |w
     · exact hf' x w
     · omega
   · rw[e2]
     exact r9.snoc ⟨A'.1,fun j a w h1 h2=>(A'.2 j a w h1 h2).on c2 t2⟩ (A2.mono g)
 · rintro acc G' ⟨S',cc,hs,hf',Y',A'⟩
   rw[qM_,List.take_length]at*
   intro G3 c3 l3 h3
   walk_at "r"
   exact hq S' G'.length acc G3 (cc.trans c3) cc.1 h3 ⟨A'.1,fun j a w h1 h2=>(A'.2 j a w h1 h2).chg c3 (by simp)⟩
theorem FD{a:Nat}{w:Wk}(ha:nZ G a w)(hq:Q (lQ w) G):M3.run (gP [.ref a]) G Q E:=by
 unfold nZ wkF at ha
 walk_at "f"
 unfold kE
 walk_at "r"
 exact hq
theorem sJ{f:Nat->D}{xs:List Nat}{ck:Hh->Bool}{cond:D->M Bool}{elt:D->M D}{QA:List D->Hh->Prop}(hck:ck G=true)(hz:xs.length<=1000000)
 (hc:∀x∈xs,M3.run (cond (.ref x)) G (fun c G1=>G1=G/\c=true) E) (he:∀x∈xs,M3.run (elt (.ref x)) G (fun y G1=>G1=G/\y=f x) E)
 (h:QA (xs.map f) G):M3.run (bX ck cond elt (refs xs) []) G QA E:=by
 refine kP (f:=D.ref) (p:=fun _=>true) (g:=f) hck hz hc (fun x hx _=>he x hx) ?_
 rw[List.filter_eq_self.mpr (fun _ _=>rfl)]
 exact h
theorem xq{α:Type}{as:List Nat}{ws:List α}{f:Nat->D}{g:α->D}(hl:as.length=ws.length)(h:∀(i:Nat) a w,as[i]? =some a->ws[i]? =some w->f a=g w):as.map f=ws.map g:=by
 apply List.ext_getElem?
 intro i
 rw[qQ_,qQ_]
 cases p:as[i]? with
 |none=>
  have:ws[i]? =none:=by rw[List.getElem?_eq_none_iff]at*;omega
  rw[this]
  rfl
 |some a=>
  have hi:=(qB_.mp p).1
  have:ws[i]? =some ws[i]:=qA_ (by omega)
  rw[this]
  show some (f a)=some (g _)
  rw[h i a _ p this]
def sM(G:Hh)(a:Nat):D:=match G[a]? with
 |some (.ins _ [(_,a),(_,b),(_,c),(_,d),(_,e),_])=>.tup [a,b,c,d,e]
 |_=>.non
def oB(G:Hh)(i:Nat)(a:Nat):D:=match G[a]? with
 |some (.ins _ fs)=>(fs.lookup i).getD .non
 |_=>.non
def qK(y:Sy)(l1 l2 l3:Nat)(G:Hh):Prop:=G[l1]? =some (.lst (y.ah.map lQ))/\G[l2]? =some (.lst (y.ah.map fun w=>stD w.bG))/\G[l3]? =some (.lst (y.af.ks.map fun k=>pD k.pair))
theorem uD{c m l:Nat}{ci mi:Int}{ds:List bU}(hci:ci=(c:Int))(hmi:mi=(m:Int))(hc:c<=9)(hm:m<=9)(hl:G[l]? =some (.lst (ds.map bC)))(hz:ds.length<=1000)
 (hq:∀l1 l2 l3 G',Chg [] G G'->G.length<=l1->G.length<=l2->G.length<=l3->qK (cT (ba c m) ds) l1 l2 l3 G'->Q (.tup [.ref l1,.ref l2,.ref l3]) G'):M3.run (g9 [.int ci,.int mi,.ref l]) G Q E:=by
 have hll:=av hl
 walk_at "f"
 unfold jY
 refine aB (bq (kQ (ak (w_var rfl (ak (w_var rfl (az fun G1 c1 l1 h1=>?_)))))))
 refine mF hci hmi h1 hc hm fun S0 G2 hS c2 hf Y2=>⟨rfl,w_next ?_⟩
 walk_at "s"
 have I0:=kM hc hm
 have c12:Chg [] G G2:=c1.trans' c2 (by intro n hn;simp at hn;rw[hn];exact .inr (qO_ _))
 have hf0:∀x∈S0.all,G.length<=x:=fun x hx=>by rcases hf x hx with w |w <;> omega
 have hl2:=c12.get hl (by simp)
 refine aB (yz (oJ (w_var rfl (fv hl2 ?_))))
 refine lW (fun i σ G'=>∃S' v,σ=[some (.int ci),some (.int mi),some (.ref l),some (.ref G.length),v,none,none,none]/\Chg [] G G'/\S'.s=G.length/\(∀x∈S'.all,G.length<=x)/\b9 G' S' (cT (ba c m) (ds.take i))) ?_ ?_ ?_ ⟨S0,none,rfl,c12,hS,hf0,Y2⟩
 · rintro i σ G' ⟨S',v,_,cc,_⟩
   exact qZ_ (cc.get hl (by simp))
 · rintro i d σ G' hd ⟨S',v,rfl,cc,hs,hf',Y'⟩
   obtain⟨I',hdd,_,_⟩:=kI I0 (ds.take i)
   obtain⟨e1,e2⟩:=vV hd (ba c m)
   have hdd':(cT (ba c m) (ds.take i)).aQ<=1000:=by
    rw[hdd,List.length_take]
    show 0+_<=_
    omega
   have ho:=Y'.o
   rw[hs]at ho
   refine ay (lB ?_)
   walk_at "s"
   refine dO (bh (w_var rfl (bR ho (ak (w_var rfl (az ?_))))))
   refine sv hs (d:=d) I' hdd' Y' fun v S2 G2 c2 t2 Y2 A2=>?_
   have g:=cc.1
   refine⟨S2,_,rfl,cc.trans' c2 fun n hn=>.inr (hf' n hn),t2.s.trans hs,fun x hx=>?_,by rw[e1];exact Y2⟩
   rcases t2.z x hx with w |w
   · exact hf' x w
   · omega
 · rintro σ G3 ⟨S',v,rfl,cc,hs,hf',Y⟩
   rw[List.take_length]at Y
   obtain⟨I',hdd,_,_⟩:=kI I0 ds
   have hw:(cT (ba c m) ds).ah.length<=1000:=by
    have:=I'.w
    rw[hdd]at this
    have:(cT (ba c m) ds).ah.length<=0+ds.length:=this
    omega
   have hk9:=I'.W.W.ksz
   generalize cT (ba c m) ds=y at*
   have ho:=Y.o
   rw[hs]at ho
   refine w_next ?_
   have hwa:∀a∈S'.wa,∃w,nZ G3 a w:=fun a ha=>by
    obtain⟨i,hi,e⟩:=List.getElem_of_mem ha
    have h1:S'.wa[i]? =some a:=by rw[qA_ hi,e]
    exact⟨_,Y.wk i a _ h1 (qA_ (by rw[<-Y.wl];exact hi))⟩
   refine aB (bq (iN (oJ (w_fld (w_var rfl (bc ho (by decide) rfl (fv Y.w ?_)))))))
   refine sJ (f:=sM G3) (qZ_ Y.w) (by rw[Y.wl];omega) (fun x _=>gQ ⟨rfl,rfl⟩) (fun x hx=>?_) ?_
   · obtain⟨w,hw⟩:=hwa x hx
     have hw0:=hw
     unfold nZ wkF at hw0
     refine bh (w_var rfl (bR hw0 (az ?_)))
     refine FD hw ⟨rfl,?_⟩
     unfold sM
     rw[hw0]
     rfl
   have em1:S'.wa.map (sM G3)=y.ah.map lQ:=xq Y.wl fun i a w h1 h2=>by
    have:=Y.wk i a w h1 h2
    unfold nZ wkF at this
    unfold sM
    rw[this]
    rfl
   rw[em1]
   intro G4 c4 l4 h4
   refine w_next ?_
   walk_at "s"
   have Y4:=Y.frame c4 (by simp)
   have ho4:=c4.get ho (by simp)
   have hwa4:∀a∈S'.wa,∃w,nZ G4 a w:=fun a ha=>by
    obtain⟨w,hw⟩:=hwa a ha
    exact⟨w,c4.get hw (by simp)⟩
   refine aB (bq (iN (oJ (w_fld (w_var rfl (bc ho4 (by decide) rfl (fv Y4.w ?_)))))))
   refine sJ (f:=oB G4 16) (qZ_ Y4.w) (by rw[Y4.wl];omega) (fun x _=>gQ ⟨rfl,rfl⟩) (fun x hx=>?_) ?_
   · obtain⟨w,hw⟩:=hwa4 x hx
     unfold nZ wkF at hw
     refine w_fld (w_var rfl (bc hw (by decide) rfl ⟨rfl,?_⟩))
     unfold oB
     rw[hw]
     rfl
   have em2:S'.wa.map (oB G4 16)=y.ah.map fun w=>stD w.bG:=xq Y4.wl fun i a w h1 h2=>by
    have:=Y4.wk i a w h1 h2
    unfold nZ wkF at this
    unfold oB
    rw[this]
    rfl
   rw[em2]
   intro G5 c5 l5 h5
   refine w_next ?_
   walk_at "s"
   have Y5:=Y4.frame c5 (by simp)
   have ho5:=c5.get ho4 (by simp)
   have hh5:=Y5.H.o
   have hka:∀a∈S'.A.ka,∃k,gw G5 a k:=fun a ha=>by
    obtain⟨i,hi,e⟩:=List.getElem_of_mem ha
    have h1:S'.A.ka[i]? =some a:=by rw[qA_ hi,e]
    exact⟨_,Y5.H.kr i a _ h1 (qA_ (by rw[<-Y5.H.kl];exact hi))⟩
   refine aB (bq (iN (oJ (w_fld (w_fld (w_var rfl (bc ho5 (by decide) rfl (bc hh5 (by decide) rfl (fv Y5.H.k ?_)))))))))
   refine sJ (f:=oB G5 4) (qZ_ Y5.H.k) (by rw[Y5.H.kl];omega) (fun x _=>gQ ⟨rfl,rfl⟩) (fun x hx=>?_) ?_
   · obtain⟨w,hw⟩:=hka x hx
     unfold gw krF at hw
     refine w_fld (w_var rfl (bc hw (by decide) rfl ⟨rfl,?_⟩))
     unfold oB
     rw[hw]
     rfl
   have em3:S'.A.ka.map (oB G5 4)=y.af.ks.map fun k=>pD k.pair:=xq Y5.H.kl fun i a w h1 h2=>by
    have:=Y5.H.kr i a w h1 h2
    unfold gw krF at this
    unfold oB
    rw[this]
    rfl
   rw[em3]
   intro G6 c6 l6 h6
   have g3:=cc.1
   refine w_next ?_
   walk_at "s"
   walk_at "r"
   exact hq G3.length G4.length G5.length G6 (((cc.trans c4).trans c5).trans c6) (by omega) (by omega) (by omega) ⟨c6.get (c5.get h4 (by simp)) (by simp),c6.get h5 (by simp),h6⟩
end
def DIn(c m:Nat):bU->Prop
 | .wr i _=>0<=i/\i < (m:Int)
 | .rd i=>0<=i/\i < (m:Int)
 | .ca _ _=>True
 | .pa i j=>(0<=i/\i < (m:Int))/\(0<=j/\j < (c:Int))
 | .sw=>True
 | .ag i=>0<=i/\i < (m:Int)
 | .qu i=>0<=i/\i < (m:Int)
 | .st j=>0<=j/\j < (c:Int)
 | .wa j=>0<=j/\j < (c:Int)
section
variable{G G':Hh}{Q:D->Hh->Prop}{E:Nat->Hh->Prop}{σ:St}
theorem pq{xs:List Int}{i:Int}(h0:0<=i)(h1:i < (xs.length:Int)):∃v∈xs,atI (xs.map D.int) i=some (.int v):=by
 have hl:i.toNat < xs.length:=by omega
 exact⟨xs[i.toNat],List.getElem_mem hl,z7 h0 (qA_ hl)⟩
theorem gY{i:Int}(h:Q (.bl true) G):M3.run (dG [.int i]) G Q E:=by
 walk_at "f"
 unfold sX
 walk_at "r"
 exact h
theorem Jq{l:Nat}{ns:List Int}{k:Nat}(hl:G[l]? =some (.frz (ns.map D.int)))(h:∀v:Int,Q (.int v) G):M3.run (uK [.ref l,.int (k:Int)]) G Q E:=by
 unfold uK
 with_reducible refine M3.Dl rfl ?_
 simp only[List.map_cons,List.map_nil,List.cons_append,qc_]
 unfold GZ
 walk_at "r"
 with_reducible refine B0 hl ?_
 walk_at "r"
 refine w_ite (fun z=>?_) fun z=>?_
 · have z':=of_decide_eq_true z
   rw[qM_]at z'
   obtain⟨v,_,e⟩:=pq (xs:=ns) (i:=(k:Int)) (by omega) z'
   walk_at "r"
   with_reducible refine Jc hl e ?_
   walk_at "r"
   exact h v
 · walk_at "r"
   exact h 0
def Zn(n:Int):Str:=Txt.mul "0" n
theorem tza{i:Int}(h0:0<=i)(h1:i<=1000)(h:Q (.str (Zn i)) G):M3.run (ff (.str "0") (.int i)) G Q E:=by
 have c:(0:Int)<=i/\i<=1000/\("0":Str).length<=1000:=⟨h0,h1,by decide +kernel⟩
 show M3.run (if (0:Int)<=i/\i<=1000/\("0":Str).length<=1000 then ret (D.str (Txt.mul "0" i))else fail) G _ E
 rw[if_pos c]
 exact h
theorem Kg:intText? (("1":Str)++Zn 88)=some (10 ^ 88):=by decide +kernel
theorem Ke:intText? (("1":Str)++Zn 90)=some (10 ^ 90):=by decide +kernel
theorem Km:(("1":Str)++Zn 88).length<=640:=by decide +kernel
theorem JV:(("1":Str)++Zn 90).length<=640:=by decide +kernel
theorem tzc{s:Str}{i:Int}(hn:intText? s=some i)(hl:s.length<=640)(h:Q (.int i) G):M3.run (xj [.str s]) G Q E:=by
 refine aD (a:= .int i) (G':=G) ?_ h
 unfold xj
 dsimp only
 rw[hn]
 dsimp only
 rw[if_pos hl]
theorem wL{c k:Int}(h:∀v G',Ext G G'->Q (.int v) G'):M3.run (jc [.int c,.int k]) G Q E:=by
 walk_at "f"
 unfold mr
 walk_at "r"
 refine tza (by decide) (by decide) ?_
 walk_at "r"
 refine zX (by decide +kernel) ?_
 walk_at "r"
 refine tzc Kg Km ?_
 refine oq (by decide) ?_
 walk_at "r"
 have i1:0<=c*48271 % 1009 % 6:=Int.emod_nonneg _ (by decide)
 have i2:c*48271 % 1009 % 6 < 6:=Int.emod_lt_of_pos _ (by decide)
 obtain⟨v,_,e⟩:=pq (xs:=[k+1,0 - k - 1,1000*k+7,c % 10 ^ 88*100+k,0 - (c % 10 ^ 88*100+k),0]) i1 i2
 refine cP (aZ _ _) e ?_
 walk_at "r"
 exact h v _ (Ext.add _ _)
theorem Cc{a b:D}{i:Int}(h0:0<=i)(h1:i < 2):atI [a,b] i=some a\/atI [a,b] i=some b:=by
 have:i=0\/i=1:=by omega
 rcases this with rfl |rfl
 · exact .inl rfl
 · exact .inr rfl
theorem zo{c m:Nat}{x k ci mi:Int}(hci:ci=(c:Int))(hmi:mi=(m:Int))(hc:0 < c)(hm:0 < m)(h:∀d G',Ext G G'->DIn c m d->Q (bC d) G'):M3.run (iw [.int x,.int k,.int ci,.int mi]) G Q E:=by
 have e0:=Ext.refl G
 walk_at "f"
 unfold nO
 walk_at "r"
 refine oq (by omega) ?_
 walk_at "r"
 refine oq (by omega) ?_
 have a1:0<=x*48271 % 1019 % mi:=Int.emod_nonneg _ (by omega)
 have a2:x*48271 % 1019 % mi < (m:Int):=by rw[<-hmi];exact Int.emod_lt_of_pos _ (by omega)
 have b1:0<=x*48271 % 1021 % ci:=Int.emod_nonneg _ (by omega)
 have b2:x*48271 % 1021 % ci < (c:Int):=by rw[<-hci];exact Int.emod_lt_of_pos _ (by omega)
 generalize x*48271 % 1019 % mi=hh at*
 generalize x*48271 % 1021 % ci=kk at*
 have w1:0<=x*48271 % 1013 % 20:=Int.emod_nonneg _ (by decide)
 have w2:x*48271 % 1013 % 20 < 20:=Int.emod_lt_of_pos _ (by decide)
 generalize x*48271 % 1013 % 20=way at*
 walk_at "r"
 refine w_ite (fun z=>?_) fun z1=>?_
 · walk_at "r"
   refine wL fun v G1 e1=>?_
   walk_at "r"
   exact h (.wr hh v) G1 e1 ⟨a1,a2⟩
 walk_at "r"
 refine w_ite (fun z=>?_) fun z2=>?_
 · walk_at "r"
   exact h (.rd hh) G e0 ⟨a1,a2⟩
 walk_at "r"
 refine w_ite (fun z=>?_) fun z3=>?_
 · walk_at "r"
   exact h (.pa hh kk) G e0 ⟨⟨a1,a2⟩,b1,b2⟩
 walk_at "r"
 refine w_ite (fun z=>?_) fun z4=>?_
 · walk_at "r"
   refine w_eq (by rfl) ?_
   walk_at "r"
   refine w_ite (fun z=>?_) fun z=>?_
   · walk_at "r"
     refine tza (by decide) (by decide) ?_
     walk_at "r"
     refine zX (by decide +kernel) ?_
     walk_at "r"
     refine tzc Ke JV ?_
     refine oq (by decide) ?_
     walk_at "r"
     exact h (.ca _ _) G e0 trivial
   · walk_at "r"
     exact h (.ca _ _) G e0 trivial
 have z4:=of_decide_eq_false z4
 walk_at "r"
 refine w_eq (by rfl) ?_
 walk_at "r"
 refine w_ite (fun z=>?_) fun z5=>?_
 · walk_at "r"
   exact h (.ag hh) G e0 ⟨a1,a2⟩
 have z5:=of_decide_eq_false z5
 walk_at "r"
 refine w_eq (by rfl) ?_
 walk_at "r"
 refine w_ite (fun z=>?_) fun z6=>?_
 · walk_at "r"
   have i1:0<=x*48271 % 1039 % 2:=Int.emod_nonneg _ (by decide)
   have i2:x*48271 % 1039 % 2 < 2:=Int.emod_lt_of_pos _ (by decide)
   rcases Cc (a:= .tup [.str "quit",.int hh]) (b:= .tup [.str "sweep"]) i1 i2 with e |e
   · refine cP (aZ _ _) e ?_
     walk_at "r"
     exact h (.qu hh) _ (Ext.add _ _) ⟨a1,a2⟩
   · refine cP (aZ _ _) e ?_
     walk_at "r"
     exact h .sw _ (Ext.add _ _) trivial
 have z6:=of_decide_eq_false z6
 walk_at "r"
 rcases Cc (a:= .tup [.str "stop",.int kk]) (b:= .tup [.str "wake",.int kk]) (i:=way - 16) (by omega) (by omega)with e |e
 · refine cP (aZ _ _) e ?_
   walk_at "r"
   exact h (.st kk) _ (Ext.add _ _) ⟨b1,b2⟩
 · refine cP (aZ _ _) e ?_
   walk_at "r"
   exact h (.wa kk) _ (Ext.add _ _) ⟨b1,b2⟩
theorem Ej{i j:Nat}{xs:List D}(h1:G[i]? =some (.lst xs))(h2:G[j]? =some (.lst []))(h:Q (.bl (!xs.isEmpty)) G):M3.run (oNe (.ref i) (.ref j)) G Q E:=by
 refine jy (b:=xs.isEmpty) ?_ h
 have e1:M3.listOf G i=some xs:=by unfold M3.listOf;rw[h1]
 have e2:M3.listOf G j=some []:=by unfold M3.listOf;rw[h2]
 unfold eqG
 dsimp only
 rw[e1,e2]
 dsimp only
 cases xs with
 |nil=>rfl
 |cons a r=>rw[if_neg (by simp)];rfl
theorem mI{i j:Nat}{a b:List D}(h1:G[i]? =some (.lst a))(h2:G[j]? =some (.lst b))(hl:a.length+b.length<=aA)(h:∀G',Chg [] G G'->G'.length=G.length+1->G'[G.length]? =some (.lst (a++b))->Q (.ref G.length) G'):M3.run (eY (.ref i) (.ref j)) G Q E:=
 Cr h1 h2 hl (h _ (Chg.add _ _) (by simp) (aZ _ _))
theorem ib{a:A3}(h:M3.run (a σ) G (fun xs G1=>xs.length<=aA/\∀G2,Chg [] G1 G2->G2.length=G1.length+1->G2[G1.length]? =some (.lst xs)->Q (.ref G1.length) G2) E):M3.run (cS a σ) G Q E:=
 Cf (ao h (fun xs G1 ⟨q1,q2⟩=>⟨q1,q2 _ (Chg.add _ _) (by simp) (aZ _ _)⟩) fun _ _ z=>z)
theorem yP{c m:Nat}{x ci mi:Int}(hci:ci=(c:Int))(hmi:mi=(m:Int))(hc:0 < c)(hm:0 < m)
 (h:∀(ds:List bU) l G',Chg [] G G'->G.length<=l->ds.length<=10->(∀d∈ds,DIn c m d)->G'[l]? =some (.lst (ds.map bC))->Q (.ref l) G'):M3.run (kR [.int x,.int ci,.int mi]) G Q E:=by
 walk_at "f"
 unfold nY
 walk_at "r"
 refine w_eq (by rfl) ?_
 walk_at "r"
 refine w_ite (fun z=>?_) fun z=>?_
 · refine aB ?_
   refine bq ?_
   refine ib ?_
   walk_at "r"
   intro G1 c1 l1 h1
   refine w_next ?_
   walk_at "s"
   refine bE (aJ (w_var rfl ?_))
   refine ib ?_
   walk_at "r"
   intro G2 c2 l2 h2
   refine mI (c2.get h1 (by simp)) h2 (qP_ (by with_unfolding_all rfl)) fun G3 c3 l3 h3=>?_
   walk_at "r"
   refine h [.wr 0 7,.ca 0 true,.ca 0 true,.ca ci false,.ca ci false] G2.length G3 ((c1.trans c2).trans c3) (by omega) (by simp) ?_ h3
   intro d hd
   simp only[qS_,List.not_mem_nil,or_false]at hd
   rcases hd with rfl |rfl |rfl |rfl |rfl
   · exact⟨by decide,by omega⟩
   all_goals trivial
 walk_at "r"
 refine w_ite (fun z1=>?_) fun z1=>?_
 · walk_at "r"
   refine w_eq (by rfl) ?_
   walk_at "r"
   refine w_ite (fun z2=>?_) fun z2=>?_
   · have z2:=of_decide_eq_true z2
     walk_at "r"
     refine w_ite (fun z3=>?_) fun z3=>?_
     · have z3:=of_decide_eq_true z3
       refine aB ?_
       refine bq ?_
       refine ib ?_
       walk_at "r"
       intro G1 c1 l1 h1
       refine w_next ?_
       walk_at "s"
       refine aB (dO (uN (w_var rfl (m4 h1 ?_))))
       refine ib ?_
       walk_at "r"
       intro G2 c2 l2 h2
       refine gM (c2.get h1 (by simp)) h2 (by decide) fun G3 c3 l3 h3=>?_
       refine w_next ?_
       refine aB (dO (uN (w_var rfl (m4 h3 ?_))))
       refine ib ?_
       walk_at "r"
       intro G4 c4 l4 h4
       refine gM (c4.get h3 (by simp)) h4 (by decide) fun G5 c5 l5 h5=>?_
       refine w_next ?_
       refine bE (aJ (w_var rfl ?_))
       refine ib ?_
       walk_at "r"
       intro G6 c6 l6 h6
       refine mI (c6.get h5 (by simp)) h6 (by decide) fun G7 c7 l7 h7=>?_
       walk_at "r"
       have c13:Chg [] G G3:=(c1.trans c2).trans' c3 (by intro n hn;simp at hn;exact .inr (by omega))
       have c15:Chg [] G G5:=(c13.trans c4).trans' c5 (by intro n hn;simp at hn;exact .inr (by omega))
       refine h [.rd 0,.ca 0 true,.wr 1 9,.pa 1 0,.pa 1 1,.pa 1 0,.ca 0 true,.ca 6 false,.ca 3 false,.pa 0 2] G6.length G7 ((c15.trans c6).trans c7) (by omega) (by simp) ?_ h7
       intro d hd
       simp only[qS_,List.not_mem_nil,or_false]at hd
       rcases hd with rfl |rfl |rfl |rfl |rfl |rfl |rfl |rfl |rfl |rfl
       · exact⟨by decide,by omega⟩
       · trivial
       · exact⟨by decide,by omega⟩
       · exact⟨⟨by decide,by omega⟩,by decide,by omega⟩
       · exact⟨⟨by decide,by omega⟩,by decide,by omega⟩
       · exact⟨⟨by decide,by omega⟩,by decide,by omega⟩
       · trivial
       · trivial
       · trivial
       · exact⟨⟨by decide,by omega⟩,by decide,by omega⟩
     · walk_at "r"
       exact h [] _ _ (Chg.add _ _) (qO_ _) (by simp) (by simp) (aZ _ _)
   · walk_at "r"
     exact h [] _ _ (Chg.add _ _) (qO_ _) (by simp) (by simp) (aZ _ _)
 · walk_at "r"
   exact h [] _ _ (Chg.add _ _) (qO_ _) (by simp) (by simp) (aZ _ _)
theorem Ax{c m l:Nat}{ci mi:Int}{ns:List Int}(hci:ci=(c:Int))(hmi:mi=(m:Int))(hc:0 < c)(hm:0 < m)(hl:G[l]? =some (.lst (ns.map D.int)))(hz:ns.length<=100)
 (h:∀(ds:List bU) ld G',Chg [] G G'->G.length<=ld->ds.length<=ns.length+10->(∀d∈ds,DIn c m d)->G'[ld]? =some (.lst (ds.map bC))->Q (.ref ld) G'):M3.run (nz [.ref l,.int ci,.int mi]) G Q E:=by
 have hll:=av hl
 walk_at "f"
 unfold tO
 refine aB (bq (dI fun G1 c1 l1 h1=>w_next ?_))
 walk_at "s"
 have hl1:=c1.get hl (by simp)
 have loop:∀(ds:List bU) (ld:Nat) (G2:Hh),Chg [] G G2->G.length<=ld->ds.length<=10->(∀d∈ds,DIn c m d)->G2[ld]? =some (.lst (ds.map bC))->
  M3.run ((aq (k9 (gs (aw di (aa (ae 0) ai))) (gNm 4) (b7 (zL (ae 3) (aw iw (aa (eOp eY (eOp oIx (ae 0) (ae 4)) (eOp ff (eC (.int 7)) (ae 4))) (aa (ae 4) (aa (ae 1) (aa (ae 2) ai)))))))) (aC (ae 3))) [some (.ref l),some (.int ci),some (.int mi),some (.ref ld),none]) G2 (fun r G3=>M3.run (fK r) G3 Q E) E:=by
  intro ds ld G2 c2 g2 hd hin h2
  have hl2:=c2.get hl (by simp)
  walk_at "r"
  refine dN hl2 ?_
  rw[qM_]
  with_reducible refine iF (by omega) ?_
  refine pV (fun i σ G'=>∃(ds:List bU) (v:Option D),σ=[some (.ref l),some (.int ci),some (.int mi),some (.ref ld),v]/\Chg [] G G'/\ds.length<=10+i/\(∀d∈ds,DIn c m d)/\G'[ld]? =some (.lst (ds.map bC))) ?_ ?_ ⟨ds,none,rfl,c2,hd,hin,h2⟩
  · rintro i σ G3 hi ⟨ds,v,rfl,c3,hd,hin,h3⟩
    have hn:ns[i]? =some ns[i]:=qA_ hi
    have hix:=g8 (f:=D.int) hn
    generalize ns[i]=nv at*
    have hi':(i:Int)<=100:=by omega
    generalize (i:Int)=ii at*
    refine ay (lB ?_)
    walk_at "s"
    refine dO (Ey (w_var rfl (m4 h3 ?_)))
    refine bI (ak (aJ (aJ (w_var rfl (w_var rfl (cP (c3.get hl (by simp)) hix ?_))))))
    walk_at "r"
    refine zo hci hmi hc hm fun d G4 e4 din=>?_
    refine nP (e4.get h3) (by rw[qM_];unfold aA;omega) fun G5 c5 l5 h5=>?_
    refine⟨ds++[d],_,rfl,(c3.trans (Ext.chg e4)).trans' c5 (by intro n hn;simp at hn;exact .inr (by omega)),by simp;omega,?_,by rw[qT_];exact h5⟩
    intro x hx
    rcases qG_.mp hx with w |w
    · exact hin x w
    · simp at w;rw[w];exact din
  · rintro σ G3 ⟨ds,v,rfl,c3,hd,hin,h3⟩
    walk_at "r"
    exact h ds ld G3 c3 g2 (by omega) hin h3
 refine aB (cK (gB (aJ (w_var rfl ?_))))
 refine dI fun G2 c2 l2 h2=>?_
 have hl2:=c2.get hl1 (by simp)
 refine Ej hl2 h2 ?_
 cases ns with
 |nil=>
  walk_at "r"
  exact loop [] G.length G2 (c1.trans c2) (qO_ _) (by simp) (by simp) (c2.get h1 (by simp))
 |cons a r=>
  dsimp only[List.map,List.isEmpty]
  walk_at "r"
  refine cP (d:= .int a) hl2 (g8 (f:=D.int) (xs:=a :: r) (i:=0) rfl) ?_
  walk_at "r"
  refine yP hci hmi hc hm fun ds ld G3 c3 hld hd hin h3=>?_
  refine w_next ?_
  walk_at "s"
  exact loop ds ld G3 ((c1.trans c2).trans c3) (by omega) hd hin h3
theorem pG{s:Int×Int}(h:Q (.bl true) G):M3.run (fw [.tup [.int s.1,.int s.2]]) G Q E:=by
 walk_at "f"
 unfold mx
 walk_at "r"
 refine jy (b:=true) rfl ?_
 walk_at "r"
 refine gY ?_
 walk_at "r"
 refine gY ?_
 walk_at "r"
 exact h
theorem y7{p:Pr}(h:Q (.bl true) G):M3.run (kW [pD p]) G Q E:=by
 unfold pD
 walk_at "f"
 unfold nI
 walk_at "r"
 refine jy (b:=true) rfl ?_
 walk_at "r"
 refine pG (s:=p.1) ?_
 walk_at "r"
 refine gY ?_
 walk_at "r"
 exact h
theorem Au(o:Option Nat):decide (nD o= .non)=o.isNone:=by cases o <;> rfl
theorem zp{w:Wk}(h:Q (.bl true) G):M3.run (kX [lQ w]) G Q E:=by
 unfold lQ
 walk_at "f"
 unfold nQ
 walk_at "r"
 refine jy (b:=true) rfl ?_
 generalize (w.hand:Int)=wh
 generalize (w.beg:Int)=wb
 walk_at "r"
 refine gY ?_
 walk_at "r"
 refine gY ?_
 walk_at "r"
 rw[BX]
 cases hv:w.val with
 |none=>
  dsimp only[Option.isNone]
  walk_at "r"
  rw[Au]
  cases he:w.en with
  |none=>
   dsimp only[Option.isNone]
   walk_at "r"
   exact h
  |some e=>
   dsimp only[Option.isNone]
   walk_at "r"
   refine gY (i:=(e:Int)) ?_
   walk_at "r"
   exact h
 |some v=>
  dsimp only[Option.isNone]
  simp only[oD]
  walk_at "r"
  refine gY ?_
  walk_at "r"
  rw[Au]
  cases he:w.en with
  |none=>
   dsimp only[Option.isNone]
   walk_at "r"
   exact h
  |some e=>
   dsimp only[Option.isNone]
   walk_at "r"
   refine gY (i:=(e:Int)) ?_
   walk_at "r"
   exact h
end
section
variable{G G':Hh}{Q:D->Hh->Prop}{E:Nat->Hh->Prop}{σ:St}{y:Sy}
theorem FW{xs:List D}{QI:Src->Hh->Prop}(h:QI ⟨xs,fun _=>true⟩ G):M3.run (srcOf (.tup xs)) G QI E:=h
theorem vY{l1 l2 l3 c:Nat}{ci:Int}(hci:ci=(c:Int))(A:qK y l1 l2 l3 G)(hk:y.af.ks.length=c)(h:Q (.bl true) G):M3.run (gT [.tup [.ref l1,.ref l2,.ref l3],.int ci]) G Q E:=by
 obtain⟨h1,h2,h3⟩:=A
 walk_at "f"
 unfold jV
 walk_at "r"
 refine jy (b:=true) rfl ?_
 walk_at "r"
 refine FW ?_
 refine lW (f:=fun d:D=>d) (xs:=[.ref l1,.ref l2,.ref l3]) (fun i σ G'=>G'=G/\∃v,σ=[some (.tup [.ref l1,.ref l2,.ref l3]),some (.int ci),v,none,none,none]) (fun _ _ _ _=>rfl) ?_ ?_ ⟨rfl,none,rfl⟩
 · rintro i d σ G' hd ⟨rfl,v,rfl⟩
   have:d= .ref l1\/d= .ref l2\/d= .ref l3:=by
    have:=qD_ hd
    simpa using this
   rcases this with rfl |rfl |rfl
   · walk_at "r"
     refine eD h1 ?_
     walk_at "r"
     exact⟨rfl,_,rfl⟩
   · walk_at "r"
     refine eD h2 ?_
     walk_at "r"
     exact⟨rfl,_,rfl⟩
   · walk_at "r"
     refine eD h3 ?_
     walk_at "r"
     exact⟨rfl,_,rfl⟩
 rintro σ G' ⟨rfl,v,rfl⟩
 walk_at "r"
 refine fv h1 ?_
 refine lW (fun i σ G1=>G1=G'/\∃u,σ=[some (.tup [.ref l1,.ref l2,.ref l3]),some (.int ci),v,u,none,none]) ?_ ?_ ?_ ⟨rfl,none,rfl⟩
 · rintro i σ G1 ⟨rfl,_⟩
   exact qZ_ h1
 · rintro i w σ G1 hw ⟨rfl,u,rfl⟩
   refine ay (lB ?_)
   walk_at "s"
   refine cK (ig (iB (bI (ak (w_var rfl (az ?_))))))
   refine zp ?_
   walk_at "r"
   exact⟨rfl,_,rfl⟩
 rintro σ G1 ⟨rfl,u,rfl⟩
 walk_at "r"
 refine fv h2 ?_
 refine lW (fun i σ G2=>G2=G1/\∃u',σ=[some (.tup [.ref l1,.ref l2,.ref l3]),some (.int ci),v,u,u',none]) ?_ ?_ ?_ ⟨rfl,none,rfl⟩
 · rintro i σ G2 ⟨rfl,_⟩
   exact qZ_ h2
 · rintro i w σ G2 hw ⟨rfl,u',rfl⟩
   refine ay (lB ?_)
   walk_at "s"
   cases hs:w.bG with
   |none=>
    simp only[stD]
    refine cK (s9 (gB (oi (w_var rfl (qj (eP ?_))))))
    rw[if_neg (by decide)]
    walk_at "r"
    exact⟨rfl,_,rfl⟩
   |some s=>
    refine cK (s9 (gB (oi (w_var rfl (qj (eP ?_))))))
    rw[if_pos (by rfl)]
    refine ig (iB (bI (ak (w_var rfl (az ?_)))))
    refine pG (s:=s) ?_
    walk_at "r"
    exact⟨rfl,_,rfl⟩
 rintro σ G2 ⟨rfl,u',rfl⟩
 walk_at "r"
 refine fv h3 ?_
 refine lW (fun i σ G3=>G3=G2/\∃u'',σ=[some (.tup [.ref l1,.ref l2,.ref l3]),some (.int ci),v,u,u',u'']) ?_ ?_ ?_ ⟨rfl,none,rfl⟩
 · rintro i σ G3 ⟨rfl,_⟩
   exact qZ_ h3
 · rintro i k σ G3 hw ⟨rfl,u'',rfl⟩
   refine ay (lB ?_)
   walk_at "s"
   refine cK (ig (iB (bI (ak (w_var rfl (az ?_))))))
   refine y7 ?_
   walk_at "r"
   exact⟨rfl,_,rfl⟩
 rintro σ G3 ⟨rfl,u'',rfl⟩
 refine w_next ?_
 refine bE (wV ?_)
 refine aJ (bI (ak (aJ (w_var rfl (w_c (bb rfl (az ?_)))))))
 refine dN h1 ?_
 refine bI (ak (aJ (w_var rfl (w_c (bb rfl (az ?_))))))
 refine dN h2 ?_
 refine w_eq (b:=true) ?_ ?_
 · rw[qM_,qM_,eq_int]
   simp
 walk_at "r"
 refine dN h3 ?_
 walk_at "r"
 refine w_eq (b:=true) ?_ ?_
 · rw[qM_,eq_int,hk,hci]
   simp
 walk_at "r"
 exact h
theorem qb{f:D->D->Option Bool}:∀{xs:List D},(∀x∈xs,f x x=some true)->eqZ f xs xs=some true
 | [],_=>rfl
 |a :: r,h=>by
  unfold eqZ
  rw[h a qI_,qb fun x hx=>h x (qR_ _ hx)]
  rfl
theorem gL{k:Nat}{xs:List D}(h:∀x∈xs,eqG G k x x=some true):eqG G (k+1) (.tup xs) (.tup xs)=some true:=by
 show (eqZ (eqG G k) xs xs).map (·&&decide (xs.length=xs.length))=some true
 rw[qb h]
 simp
theorem bV{k:Nat}(i:Int):eqG G (k+1) (.int i) (.int i)=some true:=by show some (decide (i=i))=_;simp
theorem dH{k:Nat}(i:Str):eqG G (k+1) (.str i) (.str i)=some true:=by show some (decide (i=i))=_;simp
theorem AI{k:Nat}(i:Bool):eqG G (k+1) (.bl i) (.bl i)=some true:=by show some (i==i)=_;simp
theorem all1{P:D->Prop}{a:D}(h1:P a):∀x∈ [a],P x:=by simp [h1]
theorem all2{P:D->Prop}{a b:D}(h1:P a)(h2:P b):∀x∈ [a,b],P x:=by simp [h1,h2]
theorem Hf{P:D->Prop}{a b c:D}(h1:P a)(h2:P b)(h3:P c):∀x∈ [a,b,c],P x:=by simp [h1,h2,h3]
theorem CZ(d:bU)(k:Nat):eqG G (k+2) (bC d) (bC d)=some true:=by
 cases d with
 |wr i v=>exact gL (Hf (dH _) (bV _) (bV _))
 |rd i=>exact gL (all2 (dH _) (bV _))
 |ca n s=>exact gL (Hf (dH _) (bV _) (AI _))
 |pa i j=>exact gL (Hf (dH _) (bV _) (bV _))
 |sw=>exact gL (all1 (dH _))
 |ag i=>exact gL (all2 (dH _) (bV _))
 |qu i=>exact gL (all2 (dH _) (bV _))
 |st i=>exact gL (all2 (dH _) (bV _))
 |wa i=>exact gL (all2 (dH _) (bV _))
theorem eq_list{i j k:Nat}{xs:List D}(h1:G[i]? =some (.lst xs))(h2:G[j]? =some (.lst xs))(h:∀x∈xs,eqG G k x x=some true):eqG G (k+1) (.ref i) (.ref j)=some true:=by
 have e1:M3.listOf G i=some xs:=by unfold M3.listOf;rw[h1]
 have e2:M3.listOf G j=some xs:=by unfold M3.listOf;rw[h2]
 unfold eqG
 dsimp only
 rw[e1,e2]
 dsimp only
 rw[if_pos rfl]
 exact qb h
theorem qo{c m l:Nat}{ci mi:Int}{ds:List bU}(hci:ci=(c:Int))(hmi:mi=(m:Int))(hc:c<=9)(hm:m<=9)(hl:G[l]? =some (.lst (ds.map bC)))(hz:ds.length<=1000)
 (hq:∀l1 l2 l3 G',Chg [] G G'->G.length<=l1->G.length<=l2->G.length<=l3->qK (cT (ba c m) ds) l1 l2 l3 G'->Q (.tup [.ref l1,.ref l2,.ref l3]) G'):M3.run (gI [.int ci,.int mi,.ref l]) G Q E:=by
 have hll:=av hl
 walk_at "f"
 unfold md
 refine aB (bq (bI (ak (w_var rfl (az ?_)))))
 refine DH hl ?_
 have c1:Chg [] G (G++[O.lst (ds.map bC)]):=Chg.add _ _
 have h1:=aZ G (.lst (ds.map bC))
 have l1:(G++[O.lst (ds.map bC)]).length=G.length+1:=by simp
 generalize G++[O.lst (ds.map bC)]=G1 at*
 refine w_next ?_
 walk_at "s"
 refine aB (bq (bI (ak (w_var rfl (ak (w_var rfl (ak (w_var rfl (az ?_)))))))))
 refine uD hci hmi hc hm h1 hz fun a1 a2 a3 G2 c2 g1 g2 g3 A=>?_
 refine w_next ?_
 walk_at "s"
 refine aB (cK (ox (gB (aJ (w_var rfl (w_var rfl ?_))))))
 refine jy (b:=true) (eq_list (c2.get h1 (by simp)) ((c1.trans c2).get hl (by simp)) fun x hx=>?_) ?_
 · obtain⟨d,_,rfl⟩:=qH_.mp hx
   exact CZ d 5
 walk_at "r"
 have hk:(cT (ba c m) ds).af.ks.length=c:=by
  rw[(kI (kM hc hm) ds).2.2.2]
  show (List.replicate c k0).length=c
  simp
 refine vY hci A hk ?_
 walk_at "r"
 exact hq a1 a2 a3 G2 (c1.trans c2) (by omega) (by omega) (by omega) A
end
def JG:D->Bool
 | .non=>true
 | .bl _=>true
 | .int _=>true
 | .str _=>true
 |_=>false
inductive Eqv (G:Hh):Nat->D->D->Prop
 |atom {n:Nat} {d:D} (h:JG d=true):Eqv G (n+1) d d
 |tup {n:Nat} {a b:List D} (hl:a.length=b.length) (hz:a.length<=1000000) (h:∀(i:Nat) x y,a[i]? =some x->b[i]? =some y->Eqv G n x y):Eqv G (n+1) (.tup a) (.tup b)
 |lst {n i j:Nat} {a b:List D} (h1:G[i]? =some (.lst a)) (h2:G[j]? =some (.lst b)) (hl:a.length=b.length) (hz:a.length<=1000000) (h:∀(i:Nat) x y,a[i]? =some x->b[i]? =some y->Eqv G n x y):Eqv G (n+1) (.ref i) (.ref j)
section
variable{G G':Hh}{Q:D->Hh->Prop}{E:Nat->Hh->Prop}{σ:St}{y:Sy}
theorem w_isK{c k:Kd}{d:D}(hk:kdOf G d=some k)(h:Q (.bl (lx k c)) G):M3.run (bIs c [d]) G Q E:=by
 refine aD (a:= .bl (lx k c)) (G':=G) ?_ h
 unfold bIs
 dsimp only
 rw[hk]
theorem Cp{cs:List Kd}{k:Kd}{d:D}(hk:kdOf G d=some k)(h:Q (.bl (cs.any (lx k ·))) G):M3.run (y9 cs [d]) G Q E:=by
 refine aD (a:= .bl (cs.any (lx k ·))) (G':=G) ?_ h
 unfold y9
 dsimp only
 rw[hk]
theorem zY{xs:List D}{i:Nat}{d:D}(h:xs[i]? =some d)(hq:Q d G):M3.run (oIx (.tup xs) (.int (i:Int))) G Q E:=by
 have:=g8 (f:=fun d:D=>d) h
 rw[List.map_id']at this
 with_reducible exact bb this hq
theorem ot{n:Nat}{xs:List D}{i:Nat}{d:D}(hn:G[n]? =some (.lst xs))(h:xs[i]? =some d)(hq:Q d G):M3.run (oIx (.ref n) (.int (i:Int))) G Q E:=by
 have:=g8 (f:=fun d:D=>d) h
 rw[List.map_id']at this
 with_reducible exact cP hn this hq
theorem Jr:∀(n:Nat) {a b:D} {Q:D->Hh->Prop},Eqv G n a b->Q (.bl true) G->M3.run (wI n [a,b]) G Q E:=by
 intro n
 induction n with
 |zero=>intro a b Q h;cases h
 |succ n ih=>
  intro a b Q h hq
  show M3.run (fnM 2 [none] (CY (wI n)) [a,b]) G Q E
  refine Dl rfl ?_
  simp only[List.map_cons,List.map_nil,List.cons_append,qc_]
  unfold CY
  cases h with
  |atom h=>
   cases a with
   |non=>
    walk_at "r"
    exact hq
   |bl b=>
    walk_at "r"
    rw[show decide (D.bl b=D.non)=false from rfl]
    walk_at "r"
    refine w_eq (AI b) ?_
    walk_at "r"
    exact hq
   |int i=>
    walk_at "r"
    rw[show decide (D.int i=D.non)=false from rfl]
    walk_at "r"
    refine w_eq (bV i) ?_
    walk_at "r"
    exact hq
   |str i=>
    walk_at "r"
    rw[show decide (D.str i=D.non)=false from rfl]
    walk_at "r"
    refine w_eq (dH i) ?_
    walk_at "r"
    exact hq
   |tup xs=>cases h
   |ref i=>cases h
  |tup hl hz h=>
   rename_i xs ys
   walk_at "r"
   rw[show decide (D.tup ys=D.non)=false from rfl]
   walk_at "r"
   refine jy (b:=true) rfl ?_
   walk_at "r"
   refine jy (b:=true) rfl ?_
   walk_at "r"
   refine Cp (k:= .tup) rfl ?_
   walk_at "r"
   rw[show (![Kd.lst,Kd.tup].any fun x=>lx Kd.tup x)=false from rfl]
   walk_at "r"
   refine ux (by unfold aA;omega) ?_
   walk_at "r"
   refine ux (by unfold aA;omega) ?_
   refine jy (b:=true) (by rw[eq_int];simp [hl]) ?_
   walk_at "r"
   refine ux (by unfold aA;omega) ?_
   with_reducible refine iF (by omega) ?_
   refine pV (fun i σ G'=>G'=G/\∃v,σ=[some (.tup xs),some (.tup ys),v]) ?_ ?_ ⟨rfl,none,rfl⟩
   · rintro i σ G' hi ⟨rfl,v,rfl⟩
     have e1:xs[i]? =some xs[i]:=qA_ (by omega)
     have e2:ys[i]? =some ys[i]:=qA_ hi
     have he:=h i _ _ e1 e2
     refine ay ?_
     with_reducible refine lB ?_
     walk_at "s"
     with_reducible refine cK ?_
     with_reducible refine ig ?_
     with_reducible refine iB ?_
     with_reducible refine bI ?_
     walk_at "r"
     with_reducible refine zY e1 ?_
     walk_at "r"
     with_reducible refine zY e2 ?_
     walk_at "r"
     refine ih he ?_
     walk_at "r"
     exact⟨rfl,_,rfl⟩
   · rintro σ G' ⟨rfl,v,rfl⟩
     walk_at "r"
     exact hq
  |lst h1 h2 hl hz h=>
   rename_i i0 j0 xs ys
   walk_at "r"
   rw[show decide (D.ref j0=D.non)=false from rfl]
   walk_at "r"
   refine uC h2 ?_
   walk_at "r"
   refine tV h2 ?_
   walk_at "r"
   refine sY h2 ?_
   walk_at "r"
   refine uk h2 ?_
   walk_at "r"
   refine nj h2 ?_
   walk_at "r"
   refine nj h1 ?_
   refine jy (b:=true) rfl ?_
   walk_at "r"
   refine eD h2 ?_
   walk_at "r"
   refine eD h1 ?_
   refine jy (b:=true) rfl ?_
   walk_at "r"
   refine Cp (k:= .lst) (by unfold kdOf;dsimp only;rw[h2]) ?_
   walk_at "r"
   rw[show (![Kd.lst,Kd.tup].any fun x=>lx Kd.lst x)=false from rfl]
   walk_at "r"
   refine dN h1 ?_
   walk_at "r"
   refine dN h2 ?_
   refine jy (b:=true) (by rw[eq_int];simp [hl]) ?_
   walk_at "r"
   refine dN h2 ?_
   with_reducible refine iF (by omega) ?_
   refine pV (fun i σ G'=>G'=G/\∃v,σ=[some (.ref i0),some (.ref j0),v]) ?_ ?_ ⟨rfl,none,rfl⟩
   · rintro i σ G' hi ⟨rfl,v,rfl⟩
     have e1:xs[i]? =some xs[i]:=qA_ (by omega)
     have e2:ys[i]? =some ys[i]:=qA_ hi
     have he:=h i _ _ e1 e2
     refine ay ?_
     with_reducible refine lB ?_
     walk_at "s"
     with_reducible refine cK ?_
     with_reducible refine ig ?_
     with_reducible refine iB ?_
     with_reducible refine bI ?_
     walk_at "r"
     with_reducible refine ot h1 e1 ?_
     walk_at "r"
     with_reducible refine ot h2 e2 ?_
     walk_at "r"
     refine ih he ?_
     walk_at "r"
     exact⟨rfl,_,rfl⟩
   · rintro σ G' ⟨rfl,v,rfl⟩
     walk_at "r"
     exact hq
end
def asg(hs:List Hd):List (Nat×Nat)->Nat->Option (Int×Int)
 | [],_=>none
 |e :: r,q=>match asg hs r q with
  |some s=>some s
  |none=>if e.2=q then ((hs[e.1]?).bind (·.pair)).map (·.1)else none
def app(o:Option (Int×Int))(w:Wk):Wk:=match o with
 |none=>w
 |some s=>{w with bG:=some s}
theorem zJ(y:Sy)(e:Nat×Nat)(q:Nat):(aT y e).ah[q]? =(y.ah[q]?).map (app (if e.2=q then ((y.af.hs[e.1]?).bind (·.pair)).map (·.1)else none)):=by
 unfold aT
 cases hp:(y.af.hs[e.1]?).bind (·.pair)with
 |none=>
  have e0:(if e.2=q then Option.map (·.1) (none:Option Pr)else none)=none:=by split <;> rfl
  rw[e0]
  show y.ah[q]? =(y.ah[q]?).map (app none)
  cases y.ah[q]? <;> rfl
 |some p=>
  unfold g7
  cases hw:y.ah[e.2]? with
  |none=>
   dsimp only
   by_cases z:e.2=q
   · subst z;rw[hw];rfl
   · rw[if_neg z];cases y.ah[q]? <;> rfl
  |some w=>
   dsimp only
   by_cases z:e.2=q
   · subst z
     rw[if_pos rfl,qU_ (qB_.mp hw).1,hw]
     rfl
   · rw[if_neg z,qV_ z]
     cases y.ah[q]? <;> rfl
theorem eA:∀(l:List (Nat×Nat)) (y:Sy) (q:Nat),(l.foldl aT y).ah[q]? =(y.ah[q]?).map (app (asg y.af.hs l q))
 | [],y,q=>by
   show y.ah[q]? =(y.ah[q]?).map (app none)
   cases y.ah[q]? <;> rfl
 |e :: l,y,q=>by
  show (l.foldl aT (aT y e)).ah[q]? =_
  rw[eA l (aT y e) q,zJ,(oM y e).2.1]
  rw[show asg y.af.hs (e :: l) q=(match asg y.af.hs l q with
   |some s=>some s
   |none=>if e.2=q then ((y.af.hs[e.1]?).bind (·.pair)).map (·.1)else none)from rfl]
  cases h1:asg y.af.hs l q with
  |none=>dsimp only;cases y.ah[q]? <;> rfl
  |some s=>
   dsimp only
   cases y.ah[q]? with
   |none=>rfl
   |some w=>
    show some (app (some s) (app _ w))=some (app (some s) w)
    generalize (if e.2=q then _ else _:Option (Int×Int))=o
    cases o <;> rfl
theorem Sy.eq4{a b:Sy}(h1:a.af=b.af)(h2:a.ah=b.ah)(h3:a.last=b.last)(h4:a.aQ=b.aQ):a=b:=by
 cases a;cases b;simp_all
theorem vc(y:Sy):aK (aK y)=aK y:=by
 obtain⟨a1,a2,a3,a4⟩:=cA y.last y
 unfold aK
 obtain⟨b1,b2,b3,b4⟩:=cA (y.last.foldl aT y).last (y.last.foldl aT y)
 refine Sy.eq4 b2 ?_ b1 b3
 apply List.ext_getElem?
 intro q
 rw[eA,a1,a2,eA]
 cases y.ah[q]? with
 |none=>rfl
 |some w=>
  show some (app _ (app _ w))=some (app _ w)
  cases asg y.af.hs y.last q <;> rfl
theorem ug(y:Sy):aK (cH y)=cH (aK y):=by
 unfold aK
 show y.last.foldl aT (cH y)=cH (y.last.foldl aT y)
 generalize y.last=l
 induction l generalizing y with
 |nil=>rfl
 |cons e l ih=>
  show l.foldl aT (aT (cH y) e)=cH (l.foldl aT (aT y e))
  rw[<-ih]
  congr 1
  unfold aT
  show (match (y.af.hs[e.1]?).bind (·.pair)with |none=>cH y |some p=>g7 (cH y) e.2 (nV p))=_
  cases (y.af.hs[e.1]?).bind (·.pair)with
  |none=>rfl
  |some p=>
   dsimp only
   unfold g7
   show (match y.ah[e.2]? with |none=>cH y |some w=>{cH y with ah:=y.ah.set e.2 (nV p w)})=_
   cases y.ah[e.2]? <;> rfl
def rS(y:Sy):Prop:=aK y=y
theorem uu(c m:Nat):rS (ba c m):=rfl
theorem wM(y:Sy)(d:bU):rS (aS y d).1:=by
 show aK (cH (aK (iR y d).1))=cH (aK (iR y d).1)
 rw[ug,vc]
theorem xa{y:Sy}(h:rS y)(ds:List bU):rS (cT y ds):=by
 induction ds generalizing y with
 |nil=>exact h
 |cons d r ih=>exact ih (wM y d)
theorem pR(k:Nat):lastOf [] k=0:=rfl
theorem fG(e:Nat×Nat)(l:List (Nat×Nat))(k:Nat):lastOf (e :: l) k=if e.1=k then e.2 else lastOf l k:=by
 unfold lastOf
 rw[List.find?_cons]
 by_cases z:e.1=k
 · rw[qZ_ z,if_pos z];rfl
 · rw[qa_ z,if_neg z]
theorem xM(l:List (Nat×Nat))(j p k:Nat):lastOf (l.map fun e=>if e.1=j then (e.1,p)else e) k=if k=j/\(l.any fun e=>decide (e.1=j))=true then p else lastOf l k:=by
 induction l with
 |nil=>simp [pR]
 |cons e r ih=>
  rw[List.map_cons,fG,fG,ih,List.any_cons]
  by_cases z:e.1=j
  · rw[if_pos z,qZ_ z]
    dsimp only
    by_cases w:e.1=k
    · rw[if_pos w,if_pos ⟨by omega,by simp⟩]
    · rw[if_neg w,if_neg w,if_neg (by omega),if_neg (by omega)]
  · rw[if_neg z,qa_ z,Bool.false_or]
    by_cases w:e.1=k
    · rw[if_pos w,if_pos w,if_neg (by omega)]
    · rw[if_neg w,if_neg w]
theorem xk(l:List (Nat×Nat))(j p k:Nat)(h:(l.any fun e=>decide (e.1=j))=false):lastOf (l++[(j,p)]) k=if k=j then p else lastOf l k:=by
 induction l with
 |nil=>
  rw[qc_,fG,pR]
  by_cases z:k=j
  · rw[if_pos z.symm,if_pos z]
  · rw[if_neg (Ne.symm z),if_neg z]
 |cons e r ih=>
  rw[List.any_cons,Bool.or_eq_false_iff]at h
  rw[List.cons_append,fG,fG,ih h.2]
  have hz:=of_decide_eq_false h.1
  by_cases w:e.1=k
  · rw[if_pos w,if_pos w,if_neg (by omega)]
  · rw[if_neg w,if_neg w]
theorem xr(l:List (Nat×Nat))(j p k:Nat):lastOf (putL l j p) k=if k=j then p else lastOf l k:=by
 unfold putL
 cases h:(l.any fun e=>decide (e.1=j))with
 |true=>
  rw[if_pos rfl,xM,h]
  by_cases z:k=j
  · rw[if_pos ⟨z,rfl⟩,if_pos z]
  · rw[if_neg (by omega),if_neg z]
 |false=>
  rw[if_neg qC_]
  exact xk l j p k h
def DS(p:Nat):D:= .int (p:Int)
section
variable{G G':Hh}{Q:D->Hh->Prop}{E:Nat->Hh->Prop}{σ:St}{y:Sy}{QA:List D->Hh->Prop}
theorem Jg(n:Nat):rng 0 n=(List.range n).map DS:=Je n
theorem Ig{ws:List Wk}{lw:Nat}{p:Nat}{w:Wk}(hw:G[lw]? =some (.lst (ws.map lQ)))(hp:ws[p]? =some w)(h:Q (lQ w) G):M3.run (oIx (.ref lw) (DS p)) G Q E:=by
 unfold DS
 with_reducible exact cP hw (g8 hp) h
end
section
variable{G G':Hh}{Q:D->Hh->Prop}{E:Nat->Hh->Prop}{σ:St}{y:Sy}
theorem BL(ns:List Int)(a b:Nat):∃ms:List Int,cutD (ns.map D.int) (some (a:Int)) (some (b:Int))=ms.map D.int/\ms.length<=b - a:=by
 unfold cutD
 refine⟨(ns.drop (sIx (ns.map D.int).length 0 (some (a:Int)))).take (sIx (ns.map D.int).length (ns.map D.int).length (some (b:Int)) - sIx (ns.map D.int).length 0 (some (a:Int))),?_,?_⟩
 · rw[List.map_take,List.map_drop]
 · rw[List.length_take,List.length_drop,qM_]
   unfold sIx
   dsimp only
   rw[if_neg (by omega),if_neg (by omega)]
   omega
theorem Fi{n:Nat}{xs:List D}{lo hi:Option Int}(hn:G[n]? =some (.frz xs))(h:∀G',Chg [] G G'->G'.length=G.length+1->G'[G.length]? =some (.lst (cutD xs lo hi))->Q (.ref G.length) G'):M3.run (oSl (.ref n) lo hi) G Q E:=
 IF hn (h _ (Chg.add _ _) (by simp) (aZ _ _))
theorem Hg{n:Nat}{xs:List D}(h:G[n]? =some (.lst xs)):kdOf G (.ref n)=some .lst:=by
 unfold kdOf
 dsimp only
 rw[h]
theorem vR{xs:List Int}{v:Int}(h:v∈xs)(hx:∀x∈xs,1<=x/\x<=9):∃c:Nat,v=(c:Int)/\0 < c/\c<=9:=by
 obtain⟨h1,h2⟩:=hx v h
 exact⟨v.toNat,by omega,by omega,by omega⟩
end
section
variable{G G':Hh}{Q:D->Hh->Prop}{E:Nat->Hh->Prop}{σ:St}{y:Sy}{QS:Fl×St->Hh->Prop}
theorem DV{k:Nat}{a b:Str}:eqG G (k+1) (.str a) (.str b)=some (decide (a=b)):=rfl
end
theorem iV{a b:Int×Int}:gtS a b=true↔b.1 < a.1\/(b.1=a.1/\b.2 < a.2):=by
 unfold gtS
 simp only[oX]
 by_cases h:b.1=a.1
 · rw[if_pos h]
   by_cases h2:b.2=a.2
   · rw[if_pos h2];simp;omega
   · rw[if_neg h2,decide_eq_true_eq];omega
 · rw[if_neg h,decide_eq_true_eq];omega
theorem mG(a:Int×Int):gtS a a=false:=by
 cases h:gtS a a with
 |false=>rfl
 |true=>have:=iV.mp h;omega
theorem zF{a b c:Int×Int}(h:gtS a b=true)(g:gtS b c=true):gtS a c=true:=by
 have h:=iV.mp h
 have g:=iV.mp g
 exact iV.mpr (by omega)
theorem xV:∀(r:List Int) (m:Int),m<=jz m r/\∀x∈r,x<=jz m r
 | [],m=>⟨Int.le_refl _,by simp⟩
 |x :: r,m=>by
  obtain⟨h1,h2⟩:=xV r (if x > m then x else m)
  show m<=jz (if x > m then x else m) r/\∀z∈x :: r,z<=jz (if x > m then x else m) r
  have e:m<=(if x > m then x else m)/\x<=(if x > m then x else m):=by split <;> omega
  refine⟨by omega,fun z hz=>?_⟩
  rcases qS_.mp hz with rfl |hz
  · omega
  · exact h2 z hz
theorem DP{ps:List Pr}{own:Int}:(∀p∈ps,p.1.1<=nH ps own)/\own<=nH ps own:=by
 have key:∀x∈turns ps++[own],x<=nH ps own:=by
  intro x hx
  unfold nH
  split
  · rename_i m r e
    rw[e]at hx
    obtain⟨h1,h2⟩:=xV r m
    rcases qS_.mp hx with rfl |hx
    · exact h1
    · exact h2 x hx
  · rename_i e
    simp at e
 exact⟨fun p hp=>key _ (qF_ _ (qH_.mpr ⟨p,hp,rfl⟩)),key own (by simp)⟩
theorem yo{sel:Hl->Option Nat}(hs:Sel sel)(P:Hl->List (Nat×Pr)->Prop)(step:∀st es p,WF st->sel st=some p->P st es->P (aL st p false).1 (es++(aL st p false).2)):
 ∀(n:Nat) (st:Hl) (es:List (Nat×Pr)),mea st<=n->WF st->P st es->WF (bY sel st).1/\P (bY sel st).1 (es++(bY sel st).2)/\sel (bY sel st).1=none:=by
 intro n
 induction n with
 |zero=>
  intro st es hm W h
  cases q:sel st with
  |none=>
   rw[cu q,qY_]
   exact⟨W,h,q⟩
  |some p=>have:=bM W (hs st p q);omega
 |succ n ih=>
  intro st es hm W h
  cases q:sel st with
  |none=>
   rw[cu q,qY_]
   exact⟨W,h,q⟩
  |some p=>
   have h1:=bM W (hs st p q)
   rw[iD hs W q,<-List.append_assoc]
   exact ih _ _ (by omega) (gR W p false) (step st es p W q h)
theorem wU{st:Hl}(h:aR st=none):st.row=[]:=by
 unfold aR at h
 split at h
 · assumption
 · cases h
theorem set_same{α:Type}{xs:List α}{i:Nat}{x:α}(h:xs[i]? =some x):xs.set i x=xs:=by
 apply List.ext_getElem?
 intro j
 rw[qJ_]
 split
 · rename_i e
   subst e
   split
   · exact h.symm
   · rename_i z
     have:=(qB_.mp h).1
     exact absurd this z
 · rfl
section
variable{ks0:List Kr}{hs0:List Hd}{j:Nat}{r:Int}{vo:Option Int}{P0:Pr}
theorem uT{h:Hd}{l:Lt}(z:h.atw=false\/l.num≠h.rnd):aM h l=(h,[],none):=by
 unfold aM
 rw[if_pos]
 rcases z with z |z
 · rw[z];rfl
 · rw[qa_ z];simp
theorem AB{h:Hd}{l:Lt}(ha:h.atw=true)(hn:l.num=h.rnd)(hs:¬h.cnt < (aX h.ar l.kpr l.pair).length*2):aM h l=({h with ar:=aX h.ar l.kpr l.pair},[],none):=by
 unfold aM
 rw[if_neg (by rw[ha,qZ_ hn];decide)]
 dsimp only
 rw[if_pos (by rw[qa_ hs];rfl)]
theorem vS{h:Hd}{l:Lt}(ha:h.atw=true)(hn:l.num=h.rnd)(hs:h.cnt < (aX h.ar l.kpr l.pair).length*2)(hp:h.pair=none):
 aM h l=(roundF (bp {h with ar:=aX h.ar l.kpr l.pair} (vals (aX h.ar l.kpr l.pair))).1 (some (bp {h with ar:=aX h.ar l.kpr l.pair} (vals (aX h.ar l.kpr l.pair))).2),bo (roundF (bp {h with ar:=aX h.ar l.kpr l.pair} (vals (aX h.ar l.kpr l.pair))).1 (some (bp {h with ar:=aX h.ar l.kpr l.pair} (vals (aX h.ar l.kpr l.pair))).2)),none):=by
 unfold aM
 rw[if_neg (by rw[ha,qZ_ hn];decide)]
 dsimp only
 rw[if_neg (by rw[qZ_ hs];decide),hp]
theorem CC{h:Hd}{l:Lt}{P:Pr}(ha:h.atw=true)(hn:l.num=h.rnd)(hs:h.cnt < (aX h.ar l.kpr l.pair).length*2)(hp:h.pair=some P):
 aM h l=({h with ar:=aX h.ar l.kpr l.pair,atw:=false},[],some P):=by
 unfold aM
 rw[if_neg (by rw[ha,qZ_ hn];decide)]
 dsimp only
 rw[if_neg (by rw[qZ_ hs];decide),hp]
end
inductive wA (a:Hl) (p:Pr):Prop
 |k (k:Kr) (h:k∈a.ks) (e:k.pair=p)
 |r (x:Bool×Lt) (h:x∈a.row) (e:x.2.pair=some p)
 |h (j:Nat) (g:Hd) (h:a.hs[j]? =some g) (e:g.pair=some p)
 |d (j:Nat) (g:Hd) (h:a.hs[j]? =some g) (x:Nat×Option Pr) (hx:x∈g.ar) (e:x.2=some p)
def yi(a:Hl)(q:Pr):Prop:=∃(j:Nat) (h:Hd),a.hs[j]? =some h/\h.pair=some q/\h.val=some q.2/\q.1=(h.own,(j:Int))
def HGo(j:Nat)(h h':Hd):Prop:=h'.val=h.val/\((h'.pair=h.pair/\h'.own=h.own)\/(h.pair=none/\∃q,h'.pair=some q/\match h.val with
 |none=>h'.own=h.own
 |some v=>h.own < h'.own/\q=((h'.own,(j:Int)),v)))
theorem HGo.refl(j:Nat)(h:Hd):HGo j h h:=⟨rfl,.inl ⟨rfl,rfl⟩⟩
theorem HGo.trans{j:Nat}{a b c:Hd}(h:HGo j a b)(g:HGo j b c):HGo j a c:=by
 obtain⟨v1,h⟩:=h
 obtain⟨v2,g⟩:=g
 refine⟨v2.trans v1,?_⟩
 rcases g with ⟨g1,g2⟩ |⟨g1,q,g2,g3⟩
 · rcases h with ⟨h1,h2⟩ |⟨h1,q,h2,h3⟩
   · exact .inl ⟨g1.trans h1,g2.trans h2⟩
   · refine .inr ⟨h1,q,g1.trans h2,?_⟩
     revert h3
     cases a.val with
     |none=>intro h3;exact g2.trans h3
     |some v=>intro h3;rw[g2];exact h3
 · rcases h with ⟨h1,h2⟩ |⟨h1,q',h2,h3⟩
   · refine .inr ⟨h1.symm.trans g1,q,g2,?_⟩
     rw[v1]at g3
     revert g3
     cases a.val with
     |none=>intro g3;exact g3.trans h2
     |some v=>intro g3;rw[<-h2];exact g3
   · rw[h2]at g1
     cases g1
structure Evo (a b:Hl):Prop where
 hl:b.hs.length=a.hs.length
 go:∀(j:Nat) h h',a.hs[j]? =some h->b.hs[j]? =some h'->HGo j h h'
 pr:∀q,wA b q->wA a q\/q=start\/yi b q
theorem Evo.refl(a:Hl):Evo a a:=⟨rfl,fun j h h' e e'=>by rw[e]at e';cases e';exact HGo.refl j h,fun q h=>.inl h⟩
theorem Evo.get{a b:Hl}(E:Evo a b){j:Nat}{h':Hd}(e:b.hs[j]? =some h'):∃h,a.hs[j]? =some h/\HGo j h h':=by
 have hj:=(qB_.mp e).1
 have e0:a.hs[j]? =some (a.hs[j]'(by rw[<-E.hl];exact hj)):=qA_ _
 exact⟨_,e0,E.go j _ _ e0 e⟩
theorem Evo.get'{a b:Hl}(E:Evo a b){j:Nat}{h:Hd}(e:a.hs[j]? =some h):∃h',b.hs[j]? =some h'/\HGo j h h':=by
 have hj:=(qB_.mp e).1
 have e0:b.hs[j]? =some (b.hs[j]'(by rw[E.hl];exact hj)):=qA_ _
 exact⟨_,e0,E.go j _ _ e e0⟩
theorem HGo.keeps{j:Nat}{h h':Hd}(g:HGo j h h'){q:Pr}(e:h.pair=some q):h'.pair=some q/\h'.own=h.own/\h'.val=h.val:=by
 rcases g.2 with ⟨a,b⟩ |⟨a,_⟩
 · exact⟨a.trans e,b,g.1⟩
 · rw[e]at a;cases a
theorem Evo.fresh{a b:Hl}(E:Evo a b){q:Pr}(F:yi a q):yi b q:=by
 obtain⟨j,h,e,h1,h2,h3⟩:=F
 obtain⟨h',e',g⟩:=E.get' e
 obtain⟨k1,k2,k3⟩:=g.keeps h1
 exact⟨j,h',e',k1,k3.trans h2,by rw[k2];exact h3⟩
theorem Evo.trans{a b c:Hl}(E:Evo a b)(F:Evo b c):Evo a c:=by
 refine⟨F.hl.trans E.hl,fun j h h' e e'=>?_,fun q hq=>?_⟩
 · obtain⟨m,em,g⟩:=E.get' e
   exact g.trans (F.go j m h' em e')
 · rcases F.pr q hq with z |z |z
   · rcases E.pr q z with w |w |w
     · exact .inl w
     · exact .inr (.inl w)
     · exact .inr (.inr (F.fresh w))
   · exact .inr (.inl z)
   · exact .inr (.inr z)
theorem zB(ps:List Pr):∀b:Pr,ps.foldl better b=b\/ps.foldl better b∈ps:=by
 induction ps with
 |nil=>intro b;exact .inl rfl
 |cons p r ih=>
  intro b
  show r.foldl better (better b p)=b\/_∈p :: r
  rcases ih (better b p)with h |h
  · show r.foldl better (better b p)=b\/r.foldl better (better b p)∈p :: r
    rw[h]
    by_cases z:gtS p.1 b.1=true
    · have e:better b p=p:=if_pos z
      rw[e]
      exact .inr qI_
    · exact .inl (if_neg z)
  · exact .inr (qR_ _ h)
theorem B8{l:List (Nat×Option Pr)}{p:Pr}(h:p∈vals l):∃x∈l,x.2=some p:=by
 unfold vals at h
 obtain⟨x,hx,e⟩:=List.mem_filterMap.mp h
 exact⟨x,hx,e⟩
theorem Ee{j:Nat}{h:Hd}(hn:h.num=j)(l:Lt):HGo j h (aM h l).1/\
 (∀p,(aM h l).1.pair=some p->h.pair=some p\/p=start\/(∃x∈h.ar,x.2=some p)\/l.pair=some p\/((aM h l).1.val=some p.2/\p.1=((aM h l).1.own,(j:Int))))/\
 (∀x∈(aM h l).1.ar,x∈h.ar\/x.2=l.pair)/\(∀x∈(aM h l).2.1,x.pair=(aM h l).1.pair)/\(∀p,(aM h l).2.2=some p->(aM h l).1.pair=some p):=by
 by_cases z:h.atw=false\/l.num≠h.rnd
 · rw[uT z]
   exact⟨HGo.refl j h,fun p e=>.inl e,fun x hx=>.inl hx,fun x hx=>(by cases hx),fun p e=>by cases e⟩
 have za:h.atw=true:=by
  cases q:h.atw with
  |true=>rfl
  |false=>exact absurd (.inl q) z
 have zn:l.num=h.rnd:=Classical.byContradiction fun q=>z (.inr q)
 have hm:∀x∈aX h.ar l.kpr l.pair,x∈h.ar\/x.2=l.pair:=fun x hx=>by
  rcases mQ hx with w |w
  · exact .inr w.2
  · exact .inl w
 by_cases big:h.cnt < (aX h.ar l.kpr l.pair).length*2
 · cases hp:h.pair with
   |some P=>
    rw[CC za zn big hp]
    exact⟨⟨rfl,.inl ⟨rfl,rfl⟩⟩,fun p e=>.inl (hp.symm.trans e),hm,fun x hx=>(by cases hx),fun p e=>by cases e;exact hp⟩
   |none=>
    have hvv:h.val=none\/∃v,h.val=some v:=by
     cases h.val with
     |none=>exact .inl rfl
     |some v=>exact .inr ⟨v,rfl⟩
    rcases hvv with hv |⟨v,hv⟩
    · have ec:bp {h with ar:=aX h.ar l.kpr l.pair} (vals (aX h.ar l.kpr l.pair))=({h with ar:=aX h.ar l.kpr l.pair},pf (vals (aX h.ar l.kpr l.pair))):=by
       unfold bp
       show (match h.val with |none=>_ |some v=>_)=_
       rw[hv]
      rw[vS za zn big hp,ec]
      refine⟨⟨rfl,.inr ⟨hp,_,rfl,?_⟩⟩,fun p e=>?_,fun x hx=>(by cases hx),fun x hx=>?_,fun p e=>by cases e⟩
      · rw[hv]
        rfl
      · have e:some (pf (vals (aX h.ar l.kpr l.pair)))=some p:=e
        cases e
        rcases zB (vals (aX h.ar l.kpr l.pair)) start with w |w
        · exact .inr (.inl w)
        · obtain⟨x,hx,ex⟩:=B8 w
          rcases hm x hx with u |u
          · exact .inr (.inr (.inl ⟨x,u,ex⟩))
          · exact .inr (.inr (.inr (.inl (u.symm.trans ex))))
      · obtain⟨k,_,rfl⟩:=qH_.mp hx
        rfl
    · have ec:bp {h with ar:=aX h.ar l.kpr l.pair} (vals (aX h.ar l.kpr l.pair))=({h with ar:=aX h.ar l.kpr l.pair,own:=nH (vals (aX h.ar l.kpr l.pair)) h.own+1},((nH (vals (aX h.ar l.kpr l.pair)) h.own+1,(h.num:Int)),v)):=by
       unfold bp
       show (match h.val with |none=>_ |some v=>_)=_
       rw[hv]
      rw[vS za zn big hp,ec]
      subst hn
      refine⟨⟨rfl,.inr ⟨hp,_,rfl,?_⟩⟩,fun p e=>?_,fun x hx=>(by cases hx),fun x hx=>?_,fun p e=>by cases e⟩
      · rw[hv]
        have:=(DP (ps:=vals (aX h.ar l.kpr l.pair)) (own:=h.own)).2
        refine⟨?_,rfl⟩
        show h.own < nH _ h.own+1
        omega
      · have e:some ((nH (vals (aX h.ar l.kpr l.pair)) h.own+1,(h.num:Int)),v)=some p:=e
        cases e
        exact .inr (.inr (.inr (.inr ⟨hv,rfl⟩)))
      · obtain⟨k,_,rfl⟩:=qH_.mp hx
        rfl
 · rw[AB za zn big]
   exact⟨⟨rfl,.inl ⟨rfl,rfl⟩⟩,fun p e=>.inl e,hm,fun x hx=>(by cases hx),fun p e=>by cases e⟩
theorem vi(k:Kr)(l:Lt):((bB k l).1.pair=k.pair\/l.pair=some (bB k l).1.pair)/\∀x,(bB k l).2=some x->x.pair=none\/x.pair=some k.pair:=by
 unfold bB
 split
 · split
   · exact⟨.inl rfl,fun x e=>by cases e;exact .inr rfl⟩
   · rename_i p hp
     refine⟨?_,fun x e=>by cases e;exact .inl rfl⟩
     unfold uM
     split
     · exact .inr hp
     · exact .inl rfl
 · exact⟨.inl rfl,fun x e=>by cases e⟩
theorem vL{a:Hl}(W:WF a)(p:Nat)(s:Bool):Evo a (aL a p s).1/\∀e∈(aL a p s).2,∃h,(aL a p s).1.hs[e.1]? =some h/\h.pair=some e.2:=by
 unfold aL
 cases hr:a.row[p]? with
 |none=>exact⟨Evo.refl a,fun e he=>by cases he⟩
 |some e=>
  have hm:e∈a.row:=qD_ hr
  obtain⟨b,l⟩:=e
  cases b with
  |false=>
   dsimp only
   cases hk:a.ks[l.kpr]? with
   |none=>exact⟨Evo.refl a,fun e he=>by cases he⟩
   |some k=>
    dsimp only
    obtain⟨p1,p2⟩:=vi k l
    have kin:=qD_ hk
    refine⟨⟨rfl,fun j h h' e e'=>by have e':a.hs[j]? =some h':=e';rw[e]at e';cases e';exact HGo.refl j h,fun q hq=>.inl ?_⟩,fun e he=>by cases he⟩
    cases hq with
    |k x hx e=>
     rcases List.mem_or_eq_of_mem_set hx with w |w
     · exact .k x w e
     · subst w
       rcases p1 with z |z
       · exact .k k kin (z.symm.trans e)
       · exact .r _ hm (by rw[<-e];exact z)
    |r x hx e=>
     rcases qG_.mp hx with w |w
     · exact .r x (pj w) e
     · revert w
       cases hz:(bB k l).2 with
       |none=>intro w;cases w
       |some u=>
        intro w
        simp at w
        subst w
        rcases p2 u hz with z |z
        · have e:u.pair=some q:=e
          rw[z]at e;cases e
        · have e:u.pair=some q:=e
          rw[z]at e
          cases e
          exact .k k kin rfl
    |h j g h e=>exact .h j g h e
    |d j g h x hx e=>exact .d j g h x hx e
  |true=>
   dsimp only
   cases hh:a.hs[l.hand]? with
   |none=>exact⟨Evo.refl a,fun e he=>by cases he⟩
   |some h=>
    dsimp only
    have hn:h.num=l.hand:=(W.hk _ h hh).1
    have hlt:=(qB_.mp hh).1
    obtain⟨g1,g2,g3,g4,g5⟩:=Ee hn l
    have get:∀i,(a.hs.set l.hand (aM h l).1)[i]? =if i=l.hand then some (aM h l).1 else a.hs[i]?:=fun i=>by
     rw[qJ_]
     by_cases z:l.hand=i
     · rw[if_pos z,if_pos z.symm,if_pos hlt]
     · rw[if_neg z,if_neg (fun q=>z q.symm)]
    have self:(a.hs.set l.hand (aM h l).1)[l.hand]? =some (aM h l).1:=by rw[get,if_pos rfl]
    have newp:∀q,(aM h l).1.pair=some q->wA a q\/q=start\/yi {a with hs:=a.hs.set l.hand (aM h l).1,row:=cO a p s++(aM h l).2.1.map fun x=>(false,x)} q:=fun q e=>by
     rcases g2 q e with z |z |⟨x,hx,z⟩ |z |⟨z1,z2⟩
     · exact .inl (.h l.hand h hh z)
     · exact .inr (.inl z)
     · exact .inl (.d l.hand h hh x hx z)
     · exact .inl (.r _ hm z)
     · exact .inr (.inr ⟨l.hand,(aM h l).1,self,e,z1,z2⟩)
    refine⟨⟨by rw[qX_],fun j g g' e e'=>?_,fun q hq=>?_⟩,fun e he=>?_⟩
    · have e2:(a.hs.set l.hand (aM h l).1)[j]? =some g':=e'
      rw[get]at e2
      by_cases z:j=l.hand
      · rw[if_pos z]at e2
        subst z
        rw[hh]at e
        cases e
        have e2:=Option.some.inj e2
        rw[<-e2]
        exact g1
      · rw[if_neg z,e]at e2
        cases e2
        exact HGo.refl j g
    · cases hq with
      |k x hx e=>exact .inl (.k x hx e)
      |r x hx e=>
       rcases qG_.mp hx with w |w
       · exact .inl (.r x (pj w) e)
       · obtain⟨u,hu,rfl⟩:=qH_.mp w
         exact newp q ((g4 u hu).symm.trans e)
      |h j g h' e=>
       have h':(a.hs.set l.hand (aM h l).1)[j]? =some g:=h'
       rw[get]at h'
       split at h'
       · cases h'
         exact newp q e
       · exact .inl (.h j g h' e)
      |d j g h' x hx e=>
       have h':(a.hs.set l.hand (aM h l).1)[j]? =some g:=h'
       rw[get]at h'
       split at h'
       · cases h'
         rcases g3 x hx with z |z
         · exact .inl (.d l.hand h hh x z e)
         · exact .inl (.r _ hm (z.symm.trans e))
       · exact .inl (.d j g h' x hx e)
    · revert he
      cases hz:(aM h l).2.2 with
      |none=>intro he;cases he
      |some P=>
       intro he
       simp at he
       subst he
       exact⟨_,self,g5 P hz⟩
theorem yr{sel:Hl->Option Nat}(hs:Sel sel){a:Hl}(W:WF a):Evo a (bY sel a).1/\∀e∈(bY sel a).2,∃h,(bY sel a).1.hs[e.1]? =some h/\h.pair=some e.2:=by
 obtain⟨_,h,_⟩:=yo hs (fun st es=>Evo a st/\∀e∈es,∃h,st.hs[e.1]? =some h/\h.pair=some e.2) (fun st es p W hsel ⟨E,h⟩=>by
  obtain⟨E1,h1⟩:=vL W p false
  refine⟨E.trans E1,fun e he=>?_⟩
  rcases qG_.mp he with z |z
  · obtain⟨g,e1,e2⟩:=h e z
    obtain⟨g',e3,go⟩:=E1.get' e1
    exact⟨g',e3,(go.keeps e2).1⟩
  · exact h1 e z) (mea a) a [] (qO_ _) W ⟨Evo.refl a,fun e he=>by cases he⟩
 rw[qc_]at h
 exact h
theorem v8{hs:List Hd}:∀{l:List (Nat×Nat)} {q:Nat} {s:Int×Int},asg hs l q=some s->∃e∈l,e.2=q/\((hs[e.1]?).bind (·.pair)).map (·.1)=some s
 | [],q,s,h=>by cases h
 |e :: r,q,s,h=>by
  unfold asg at h
  cases hr:asg hs r q with
  |some t=>
   rw[hr]at h
   cases h
   obtain⟨x,hx,h1,h2⟩:=v8 hr
   exact⟨x,qR_ _ hx,h1,h2⟩
  |none=>
   rw[hr]at h
   dsimp only at h
   split at h
   · rename_i z
     exact⟨e,qI_,z,h⟩
   · cases h
theorem uA{hs:List Hd}:∀{l:List (Nat×Nat)} {q:Nat},asg hs l q=none->∀e∈l,e.2=q->(hs[e.1]?).bind (·.pair)=none
 | [],q,h,e,he,_=>by cases he
 |x :: r,q,h,e,he,hq=>by
  unfold asg at h
  cases hr:asg hs r q with
  |some t=>rw[hr]at h;cases h
  |none=>
   rw[hr]at h
   dsimp only at h
   rcases qS_.mp he with rfl |he
   · rw[if_pos hq]at h
     cases hz:(hs[e.1]?).bind (·.pair)with
     |none=>rfl
     |some p=>rw[hz]at h;cases h
   · exact uA hr e he hq
theorem BZ(y:Sy)(e:Nat×Pr)(p:Nat)(w':Wk)(h:(lI y e).ah[p]? =some w'):∃w,y.ah[p]? =some w/\w'.hand=w.hand/\w'.rd=w.rd/\w'.bG=w.bG/\w'.beg=w.beg/\(w'=w\/(p=lastOf y.last e.1/\w'.val=some e.2.2/\w'.en=some y.aQ)):=by
 unfold lI g7 at h
 cases hw:y.ah[lastOf y.last e.1]? with
 |none=>rw[hw]at h;exact⟨w',h,rfl,rfl,rfl,rfl,.inl rfl⟩
 |some u=>
  rw[hw]at h
  dsimp only at h
  rw[qJ_]at h
  split at h
  · rename_i z
    split at h
    · cases h
      exact⟨u,by rw[<-z];exact hw,rfl,rfl,rfl,rfl,.inr ⟨z.symm,rfl,rfl⟩⟩
    · cases h
  · exact⟨w',h,rfl,rfl,rfl,rfl,.inl rfl⟩
theorem oh:∀(es:List (Nat×Pr)) (y:Sy) (p:Nat) (w':Wk),(bK y es).ah[p]? =some w'->∃w,y.ah[p]? =some w/\w'.hand=w.hand/\w'.rd=w.rd/\w'.bG=w.bG/\w'.beg=w.beg/\((w'.val=w.val/\w'.en=w.en)\/∃e∈es,p=lastOf y.last e.1/\w'.val=some e.2.2/\w'.en=some y.aQ)
 | [],y,p,w',h=>⟨w',h,rfl,rfl,rfl,rfl,.inl ⟨rfl,rfl⟩⟩
 |e :: r,y,p,w',h=>by
  obtain⟨w1,h1,a1,a2,a3,a4,a5⟩:=oh r (lI y e) p w' h
  obtain⟨q1,q2,q3,q4⟩:=mw y (lastOf y.last e.1) (AE y e.2)
  have q1:(lI y e).last=y.last:=q1
  have q3:(lI y e).aQ=y.aQ:=q3
  obtain⟨w,h2,b1,b2,b3,b4,b5⟩:=BZ y e p w1 h1
  refine⟨w,h2,a1.trans b1,a2.trans b2,a3.trans b3,a4.trans b4,?_⟩
  rcases a5 with ⟨c1,c2⟩ |⟨x,hx,c1,c2,c3⟩
  · rcases b5 with rfl |⟨d1,d2,d3⟩
    · exact .inl ⟨c1,c2⟩
    · exact .inr ⟨e,qI_,d1,c1.trans d2,c2.trans d3⟩
  · exact .inr ⟨x,qR_ _ hx,by rw[<-q1];exact c1,c2,by rw[<-q3];exact c3⟩
def E0(ws:List Wk)(q:Pr):Prop:=q=start\/∃(p:Nat) (w:Wk),ws[p]? =some w/\w.rd=false/\w.bG=some q.1/\w.val=some q.2
structure Md (y:Sy):Prop where
 hp:∀q,wA y.af q->E0 y.ah q
 lk:∀(j p:Nat) (h:Hd),y.af.hs[j]? =some h->(j,p)∈y.last->∃w,y.ah[p]? =some w/\w.hand=j/\w.rd=h.val.isNone/\(∀v,h.val=some v->w.val=some v)/\w.bG=h.pair.map (·.1)
 vl:∀(j:Nat) h v,y.af.hs[j]? =some h->h.val=some v->∃p,(j,p)∈y.last
 fr:∀(j:Nat) h v q,y.af.hs[j]? =some h->h.val=some v->h.pair=some q->q=((h.own,(j:Int)),v)
 un:∀(p:Nat) w t,y.ah[p]? =some w->w.rd=false->w.bG=some t->t.2=(w.hand:Int)/\1<=t.1/\∃h,y.af.hs[w.hand]? =some h/\t.1<=h.own
 ow:∀(j:Nat) h,y.af.hs[j]? =some h->0<=h.own
 ds:∀(p p':Nat) w w' t,y.ah[p]? =some w->y.ah[p']? =some w'->w.rd=false->w'.rd=false->w.bG=some t->w'.bG=some t->p=p'
theorem rW{l:List (Nat×Nat)}(nd:(l.map (·.1)).Nodup){j p p':Nat}(h:(j,p)∈l)(h':(j,p')∈l):p=p':=by
 induction l with
 |nil=>cases h
 |cons e r ih=>
  rw[List.map_cons,List.nodup_cons]at nd
  rcases qS_.mp h with a |a
  · rcases qS_.mp h' with b |b
    · rw[<-a]at b;cases b;rfl
    · exact absurd (qH_.mpr ⟨_,b,by rw[<-a]⟩) nd.1
  · rcases qS_.mp h' with b |b
    · exact absurd (qH_.mpr ⟨_,a,by rw[<-b]⟩) nd.1
    · exact ih nd.2 a b
theorem HGo.own{j:Nat}{h h':Hd}(g:HGo j h h'):h.own<=h'.own:=by
 rcases g.2 with ⟨_,b⟩ |⟨_,q,_,b⟩
 · omega
 · revert b
   cases h.val with
   |none=>intro b;have b:h'.own=h.own:=b;omega
   |some v=>intro b;have:=b.1;omega
theorem Md.step{y:Sy}(M:Md y)(S:SWF y){b:Hl}{es:List (Nat×Pr)}(E:Evo y.af b)(he:∀e∈es,(∃h,b.hs[e.1]? =some h/\h.pair=some e.2)/\e.1∈y.last.map (·.1)):Md (aK (endsF y (b,es))):=by
 obtain⟨n1,n2,n3,n4⟩:=fH es (aG y b)
 obtain⟨s1,s2,s3,s4⟩:=cA (bK (aG y b) es).last (bK (aG y b) es)
 have eh:(aK (endsF y (b,es))).af=b:=s2.trans n2
 have el:(aK (endsF y (b,es))).last=y.last:=s1.trans n1
 have nl:(bK (aG y b) es).last=y.last:=n1
 have nh:(bK (aG y b) es).af.hs=b.hs:=by rw[n2];rfl
 have frN:∀(j:Nat) h v q,b.hs[j]? =some h->h.val=some v->h.pair=some q->q=((h.own,(j:Int)),v):=fun j h' v q e hv hq=>by
  obtain⟨h,e0,g1,g2⟩:=E.get e
  rcases g2 with ⟨a1,a2⟩ |⟨a1,q',a2,a3⟩
  · rw[a2]
    exact M.fr j h v q e0 (g1.symm.trans hv) (a1.symm.trans hq)
  · rw[<-g1,hv]at a3
    rw[hq]at a2
    cases a2
    exact a3.2
 have wk:∀(p:Nat) w2,(aK (endsF y (b,es))).ah[p]? =some w2->∃w,y.ah[p]? =some w/\w2.hand=w.hand/\w2.rd=w.rd/\(w2.bG=w.bG\/∃j h q,(j,p)∈y.last/\b.hs[j]? =some h/\h.pair=some q/\w2.bG=some q.1)/\(w.rd=false->w2.val=w.val)/\(∀j h q,(j,p)∈y.last->b.hs[j]? =some h->h.pair=some q->w2.bG=some q.1):=fun p w2 h2=>by
  have h2':((bK (aG y b) es).last.foldl aT (bK (aG y b) es)).ah[p]? =some w2:=h2
  rw[eA,nl,nh]at h2'
  cases hw1:(bK (aG y b) es).ah[p]? with
  |none=>rw[hw1]at h2';cases h2'
  |some w1=>
   rw[hw1]at h2'
   have h2':app (asg b.hs y.last p) w1=w2:=Option.some.inj h2'
   obtain⟨w,hw,a1,a2,a3,a4,a5⟩:=oh es (aG y b) p w1 hw1
   have hw:y.ah[p]? =some w:=hw
   have vv:w.rd=false->w1.val=w.val:=fun hr=>by
    rcases a5 with a5 |⟨e,hem,c1,c2,_⟩
    · exact a5.1
    · obtain⟨⟨h',e1,e2⟩,hin⟩:=he e hem
      have c1:p=lastOf y.last e.1:=c1
      have hl:(e.1,p)∈y.last:=by rw[c1];exact iZ hin
      obtain⟨h,e0,g⟩:=E.get e1
      obtain⟨w0,hw0,b1,b2,b3,b4⟩:=M.lk e.1 p h e0 hl
      rw[hw]at hw0
      cases hw0
      cases hv:h.val with
      |none=>rw[hr,hv]at b2;cases b2
      |some v=>
       rw[c2,b3 v hv]
       have:=frN e.1 h' v e.2 e1 (g.1.trans hv) e2
       rw[this]
   have pairS:∀s,asg b.hs y.last p=some s->∃j h q,(j,p)∈y.last/\b.hs[j]? =some h/\h.pair=some q/\s=q.1:=fun s hs=>by
    obtain⟨e,hem,e2,e3⟩:=v8 hs
    cases hh:b.hs[e.1]? with
    |none=>rw[hh]at e3;cases e3
    |some h=>
     rw[hh]at e3
     cases hq:h.pair with
     |none=>
      have e3:(h.pair).map (·.1)=some s:=e3
      rw[hq]at e3;cases e3
     |some q=>
      have e3:(h.pair).map (·.1)=some s:=e3
      rw[hq]at e3
      have e3:q.1=s:=Option.some.inj e3
      exact⟨e.1,h,q,by rw[<-e2];exact hem,hh,hq,e3.symm⟩
   have sameHand:∀j,(j,p)∈y.last->w.hand=j:=fun j hj=>by
    obtain⟨c1,c2⟩:=S.la _ hj
    have hh:y.af.hs[j]? =some (y.af.hs[j]'c1):=qA_ _
    obtain⟨w0,hw0,b1,_⟩:=M.lk j p _ hh hj
    rw[hw]at hw0
    cases hw0
    exact b1
   refine⟨w,hw,?_,?_,?_,fun hr=>?_,fun j h q hj hh hq=>?_⟩
   · rw[<-h2']
     unfold app
     split <;> exact a1
   · rw[<-h2']
     unfold app
     split <;> exact a2
   · cases hs:asg b.hs y.last p with
     |none=>
      rw[hs]at h2'
      rw[<-h2']
      exact .inl a3
     |some s=>
      rw[hs]at h2'
      obtain⟨j,h,q,c1,c2,c3,c4⟩:=pairS s hs
      exact .inr ⟨j,h,q,c1,c2,c3,by rw[<-h2',<-c4];rfl⟩
   · rw[<-h2',<-vv hr]
     unfold app
     split <;> rfl
   · cases hs:asg b.hs y.last p with
     |none=>
      have:=uA hs (j,p) hj rfl
      rw[hh]at this
      have:h.pair=none:=this
      rw[hq]at this
      cases this
     |some s=>
      obtain⟨j',h',q',c1,c2,c3,c4⟩:=pairS s hs
      have ej:j'=j:=(sameHand j' c1).symm.trans (sameHand j hj)
      subst ej
      rw[hh]at c2
      cases c2
      rw[hq]at c3
      cases c3
      rw[hs]at h2'
      rw[<-h2',<-c4]
      rfl
 have len2:(aK (endsF y (b,es))).ah.length=y.ah.length:=s4.trans n4
 have wk2:∀(p:Nat) w,y.ah[p]? =some w->∃w2,(aK (endsF y (b,es))).ah[p]? =some w2:=fun p w hw=>by
  have:=(qB_.mp hw).1
  exact⟨_,qA_ (by rw[len2];exact this)⟩
 have keep:∀(p:Nat) w t,y.ah[p]? =some w->w.bG=some t->∀w2,(aK (endsF y (b,es))).ah[p]? =some w2->w2.bG=some t:=fun p w t hw ht w2 hw2=>by
  obtain⟨w0,hw0,_,_,a3,_,_⟩:=wk p w2 hw2
  rw[hw]at hw0
  cases hw0
  rcases a3 with a3 |⟨j,h',q,c1,c2,c3,c4⟩
  · exact a3.trans ht
  · obtain⟨h,e0,g⟩:=E.get c2
    obtain⟨w0,hw0,_,_,_,b4⟩:=M.lk j p h e0 c1
    rw[hw]at hw0
    cases hw0
    rw[ht]at b4
    cases hq:h.pair with
    |none=>rw[hq]at b4;cases b4
    |some q0=>
     rw[hq]at b4
     have b4:t=q0.1:=Option.some.inj b4
     have:=(g.keeps hq).1
     rw[c3]at this
     cases this
     rw[c4,b4]
 have st:∀(p:Nat) w2 t,(aK (endsF y (b,es))).ah[p]? =some w2->w2.rd=false->w2.bG=some t->∃w,y.ah[p]? =some w/\w2.hand=w.hand/\w.rd=false/\(w.bG=some t\/(w.bG=none/\(w.hand,p)∈y.last/\∃h h',y.af.hs[w.hand]? =some h/\b.hs[w.hand]? =some h'/\h.own < h'.own/\t=(h'.own,(w.hand:Int)))):=fun p w2 t h2 hr ht=>by
  obtain⟨w,hw,a1,a2,a3,a4,a5⟩:=wk p w2 h2
  refine⟨w,hw,a1,a2.symm.trans hr,?_⟩
  rcases a3 with a3 |⟨j,h',q,c1,c2,c3,c4⟩
  · exact .inl (a3.symm.trans ht)
  · obtain⟨h,e0,g⟩:=E.get c2
    obtain⟨w0,hw0,b1,b2,b3,b4⟩:=M.lk j p h e0 c1
    rw[hw]at hw0
    cases hw0
    rw[c4]at ht
    cases ht
    rcases g.2 with ⟨d1,d2⟩ |⟨d1,q',d2,d3⟩
    · left
      rw[b4,<-d1,c3]
      rfl
    · right
      rw[c3]at d2
      cases d2
      cases hv:h.val with
      |none=>rw[a2.symm.trans hr,hv]at b2;cases b2
      |some v=>
       rw[hv]at d3
       subst b1
       refine⟨by rw[b4,d1];rfl,c1,h,h',e0,c2,d3.1,?_⟩
       rw[d3.2]
 refine⟨fun q hq=>?_,fun j p h' e hl=>?_,fun j h' v e hv=>?_,?_,fun p w2 t h2 hr ht=>?_,fun j h' e=>?_,fun p p' w2 w2' t h2 h2' hr hr' ht ht'=>?_⟩
 · rw[eh]at hq
   rcases E.pr q hq with z |z |⟨j,h',e,z1,z2,z3⟩
   · rcases M.hp q z with z |⟨p,w,hw,c1,c2,c3⟩
     · exact .inl z
     · obtain⟨w2,hw2⟩:=wk2 p w hw
       obtain⟨w0,hw0,a1,a2,_,a4,_⟩:=wk p w2 hw2
       rw[hw]at hw0
       cases hw0
       exact .inr ⟨p,w2,hw2,a2.trans c1,keep p w _ hw c2 w2 hw2,(a4 c1).trans c3⟩
   · exact .inl z
   · obtain⟨h,e0,g⟩:=E.get e
     obtain⟨p,hp⟩:=M.vl j h q.2 e0 (g.1.symm.trans z2)
     obtain⟨w,hw,b1,b2,b3,b4⟩:=M.lk j p h e0 hp
     obtain⟨w2,hw2⟩:=wk2 p w hw
     obtain⟨w0,hw0,a1,a2,a3,a4,a5⟩:=wk p w2 hw2
     rw[hw]at hw0
     cases hw0
     have hr:w.rd=false:=by rw[b2,g.1.symm.trans z2];rfl
     exact .inr ⟨p,w2,hw2,a2.trans hr,a5 j h' q hp e z1,(a4 hr).trans (b3 _ (g.1.symm.trans z2))⟩
 · rw[eh]at e
   rw[el]at hl
   obtain⟨h,e0,g⟩:=E.get e
   obtain⟨w,hw,b1,b2,b3,b4⟩:=M.lk j p h e0 hl
   obtain⟨w2,hw2⟩:=wk2 p w hw
   obtain⟨w0,hw0,a1,a2,a3,a4,a5⟩:=wk p w2 hw2
   rw[hw]at hw0
   cases hw0
   refine⟨w2,hw2,a1.trans b1,by rw[a2,b2,g.1],fun v hv=>?_,?_⟩
   · have hv':h.val=some v:=g.1.symm.trans hv
     rw[a4 (by rw[b2,hv'];rfl)]
     exact b3 v hv'
   · cases hq:h'.pair with
     |some q=>exact a5 j h' q hl e hq
     |none=>
      rcases a3 with a3 |⟨j',h'',q,c1,c2,c3,c4⟩
      · rw[a3,b4]
        rcases g.2 with ⟨d1,_⟩ |⟨_,q,d2,_⟩
        · rw[<-d1,hq]
        · rw[hq]at d2;cases d2
      · obtain⟨x1,x2⟩:=S.la _ c1
        obtain⟨w0,hw0,y1,_⟩:=M.lk j' p _ (qA_ x1) c1
        rw[hw]at hw0
        cases hw0
        rw[<-b1,y1,c2]at e
        cases e
        rw[hq]at c3
        cases c3
 · rw[eh]at e
   rw[el]
   obtain⟨h,e0,g⟩:=E.get e
   exact M.vl j h v e0 (g.1.symm.trans hv)
 · intro j h v q e
   rw[eh]at e
   exact frN j h v q e
 · obtain⟨w,hw,a1,a2,a3⟩:=st p w2 t h2 hr ht
   rw[eh,a1]
   rcases a3 with a3 |⟨_,_,h,h',e0,e,lt,rfl⟩
   · obtain⟨u1,u2,h,u3,u4⟩:=M.un p w t hw a2 a3
     obtain⟨h',e',g⟩:=E.get' u3
     have:=g.own
     exact⟨u1,u2,h',e',by omega⟩
   · have:=M.ow _ h e0
     exact⟨rfl,by show 1<=h'.own;omega,h',e,Int.le_refl _⟩
 · rw[eh]at e
   obtain⟨h,e0,g⟩:=E.get e
   have:=M.ow j h e0
   have:=g.own
   omega
 · obtain⟨w,hw,a1,a2,a3⟩:=st p w2 t h2 hr ht
   obtain⟨w',hw',a1',a2',a3'⟩:=st p' w2' t h2' hr' ht'
   rcases a3 with a3 |⟨_,x0,h,h',e0,e,lt,tt⟩
   · rcases a3' with a3' |⟨_,x0',h,h',e0,e,lt,tt⟩
     · exact M.ds p p' w w' t hw hw' a2 a2' a3 a3'
     · obtain⟨u1,u2,g,u3,u4⟩:=M.un p w t hw a2 a3
       rw[tt]at u1 u4
       have:w'.hand=w.hand:=by have u1:(w'.hand:Int)=(w.hand:Int):=u1;omega
       rw[<-this,e0]at u3
       cases u3
       have u4:h'.own<=h.own:=u4
       omega
   · rcases a3' with a3' |⟨_,x0',g,g',e0',e',lt',tt'⟩
     · obtain⟨u1,u2,g,u3,u4⟩:=M.un p' w' t hw' a2' a3'
       rw[tt]at u1 u4
       have:w.hand=w'.hand:=by have u1:(w.hand:Int)=(w'.hand:Int):=u1;omega
       rw[<-this,e0]at u3
       cases u3
       have u4:h'.own<=h.own:=u4
       omega
     · rw[tt]at tt'
       have:(w.hand:Int)=(w'.hand:Int):=(Prod.mk.inj tt').2
       have:w.hand=w'.hand:=by omega
       rw[this]at x0
       exact rW S.nd x0 x0'
theorem wG(st:Hl)(p:Nat)(s:Bool):aL st p s=(st,[])\/
 (∃l k,(false,l)∈st.row/\st.ks[l.kpr]? =some k/\aL st p s=({st with ks:=st.ks.set l.kpr (bB k l).1,row:=cO st p s++(match (bB k l).2 with |none=>[] |some x=>[(true,x)])},[]))\/
 (∃l h,(true,l)∈st.row/\st.hs[l.hand]? =some h/\aL st p s=({st with hs:=st.hs.set l.hand (aM h l).1,row:=cO st p s++(aM h l).2.1.map fun x=>(false,x)},match (aM h l).2.2 with |none=>[] |some p=>[(l.hand,p)])):=by
 unfold aL
 cases hr:st.row[p]? with
 |none=>exact .inl rfl
 |some e=>
  have hm:e∈st.row:=qD_ hr
  obtain⟨b,l⟩:=e
  cases b with
  |false=>
   dsimp only
   cases hk:st.ks[l.kpr]? with
   |none=>exact .inl rfl
   |some k=>exact .inr (.inl ⟨l,k,hm,hk,rfl⟩)
  |true=>
   dsimp only
   cases hh:st.hs[l.hand]? with
   |none=>exact .inl rfl
   |some h=>exact .inr (.inr ⟨l,h,hm,hh,rfl⟩)
theorem vn(o:Option (Int×Int))(w:Wk):(app o w).hand=w.hand/\(app o w).rd=w.rd/\(app o w).val=w.val/\(app o w).beg=w.beg/\(app o w).en=w.en:=by
 unfold app
 split <;> exact⟨rfl,rfl,rfl,rfl,rfl⟩
theorem sk{y:Sy}{d:bU}{b:Hl}{es:List (Nat×Pr)}{a:An}(h:doneF y d= .ok (endsF y (b,es)) a):(aS y d).1.af=b/\(aS y d).1.last=y.last/\(aS y d).1.aQ=y.aQ+1/\(aS y d).1.ah.length=y.ah.length/\
 ∀(p:Nat) w',(aS y d).1.ah[p]? =some w'->∃w,y.ah[p]? =some w/\w'.hand=w.hand/\w'.rd=w.rd/\w'.beg=w.beg/\((w'.val=w.val/\w'.en=w.en)\/∃e∈es,p=lastOf y.last e.1/\w'.val=some e.2.2/\w'.en=some y.aQ):=by
 obtain⟨n1,n2,n3,n4⟩:=fH es (aG y b)
 obtain⟨s1,s2,s3,s4⟩:=cA (bK (aG y b) es).last (bK (aG y b) es)
 have ea:(aS y d).1=cH (aK (endsF y (b,es))):=by unfold aS iR;rw[h]
 rw[ea]
 refine⟨s2.trans n2,s1.trans n1,?_,s4.trans n4,fun p w' hw=>?_⟩
 · show (aK (endsF y (b,es))).aQ+1=_
   have:(aK (endsF y (b,es))).aQ=y.aQ:=s3.trans n3
   rw[this]
 · have hw:((bK (aG y b) es).last.foldl aT (bK (aG y b) es)).ah[p]? =some w':=hw
   rw[eA]at hw
   cases hw1:(bK (aG y b) es).ah[p]? with
   |none=>rw[hw1]at hw;cases hw
   |some w1=>
    rw[hw1]at hw
    have hw:=Option.some.inj hw
    obtain⟨t1,t2,t3,t4,t5⟩:=vn (asg (bK (aG y b) es).af.hs (bK (aG y b) es).last p) w1
    rw[hw]at t1 t2 t3 t4 t5
    obtain⟨w,h0,a1,a2,_,a4,a5⟩:=oh es (aG y b) p w1 hw1
    refine⟨w,h0,t1.trans a1,t2.trans a2,t4.trans a4,?_⟩
    rcases a5 with ⟨c1,c2⟩ |⟨e,he,c1,c2,c3⟩
    · exact .inl ⟨t3.trans c1,t5.trans c2⟩
    · exact .inr ⟨e,he,c1,t3.trans c2,t5.trans c3⟩
theorem xQ{y:Sy}{d:bU}{c:Nat}(h:doneF y d= .no c):(aS y d).1.af=y.af/\(aS y d).1.last=y.last/\(aS y d).1.aQ=y.aQ+1/\(aS y d).1.ah.length=y.ah.length/\
 ∀(p:Nat) w',(aS y d).1.ah[p]? =some w'->∃w,y.ah[p]? =some w/\w'.hand=w.hand/\w'.rd=w.rd/\w'.beg=w.beg/\w'.val=w.val/\w'.en=w.en:=by
 obtain⟨s1,s2,s3,s4⟩:=cA y.last y
 have ea:(aS y d).1=cH (aK y):=by unfold aS iR;rw[h]
 rw[ea]
 refine⟨s2,s1,by show (aK y).aQ+1=_;rw[show (aK y).aQ=y.aQ from s3],s4,fun p w' hw=>?_⟩
 have hw:(y.last.foldl aT y).ah[p]? =some w':=hw
 rw[eA]at hw
 cases hw1:y.ah[p]? with
 |none=>rw[hw1]at hw;cases hw
 |some w1=>
  rw[hw1]at hw
  have hw:=Option.some.inj hw
  obtain⟨t1,t2,t3,t4,t5⟩:=vn (asg y.af.hs y.last p) w1
  rw[hw]at t1 t2 t3 t4 t5
  exact⟨w1,rfl,t1,t2,t4,t3,t5⟩
theorem Md.count{y:Sy}(M:Md y):Md (cH y):=⟨M.hp,M.lk,M.vl,M.fr,M.un,M.ow,M.ds⟩
theorem Md.oo{y:Sy}(M:Md y)(S:SWF y):Md (aK y):=by
 have:=M.step S (b:=y.af) (es:=[]) (Evo.refl _) (fun e he=>by cases he)
 exact this
theorem md0(c m:Nat):Md (ba c m):=by
 have hh:∀(j:Nat) h,(ba c m).af.hs[j]? =some h->∃i,h=kf i c:=fun j h e=>by
  have e:((List.range m).map fun i=>kf i c)[j]? =some h:=e
  obtain⟨i,_,rfl⟩:=qH_.mp (qD_ e)
  exact⟨i,rfl⟩
 refine⟨fun q hq=>?_,fun j p h _ hl=>(by cases hl),fun j h v e hv=>?_,fun j h v q e hv=>?_,fun p w t hw=>?_,fun j h e=>?_,fun p p' w w' t hw=>?_⟩
 · cases hq with
   |k x hx e=>
    have hx:x∈List.replicate c KS.k0:=hx
    rw[List.eq_of_mem_replicate hx]at e
    exact .inl e.symm
   |r x hx e=>cases hx
   |h j g h e=>obtain⟨i,rfl⟩:=hh j g h;cases e
   |d j g h x hx e=>obtain⟨i,rfl⟩:=hh j g h;cases hx
 · obtain⟨i,rfl⟩:=hh j h e;cases hv
 · obtain⟨i,rfl⟩:=hh j h e;cases hv
 · have hw:([]:List Wk)[p]? =some w:=hw
   simp at hw
 · obtain⟨i,rfl⟩:=hh j h e;exact Int.le_refl _
 · have hw:([]:List Wk)[p]? =some w:=hw
   simp at hw
theorem Md.hand{y:Sy}(M:Md y){b:Hl}(hl:b.hs.length=y.af.hs.length)(hs:∀(j:Nat) h h',y.af.hs[j]? =some h->b.hs[j]? =some h'->h'.val=h.val/\h'.pair=h.pair/\h'.own=h.own)(hp:∀q,wA b q->wA y.af q):Md (aG y b):=by
 have get:∀(j:Nat) h',b.hs[j]? =some h'->∃h,y.af.hs[j]? =some h/\h'.val=h.val/\h'.pair=h.pair/\h'.own=h.own:=fun j h' e=>by
  have hj:=(qB_.mp e).1
  have e0:y.af.hs[j]? =some (y.af.hs[j]'(by rw[<-hl];exact hj)):=qA_ _
  exact⟨_,e0,hs j _ _ e0 e⟩
 refine⟨fun q hq=>M.hp q (hp q hq),fun j p h' e hl'=>?_,fun j h' v e hv=>?_,fun j h' v q e hv hq=>?_,fun p w t hw hr ht=>?_,fun j h' e=>?_,M.ds⟩
 · obtain⟨h,e0,a1,a2,a3⟩:=get j h' e
   rw[a1,a2]
   exact M.lk j p h e0 hl'
 · obtain⟨h,e0,a1,a2,a3⟩:=get j h' e
   exact M.vl j h v e0 (a1.symm.trans hv)
 · obtain⟨h,e0,a1,a2,a3⟩:=get j h' e
   rw[a3]
   exact M.fr j h v q e0 (a1.symm.trans hv) (a2.symm.trans hq)
 · obtain⟨u1,u2,h,u3,u4⟩:=M.un p w t hw hr ht
   have hj:=(qB_.mp u3).1
   have e0:b.hs[w.hand]? =some (b.hs[w.hand]'(by rw[hl];exact hj)):=qA_ _
   refine⟨u1,u2,_,e0,?_⟩
   rw[(hs _ _ _ u3 e0).2.2]
   exact u4
 · obtain⟨h,e0,a1,a2,a3⟩:=get j h' e
   rw[a3]
   exact M.ow j h e0
theorem Md.begin{y:Sy}(M:Md y)(S:SWF y){j:Nat}{h:Hd}(hj:y.af.hs[j]? =some h)(rd:Bool)(v:Option Int)(hrd:rd=v.isNone):Md (pI (aG y (fR y.af j h v)) j rd v):=by
 have hlt:=(qB_.mp hj).1
 have get:∀i,(y.af.hs.set j (bj h v))[i]? =if i=j then some (bj h v)else y.af.hs[i]?:=fun i=>by
  rw[qJ_]
  by_cases z:j=i
  · rw[if_pos z,if_pos z.symm,if_pos hlt]
  · rw[if_neg z,if_neg (fun q=>z q.symm)]
 have wold:∀(p:Nat) w,y.ah[p]? =some w->(y.ah++[(⟨j,rd,v,y.aQ,none,none⟩:Wk)])[p]? =some w:=fun p w hw=>by
  rw[qK_ (qB_.mp hw).1]
  exact hw
 have wnew:∀(p:Nat) w,(y.ah++[(⟨j,rd,v,y.aQ,none,none⟩:Wk)])[p]? =some w->y.ah[p]? =some w\/w.bG=none:=fun p w hw=>by
  by_cases z:p < y.ah.length
  · rw[qK_ z]at hw
    exact .inl hw
  · rw[qL_ (by omega)]at hw
    have:=qD_ hw
    simp at this
    subst this
    exact .inr rfl
 refine⟨fun q hq=>?_,fun i p g e hl=>?_,fun i g x e hv=>?_,fun i g x q e hv hq=>?_,fun p w t hw hr ht=>?_,fun i g e=>?_,fun p p' w w' t hw hw' hr hr' ht ht'=>?_⟩
 · have:wA y.af q:=by
    cases hq with
    |k x hx e=>exact .k x hx e
    |r x hx e=>
     rcases qG_.mp hx with z |z
     · exact .r x z e
     · obtain⟨l,hl,rfl⟩:=qH_.mp z
       obtain⟨k,_,rfl⟩:=qH_.mp hl
       cases e
    |h i g h' e=>
     have h':(y.af.hs.set j (bj h v))[i]? =some g:=h'
     rw[get]at h'
     split at h'
     · cases h';cases e
     · exact .h i g h' e
    |d i g h' x hx e=>
     have h':(y.af.hs.set j (bj h v))[i]? =some g:=h'
     rw[get]at h'
     split at h'
     · cases h';cases hx
     · exact .d i g h' x hx e
   rcases M.hp q this with z |⟨p,w,hw,c⟩
   · exact .inl z
   · exact .inr ⟨p,w,wold p w hw,c⟩
 · have e:(y.af.hs.set j (bj h v))[i]? =some g:=e
   have hl:(i,p)∈putL y.last j y.ah.length:=hl
   show ∃w,(y.ah++[(⟨j,rd,v,y.aQ,none,none⟩:Wk)])[p]? =some w/\_
   rw[get]at e
   by_cases z:i=j
   · rw[if_pos z]at e
     cases e
     subst z
     have ep:p=y.ah.length:=by
      have l1:(i,y.ah.length)∈putL y.last i y.ah.length:=by
       have hin:i∈(putL y.last i y.ah.length).map (·.1):=by
        rw[kx]
        split
        · rename_i hh
          obtain⟨x,hx,hxe⟩:=List.any_eq_true.mp hh
          exact qH_.mpr ⟨x,hx,of_decide_eq_true hxe⟩
        · exact qE_ _ qI_
       have:=iZ hin
       rwa [xr,if_pos rfl]at this
      have nd:((putL y.last i y.ah.length).map (·.1)).Nodup:=by
       rw[kx]
       split
       · exact S.nd
       · rename_i hh
         rw[List.nodup_append]
         refine⟨S.nd,by simp,fun x hx q hq ee=>?_⟩
         simp at hq
         subst hq
         subst ee
         obtain⟨u,hu,rfl⟩:=qH_.mp hx
         exact hh (List.any_eq_true.mpr ⟨u,hu,qZ_ rfl⟩)
      exact rW nd hl l1
     refine⟨⟨i,rd,v,y.aQ,none,none⟩,?_,rfl,hrd,fun v' hv=>hv,rfl⟩
     rw[ep,qL_ (qO_ _)]
     simp
   · rw[if_neg z]at e
     rcases vT hl with w |w
     · cases w;exact absurd rfl z
     · obtain⟨w0,hw0,b⟩:=M.lk i p g e w
       exact⟨w0,wold p w0 hw0,b⟩
 · have e:(y.af.hs.set j (bj h v))[i]? =some g:=e
   show ∃p,(i,p)∈putL y.last j y.ah.length
   have hin:i∈(putL y.last j y.ah.length).map (·.1):=by
    rw[kx]
    rw[get]at e
    by_cases z:i=j
    · subst z
      split
      · rename_i hh
        obtain⟨x,hx,hxe⟩:=List.any_eq_true.mp hh
        exact qH_.mpr ⟨x,hx,of_decide_eq_true hxe⟩
      · exact qE_ _ qI_
    · rw[if_neg z]at e
      obtain⟨p,hp⟩:=M.vl i g x e hv
      split
      · exact qH_.mpr ⟨_,hp,rfl⟩
      · exact qF_ _ (qH_.mpr ⟨_,hp,rfl⟩)
   obtain⟨u,hu,rfl⟩:=qH_.mp hin
   exact⟨u.2,hu⟩
 · have e:(y.af.hs.set j (bj h v))[i]? =some g:=e
   rw[get]at e
   split at e
   · cases e;cases hq
   · exact M.fr i g x q e hv hq
 · rcases wnew p w hw with z |z
   · obtain⟨u1,u2,g,u3,u4⟩:=M.un p w t z hr ht
     refine⟨u1,u2,?_⟩
     show ∃h_1,(y.af.hs.set j (bj h v))[w.hand]? =some h_1/\t.1<=h_1.own
     rw[get]
     by_cases q:w.hand=j
     · rw[if_pos q]
       rw[q,hj]at u3
       cases u3
       exact⟨_,rfl,u4⟩
     · rw[if_neg q]
       exact⟨g,u3,u4⟩
   · rw[z]at ht;cases ht
 · have e:(y.af.hs.set j (bj h v))[i]? =some g:=e
   rw[get]at e
   split at e
   · cases e
     exact M.ow j h hj
   · exact M.ow i g e
 · rcases wnew p w hw with z |z
   · rcases wnew p' w' hw' with z' |z'
     · exact M.ds p p' w w' t z z' hr hr' ht ht'
     · rw[z']at ht';cases ht'
   · rw[z]at ht;cases ht
theorem Md.J2{y:Sy}(M:Md y)(I:Iv y)(d:bU):Md (aS y d).1:=by
 have S:=I.W
 have W:=S.W
 have key:∀{z:Sy} {a:An},doneF y d= .ok z a->Md (aK z)->Md (aS y d).1:=fun {z a} h h2=>by
  unfold aS iR
  rw[h]
  exact h2.count
 have mem_last:∀{b:Hl} {es:List (Nat×Pr)},(∀e∈es,∃h,b.hs[e.1]? =some h/\h.pair=some e.2)->(∀e∈es,∃h,y.af.hs[e.1]? =some h/\h.atw=true)->∀e∈es,(∃h,b.hs[e.1]? =some h/\h.pair=some e.2)/\e.1∈y.last.map (·.1):=fun h1 h2 e he=>⟨h1 e he,by
  obtain⟨g,a,b⟩:=h2 e he
  exact S.atw _ g a b⟩
 cases hd:doneF y d with
 |no c=>
  unfold aS iR
  rw[hd]
  exact(M.oo S).count
 |ok z a=>
  refine key hd ?_
  have I1:=yd I d hd
  have bg:∀{i:Int} {rd:Bool} {v:Option Int},rd=v.isNone->cE y i rd v= .ok z a->Md (aK z):=by
   intro i rd v hrd h
   unfold cE at h
   split at h
   · cases h
   · split at h
     · cases h
     · rename_i j _ _ g hg
       split at h
       · cases h
       · cases h
         exact(M.begin S hg rd v hrd).oo I1.W
  have kpr:∀{j:Nat} (g:Kr),y.af.ks[j]? =some g->∀b,Md (aG y {y.af with ks:=y.af.ks.set j {g with up:=b}}):=fun {j} g hg b=>by
   refine M.hand rfl (fun j h h' e e'=>?_) fun q hq=>?_
   · have e':y.af.hs[j]? =some h':=e'
     rw[e]at e'
     cases e'
     exact⟨rfl,rfl,rfl⟩
   · cases hq with
     |k x hx e=>
      rcases List.mem_or_eq_of_mem_set hx with w |w
      · exact .k x w e
      · subst w
        exact .k g (qD_ hg) e
     |r x hx e=>exact .r x hx e
     |h j g h e=>exact .h j g h e
     |d j g h x hx e=>exact .d j g h x hx e
  cases d with
  |wr i v=>exact bg rfl hd
  |rd i=>exact bg rfl hd
  |ca n s=>
   unfold doneF at hd
   dsimp only at hd
   split at hd
   · cases hd
   · cases hd
     obtain⟨E,h1⟩:=vL W (CF y n) s
     exact M.step S E (mem_last h1 (sW _ _))
  |pa i j=>
   unfold doneF at hd
   dsimp only at hd
   split at hd
   · cases hd
   · split at hd
     · cases hd
     · cases hd
       obtain⟨E,h1⟩:=yr (cI _ _) W
       exact M.step S E (mem_last h1 (jN (cI _ _) _ _ W (qO_ _)).2.2)
  |sw=>
   unfold doneF at hd
   cases hd
   obtain⟨E,h1⟩:=yr bZ W
   exact M.step S E (mem_last h1 (jN bZ _ _ W (qO_ _)).2.2)
  |ag i=>
   unfold doneF gK at hd
   dsimp only at hd
   split at hd
   · cases hd
   · split at hd
     · cases hd
     · rename_i j _ _ g hg
       split at hd
       · cases hd
         refine(M.hand (b:={y.af with row:=newRow y.af g}) rfl (fun j h h' e e'=>?_) fun q hq=>?_).oo I1.W
         · have e':y.af.hs[j]? =some h':=e'
           rw[e]at e'
           cases e'
           exact⟨rfl,rfl,rfl⟩
         · cases hq with
           |k x hx e=>exact .k x hx e
           |r x hx e=>
            rcases qG_.mp hx with w |w
            · exact .r x w e
            · obtain⟨l,hl,rfl⟩:=qH_.mp w
              obtain⟨k,_,rfl⟩:=qH_.mp hl
              exact .h _ g hg e
           |h j g h e=>exact .h j g h e
           |d j g h x hx e=>exact .d j g h x hx e
       · cases hd
  |qu i=>
   unfold doneF gK at hd
   dsimp only at hd
   split at hd
   · cases hd
   · split at hd
     · cases hd
     · rename_i j _ _ g hg
       split at hd
       · cases hd
         have hlt:=(qB_.mp hg).1
         have get:∀i,(y.af.hs.set j {g with atw:=false})[i]? =if i=j then some {g with atw:=false} else y.af.hs[i]?:=fun i=>by
          rw[qJ_]
          by_cases z:j=i
          · rw[if_pos z,if_pos z.symm,if_pos hlt]
          · rw[if_neg z,if_neg (fun q=>z q.symm)]
         have old:∀(i:Nat) h',(y.af.hs.set j {g with atw:=false})[i]? =some h'->∃h,y.af.hs[i]? =some h/\h'.val=h.val/\h'.pair=h.pair/\h'.own=h.own/\h'.ar=h.ar:=fun i h' e=>by
          rw[get]at e
          split at e
          · rename_i z
            subst z
            cases e
            exact⟨g,hg,rfl,rfl,rfl,rfl⟩
          · exact⟨h',e,rfl,rfl,rfl,rfl⟩
         refine(M.hand (by rw[qX_]) (fun j h h' e e'=>?_) fun q hq=>?_).oo I1.W
         · obtain⟨h0,e0,a1,a2,a3,_⟩:=old j h' e'
           rw[e]at e0
           cases e0
           exact⟨a1,a2,a3⟩
         · cases hq with
           |k x hx e=>exact .k x hx e
           |r x hx e=>exact .r x hx e
           |h j g h e=>
            obtain⟨h0,e0,a1,a2,a3,_⟩:=old j g h
            exact .h j h0 e0 (a2.symm.trans e)
           |d j g h x hx e=>
            obtain⟨h0,e0,a1,a2,a3,a4⟩:=old j g h
            exact .d j h0 e0 x (by rw[<-a4];exact hx) e
       · cases hd
  |st i=>
   unfold doneF qx at hd
   dsimp only at hd
   split at hd
   · cases hd
   · split at hd
     · cases hd
     · rename_i j _ _ g hg
       cases hd
       exact(kpr g hg _).oo I1.W
  |wa i=>
   unfold doneF qx at hd
   dsimp only at hd
   split at hd
   · cases hd
   · split at hd
     · cases hd
     · rename_i j _ _ g hg
       cases hd
       exact(kpr g hg _).oo I1.W
theorem FG{y:Sy}(M:Md y)(I:Iv y)(ds:List bU):Md (cT y ds):=by
 induction ds generalizing y with
 |nil=>exact M
 |cons d r ih=>exact ih (M.J2 I d) (sL I d)
def lA(ks0 ks:List Kr):Prop:=ks.length=ks0.length/\∀(i:Nat) k0 k,ks0[i]? =some k0->ks[i]? =some k->gtS k0.pair.1 k.pair.1=false
theorem Br{a b:Int×Int}(h:gtS a b=true):gtS b a=false:=by
 cases q:gtS b a with
 |false=>rfl
 |true=>have:=zF h q;rw[mG]at this;cases this
theorem HP{a b c:Int×Int}(h:gtS a b=false)(g:gtS b c=false):gtS a c=false:=by
 cases q:gtS a c with
 |false=>rfl
 |true=>
  have q:=iV.mp q
  have h:¬_:=fun z=>absurd (iV.mpr z) (by rw[h];exact qC_)
  have g:¬_:=fun z=>absurd (iV.mpr z) (by rw[g];exact qC_)
  omega
theorem uc(k:Kr)(l:Lt):gtS k.pair.1 (bB k l).1.pair.1=false:=by
 unfold bB
 split
 · split
   · exact mG _
   · rename_i p hp
     dsimp only
     unfold uM
     by_cases z:gtS p.1 k.pair.1=true
     · rw[if_pos z];exact Br z
     · rw[if_neg z];exact mG _
 · exact mG _
theorem lA.refl(ks:List Kr):lA ks ks:=⟨rfl,fun i k0 k h g=>by rw[h]at g;cases g;exact mG _⟩
theorem lA.set{ks0 ks:List Kr}(h:lA ks0 ks){i:Nat}{k k':Kr}(hk:ks[i]? =some k)(hg:gtS k.pair.1 k'.pair.1=false):lA ks0 (ks.set i k'):=by
 refine⟨by rw[qX_];exact h.1,fun j k0 x h0 hx=>?_⟩
 rw[qJ_]at hx
 split at hx
 · rename_i z
   subst z
   split at hx
   · cases hx
     exact HP (h.2 i k0 k h0 hk) hg
   · cases hx
 · exact h.2 j k0 x h0 hx
theorem wy{a:Hl}(W:WF a)(idle:∀(i:Nat) h,a.hs[i]? =some h->h.atw=false):(bY aR a).2=[]/\(bY aR a).1.hs=a.hs/\(bY aR a).1.row=[]/\lA a.ks (bY aR a).1.ks:=by
 obtain⟨_,⟨h1,h2,h3⟩,hn⟩:=yo bZ (fun st es=>es=[]/\st.hs=a.hs/\lA a.ks st.ks) (fun st es p W _ ⟨h1,h2,h3⟩=>by
  rcases wG st p false with h |⟨l,k,_,hk,h⟩ |⟨l,g,_,hg,h⟩
  · rw[h,h1];exact⟨rfl,h2,h3⟩
  · rw[h,h1]
    exact⟨rfl,h2,h3.set hk (uc k l)⟩
  · have ga:g.atw=false:=idle l.hand g (by rw[<-h2];exact hg)
    rw[h,h1,uT (.inl ga)]
    exact⟨rfl,by show st.hs.set l.hand g=_;rw[set_same hg,h2],h3⟩) (mea a) a [] (qO_ _) W ⟨rfl,rfl,lA.refl _⟩
 rw[qc_]at h1
 exact⟨h1,h2,wU hn,h3⟩
theorem vA{y z:Sy}(N:rS y)(hh:z.af.hs=y.af.hs)(hl:z.last=y.last)(hw:z.ah=y.ah):(aK z).ah=y.ah:=by
 have e:∀q:Nat,(aK z).ah[q]? =(aK y).ah[q]?:=fun q=>by
  show (z.last.foldl aT z).ah[q]? =(y.last.foldl aT y).ah[q]?
  rw[eA,eA,hh,hl,hw]
 rw[List.ext_getElem? e,N]
theorem xG{y:Sy}(I:Iv y)(N:rS y)(idle:∀(i:Nat) h,y.af.hs[i]? =some h->h.atw=false):(aS y .sw).1.ah=y.ah/\lA y.af.ks (aS y .sw).1.af.ks/\
 gS y [.sw,.ca 3 false,.sw]=[.lst [],.one (.str "no letter"),.lst []]:=by
 obtain⟨h1,h2,h3,h4⟩:=wy I.W.W idle
 have hd:doneF y .sw= .ok (endsF y ((bY aR y.af).1,(bY aR y.af).2)) (.lst (oE y (bY aR y.af))):=rfl
 have ea:(aS y .sw).1=cH (aK (endsF y ((bY aR y.af).1,(bY aR y.af).2))):=rfl
 have hw:(aS y .sw).1.ah=y.ah:=by
  rw[ea]
  refine vA N ?_ ?_ ?_
  · rw[h1];exact h2
  · rw[h1];rfl
  · rw[h1];rfl
 have hh:(aS y .sw).1.af=(bY aR y.af).1:=(sk hd).1
 have a1:(aS y .sw).2= .lst []:=by
  show An.lst ((bY aR y.af).2.map (seD y))=_
  rw[h1]
  rfl
 refine⟨hw,by rw[hh];exact h4,?_⟩
 show [(aS y .sw).2,(aS (aS y .sw).1 (.ca 3 false)).2,(aS (aS (aS y .sw).1 (.ca 3 false)).1 .sw).2]=_
 generalize hz:(aS y .sw).1=z at*
 have zr:z.af.row=[]:=by rw[hh];exact h3
 have hn:doneF z (.ca 3 false)= .no 1003:=by
  show (if z.af.row=[]then Rs.no 1003 else _)=_
  rw[if_pos zr]
 have a2:(aS z (.ca 3 false)).2= .one (.str "no letter"):=by unfold aS iR;rw[hn];rfl
 have z2:(aS z (.ca 3 false)).1.af.row=[]:=by rw[(xQ hn).1];exact zr
 generalize (aS z (.ca 3 false)).1=u at z2
 have a3:(aS u .sw).2= .lst []:=by
  show An.lst ((bY aR u.af).2.map (seD u))=_
  have:aR u.af=none:=by unfold aR;rw[if_pos z2]
  rw[cu this]
  rfl
 rw[a1,a2,a3]
theorem qF{y:Sy}(I:Iv y):∀n,n<=y.af.hs.length->Iv (cT y ((List.range n).map fun k:Nat=>bU.qu (k:Int)))/\(cT y ((List.range n).map fun k:Nat=>bU.qu (k:Int))).af.hs.length=y.af.hs.length/\∀(i:Nat) h,i < n->(cT y ((List.range n).map fun k:Nat=>bU.qu (k:Int))).af.hs[i]? =some h->h.atw=false
 |0,_=>⟨I,rfl,fun i h hi=>by omega⟩
 |n+1,hn=>by
  obtain⟨I1,l1,q1⟩:=qF I n (by omega)
  rw[List.range_succ,qT_,mM]
  generalize cT y ((List.range n).map fun k:Nat=>bU.qu (k:Int))=z at I1 l1 q1
  have hnz:n < z.af.hs.length:=by omega
  have hg:z.af.hs[n]? =some z.af.hs[n]:=qA_ hnz
  generalize z.af.hs[n]=g at hg
  have hh:doneF z (.qu (n:Int))=if g.atw then .ok (aG z {z.af with hs:=z.af.hs.set n {g with atw:=false}}) (.one (.int (lastOf z.last n:Int)))else .no 1005:=by
   show gK z (n:Int) _=_
   unfold gK
   rw[j7 rfl hnz]
   dsimp only
   rw[hg]
  show Iv (aS z (.qu (n:Int))).1/\(aS z (.qu (n:Int))).1.af.hs.length=_/\∀(i:Nat) h,i < n+1->(aS z (.qu (n:Int))).1.af.hs[i]? =some h->h.atw=false
  refine⟨sL I1 _,?_⟩
  cases ha:g.atw with
  |false=>
   rw[ha,if_neg qC_]at hh
   rw[(xQ hh).1]
   refine⟨l1,fun i h hi e=>?_⟩
   by_cases z1:i=n
   · subst z1
     rw[hg]at e
     cases e
     exact ha
   · exact q1 i h (by omega) e
  |true=>
   rw[ha,if_pos rfl]at hh
   rw[(sk (b:={z.af with hs:=z.af.hs.set n {g with atw:=false}}) (es:=[]) hh).1]
   refine⟨by show (z.af.hs.set n _).length=_;rw[qX_];exact l1,fun i h hi e=>?_⟩
   have e:(z.af.hs.set n {g with atw:=false})[i]? =some h:=e
   rw[qJ_]at e
   by_cases z1:n=i
   · rw[if_pos z1,if_pos hnz]at e
     cases e
     rfl
   · rw[if_neg z1]at e
     exact q1 i h (by omega) e
section
variable{G G':Hh}{Q:D->Hh->Prop}{QS:Fl×St->Hh->Prop}{QU:Unit->Hh->Prop}{E:Nat->Hh->Prop}{σ:St}
theorem JK{a b:List D}{m n:List Int}(e1:intsOf a=some m)(e2:intsOf b=some n)(h:Q (.bl (oX m n)) G):M3.run (oLt (.tup a) (.tup b)) G Q E:=by
 show M3.run (match intsOf a,intsOf b with
  |some m,some n=>ret (.bl (oX m n))
  |_,_=>fail) G Q E
 rw[e1,e2];exact h
theorem Hu{o i e:E3}(h:M3.run (e σ) G (fun v G1=>M3.run (o σ) G1 (fun x G2=>M3.run (i σ) G2 (fun y G3=>M3.run (rb x y v) G3 (fun _ G4=>QS (.next,σ) G4) E) E) E) E):M3.run (yG o i e σ) G QS E:=
 ay (ao h (fun v G1 q=>ay (ao q (fun x G2 q=>ay (ao q (fun y G3 q=>ay q) fun _ _ z=>z)) fun _ _ z=>z)) fun _ _ z=>z)
theorem xY{n:Nat}{kvs:List (List Int×D)}{i v:D}{k:List Int}(hn:G[n]? =some (.dT kvs))(hk:qN i=some k)(hl:kvs.length < aA)(h:∀G',Chg [n] G G'->G'.length=G.length->G'[n]? =some (.dT (put kvs k v))->QU () G'):M3.run (rb (.ref n) i v) G QU E:=by
 have:=h (G.set n (.dT (put kvs k v))) (Chg.set _ _ (by simp)) (by simp) (gy hn)
 unfold M3.run rb
 dsimp only
 rw[hn]
 dsimp only
 rw[hk]
 dsimp only
 rw[if_pos hl]
 exact this
theorem Hc{k v:E3}(h:∀G1,Chg [] G G1->G1.length=G.length+1->G1[G.length]? =some (.dT [])->M3.run (k σ) G1 (fun a G2=>M3.run (v σ) G2 (fun b G3=>M3.run (rb (.ref G.length) a b) G3 (fun _ G4=>Q (.ref G.length) G4) E) E) E):M3.run (AS k v σ) G Q E:=
 ay (show M3.run (bnd (k σ) fun a=>bnd (v σ) fun b=>bnd (rb (.ref G.length) a b) fun _=>ret (D.ref G.length)) (G++[.dT []]) Q E from
  ay (ao (h _ (Chg.add _ _) (by simp) (aZ _ _)) (fun a G2 q=>ay (ao q (fun b G3 q=>ay q) fun _ _ z=>z)) fun _ _ z=>z))
theorem vD{n:Nat}{kvs:List (List Int×D)}{i:D}{k:List Int}(hn:G[n]? =some (.dT kvs))(hk:qN i=some k):jW i (.ref n) G=some (look kvs k):=by
 unfold jW
 dsimp only
 rw[hn]
 dsimp only
 rw[hk]
 rfl
theorem Bu{n:Nat}{kvs:List (List Int×D)}{i:D}{k:List Int}(hn:G[n]? =some (.dT kvs))(hk:qN i=some k)(h:Q (.bl (!(look kvs k).isSome)) G):M3.run (kL i (.ref n)) G Q E:=by
 unfold M3.run kL
 rw[vD hn hk]
 exact h
theorem Fm{n:Nat}{kvs:List (List Int×D)}{i d:D}{k:List Int}(hn:G[n]? =some (.dT kvs))(hk:qN i=some k)(e:look kvs k=some d)(h:Q d G):M3.run (zG (.ref n) i) G Q E:=by
 unfold M3.run zG
 rw[vD hn hk,e]
 exact h
end
theorem mO{κ:Type} [DecidableEq κ](kvs:List (κ×D))(k k':κ)(v:D):look (put kvs k v) k'=if k=k' then some v else look kvs k':=by
 have hmap:∀l:List (κ×D),look (l.map fun kv=>if kv.1=k then (kv.1,v)else kv) k'=if k=k'/\(l.any fun kv=>decide (kv.1=k))=true then some v else look l k':=by
  intro l
  induction l with
  |nil=>simp [look]
  |cons a r ih=>
   obtain⟨x,d⟩:=a
   rw[List.map_cons]
   by_cases hx:x=k
   · subst hx
     by_cases hk:x=k'
     · subst hk;simp [look]
     · have e1:look ((x,d) :: r) k'=look r k':=by simp [look,hk]
       have e2:look ((if (x,d).1=x then ((x,d).1,v)else (x,d)) :: r.map fun kv=>if kv.1=x then (kv.1,v)else kv) k'=look (r.map fun kv=>if kv.1=x then (kv.1,v)else kv) k':=by simp [look,hk]
       rw[e2,ih,e1,if_neg (fun z=>hk z.1),if_neg (fun z=>hk z.1)]
   · by_cases hk:x=k'
     · subst hk
       have:¬k=x:=fun z=>hx z.symm
       simp [look,hx,this]
     · have e1:look ((x,d) :: r) k'=look r k':=by simp [look,hk]
       have e2:look ((if (x,d).1=k then ((x,d).1,v)else (x,d)) :: r.map fun kv=>if kv.1=k then (kv.1,v)else kv) k'=look (r.map fun kv=>if kv.1=k then (kv.1,v)else kv) k':=by simp [look,hk,hx]
       rw[e2,ih,e1,List.any_cons]
       have:decide ((x,d).1=k)=false:=qa_ hx
       rw[this,Bool.false_or]
 unfold put
 by_cases h:(kvs.any fun kv=>decide (kv.1=k))=true
 · rw[if_pos h,hmap,h]
   simp
 · rw[if_neg h]
   have hn:look kvs k=none:=by
    refine nR.mpr fun z=>h ?_
    obtain⟨kv,hm,e⟩:=qH_.mp z
    exact List.any_eq_true.mpr ⟨kv,hm,qZ_ e⟩
   have happ:look (kvs++[(k,v)]) k'=(look kvs k').or (look [(k,v)] k'):=by
    unfold look
    rw[List.find?_append]
    cases kvs.find? fun kv=>decide (kv.1=k') <;> rfl
   rw[happ]
   by_cases hk:k=k'
   · subst hk
     rw[if_pos rfl,hn]
     simp [look]
   · rw[if_neg hk]
     have:look [(k,v)] k'=none:=by simp [look,hk]
     rw[this]
     cases look kvs k' <;> rfl
theorem FO{κ:Type} [DecidableEq κ](kvs:List (κ×D))(k:κ)(v:D):(put kvs k v).length<=kvs.length+1:=by
 unfold put
 split
 · rw[qM_];omega
 · simp
def stK(s:Int×Int):List Int:=[s.1,s.2]
def lG(kvs:List (List Int×D))(w:Wk):List (List Int×D):=if w.rd then kvs else match w.bG with
 |none=>kvs
 |some s=>put kvs (stK s) (oD w.val)
def eM(ws:List Wk):List (List Int×D):=ws.foldl lG [([0,0],.int 0)]
theorem iU(ws:List Wk)(w:Wk):eM (ws++[w])=lG (eM ws) w:=by unfold eM;rw[List.foldl_append];rfl
theorem Ai(kvs:List (List Int×D))(w:Wk):(lG kvs w).length<=kvs.length+1:=by
 unfold lG
 split
 · omega
 · split
   · omega
   · exact FO _ _ _
theorem sF(ws:List Wk):∀i,i<=ws.length->(eM (ws.take i)).length<=i+1
 |0,_=>by simp [eM]
 |i+1,h=>by
  have h2:=sF ws i (by omega)
  rw[take_succ (qA_ (show i < ws.length by omega)),iU]
  have:=Ai (eM (ws.take i)) ws[i]
  omega
theorem pC{a b:Int×Int}(h:stK a=stK b):a=b:=by
 unfold stK at h
 injection h with h1 h2
 injection h2 with h2 _
 exact Prod.ext h1 h2
theorem va{ws:List Wk}(hp:∀(p:Nat) w t,ws[p]? =some w->w.rd=false->w.bG=some t->1<=t.1)(hu:∀(p p':Nat) w w' t,ws[p]? =some w->ws[p']? =some w'->w.rd=false->w'.rd=false->w.bG=some t->w'.bG=some t->p=p'):
 ∀i,i<=ws.length->look (eM (ws.take i)) [0,0]=some (.int 0)/\(∀(p:Nat) w t,p < i->ws[p]? =some w->w.rd=false->w.bG=some t->look (eM (ws.take i)) (stK t)=some (oD w.val))/\
  ∀t d,look (eM (ws.take i)) (stK t)=some d->t≠(0,0)->∃(p:Nat) (w:Wk),p < i/\ws[p]? =some w/\w.rd=false/\w.bG=some t
 |0,_=>⟨rfl,fun p w t h=>by omega,fun t d h hn=>by
   have:eM (ws.take 0)=[([0,0],.int 0)]:=rfl
   rw[this]at h
   by_cases z:[0,0]=stK t
   · exact absurd (pC (a:=(0,0)) z).symm hn
   · simp [look,z]at h⟩
 |i+1,h=>by
  obtain⟨h1,h2,h3⟩:=va hp hu i (by omega)
  have hx:ws[i]? =some ws[i]:=qA_ (show i < ws.length by omega)
  generalize ws[i]=w at hx
  rw[take_succ hx,iU]
  unfold lG
  by_cases hr:w.rd=true
  · rw[if_pos hr]
    refine⟨h1,fun p w' t hpi e r s=>?_,fun t d e n=>?_⟩
    · by_cases z:p=i
      · subst z;rw[hx]at e;cases e;rw[hr]at r;cases r
      · exact h2 p w' t (by omega) e r s
    · obtain⟨p,w',a,b⟩:=h3 t d e n
      exact⟨p,w',by omega,b⟩
  · have hr:w.rd=false:=by cases q:w.rd <;> simp_all
    rw[if_neg (by rw[hr];exact qC_)]
    cases hs:w.bG with
    |none=>
     dsimp only
     refine⟨h1,fun p w' t hpi e r s=>?_,fun t d e n=>?_⟩
     · by_cases z:p=i
       · subst z;rw[hx]at e;cases e;rw[hs]at s;cases s
       · exact h2 p w' t (by omega) e r s
     · obtain⟨p,w',a,b⟩:=h3 t d e n
       exact⟨p,w',by omega,b⟩
    |some s0=>
     dsimp only
     have hs1:=hp i w s0 hx hr hs
     refine⟨?_,fun p w' t hpi e r s=>?_,fun t d e n=>?_⟩
     · rw[mO,if_neg,h1]
       intro z
       have:=pC (b:=(0,0)) z
       rw[this]at hs1
       simp at hs1
     · by_cases z:p=i
       · subst z
         rw[hx]at e
         cases e
         rw[hs]at s
         cases s
         rw[mO,if_pos rfl]
       · rw[mO,if_neg,h2 p w' t (by omega) e r s]
         intro q
         cases pC q
         exact z (hu p i w' w s0 e hx r hr s hs)
     · rw[mO]at e
       by_cases z:stK s0=stK t
       · cases pC z
         exact⟨i,w,by omega,hx,hr,hs⟩
       · rw[if_neg z]at e
         obtain⟨p,w',a,b⟩:=h3 t d e n
         exact⟨p,w',by omega,b⟩
theorem BW{y:Sy}(M:Md y){q:Pr}(h:E0 y.ah q):look (eM y.ah) (stK q.1)=some (.int q.2):=by
 obtain⟨h1,h2,_⟩:=va (fun p w t e r s=>(M.un p w t e r s).2.1) M.ds y.ah.length (qO_ _)
 rw[List.take_length]at h1 h2
 rcases h with rfl |⟨p,w,hw,r,s,v⟩
 · exact h1
 · have:=h2 p w q.1 (qB_.mp hw).1 hw r s
   rw[this,v]
   rfl
section
variable{G G':Hh}{Q:D->Hh->Prop}{E:Nat->Hh->Prop}{σ:St}{y:Sy}{QS:Fl×St->Hh->Prop}
theorem HR{k:Nat}(o:Option Nat):eqG G (k+1) (nD o) (nD o)=some true:=by cases o with
 |none=>rfl
 |some n=>exact bV _
theorem Hq{k:Nat}(o:Option Int):eqG G (k+1) (oD o) (oD o)=some true:=by cases o with
 |none=>rfl
 |some n=>exact bV _
theorem Ec(w:Wk)(k:Nat):eqG G (k+2) (lQ w) (lQ w)=some true:=by
 unfold lQ
 refine gL fun x hx=>?_
 simp only[qS_,List.not_mem_nil,or_false]at hx
 rcases hx with rfl |rfl |rfl |rfl |rfl
 · exact bV _
 · exact dH _
 · exact Hq _
 · exact bV _
 · exact HR _
theorem qK.Hr{l1 l2 l3:Nat}(A:qK y l1 l2 l3 G)(c:Chg [] G G'):qK y l1 l2 l3 G':=⟨c.get A.1 (by simp),c.get A.2.1 (by simp),c.get A.2.2 (by simp)⟩
end
section
variable{G G':Hh}{Q:D->Hh->Prop}{E:Nat->Hh->Prop}{σ:St}{QS:Fl×St->Hh->Prop}
theorem Hb{ns:List Int}{B:S3}{rest:St}(hl:G[0]? =some (.frz (ns.map D.int)))
 (h:∀(c m:Nat) (ci mi:Int) G',ci=(c:Int)->mi=(m:Int)->0 < c->c<=9->0 < m->m<=9->Chg [] G G'->M3.run (B (some (.ref 0) :: some (.int ci) :: some (.int mi) :: rest)) G' QS E):
 M3.run ((aq (bx 1 (eOp oIx (cS (aa (eC (.int 3)) (aa (eC (.int 3)) (aa (eC (.int 3)) (aa (eC (.int 1)) (aa (eC (.int 2)) (aa (eC (.int 4)) (aa (eC (.int 5)) (aa (eC (.int 3)) (aa (eC (.int 7)) (aa (eC (.int 8)) (aa (eC (.int 9)) (aa (eC (.int 3)) ai))))))))))))) (eOp oMod (eOp oMod (eOp ff (aw uK (aa (ae 0) (aa (eC (.int 0)) ai))) (eC (.int 48271))) (eC (.int 1049))) (eC (.int 12)))))
 (aq (bx 2 (eOp oIx (cS (aa (eC (.int 2)) (aa (eC (.int 2)) (aa (eC (.int 3)) (aa (eC (.int 1)) (aa (eC (.int 2)) (aa (eC (.int 3)) (aa (eC (.int 2)) (aa (eC (.int 9)) ai))))))))) (eOp oMod (eOp oMod (eOp ff (aw uK (aa (ae 0) (aa (eC (.int 0)) ai))) (eC (.int 48271))) (eC (.int 1051))) (eC (.int 8))))) B))
 (some (.ref 0) :: none :: none :: rest)) G QS E:=by
 refine aB (bq (aJ ?_))
 refine ib ?_
 walk_at "r"
 intro G1 c1 l1 h1
 have f1:=c1.get hl (by simp)
 refine aJ (aJ (aJ (bI (ak (w_var rfl (ak (w_c (az (Jq (k:=0) f1 fun x=>?_)))))))))
 walk_at "r"
 have i1:0<=x*48271 % 1049 % 12:=Int.emod_nonneg _ (by decide)
 have i2:x*48271 % 1049 % 12 < 12:=Int.emod_lt_of_pos _ (by decide)
 obtain⟨ci,mc,e⟩:=pq (xs:=[3,3,3,1,2,4,5,3,7,8,9,3]) i1 i2
 refine cP h1 e ?_
 obtain⟨c,hci,hc0,hc9⟩:=vR mc (by decide)
 clear i1 i2 e mc
 refine w_next ?_
 walk_at "s"
 refine aB (bq (aJ ?_))
 refine ib ?_
 walk_at "r"
 intro G2 c2 l2 h2
 have f2:=c2.get f1 (by simp)
 refine aJ (aJ (aJ (bI (ak (w_var rfl (ak (w_c (az (Jq (k:=0) f2 fun x'=>?_)))))))))
 walk_at "r"
 have i1:0<=x'*48271 % 1051 % 8:=Int.emod_nonneg _ (by decide)
 have i2:x'*48271 % 1051 % 8 < 8:=Int.emod_lt_of_pos _ (by decide)
 obtain⟨mi,mm,e⟩:=pq (xs:=[2,2,3,1,2,3,2,9]) i1 i2
 refine cP h2 e ?_
 obtain⟨m,hmi,hm0,hm9⟩:=vR mm (by decide)
 refine w_next ?_
 walk_at "s"
 exact h c m ci mi G2 hci hmi hc0 hc9 hm0 hm9 (c1.trans c2)
theorem ue{xs:List D}{i:Int}{k:Nat}{d:D}(hi:i=-(k:Int))(hk:0 < k)(hk2:k<=xs.length)(h:xs[xs.length - k]? =some d):atI xs i=some d:=by
 subst hi
 unfold atI ixN
 rw[if_neg (by omega),if_pos (by omega)]
 show xs[(-(k:Int)+xs.length).toNat]? =_
 rw[show (-(k:Int)+xs.length).toNat=xs.length - k by omega]
 exact h
theorem HY{ns:List Int}{a b:Nat}(hl:G[0]? =some (.frz (ns.map D.int)))(ha:a<=100)(hb:b<=100)(h:∀v:Nat,v<=100->Q (.int (v:Int)) G):M3.run (pP [.ref 0,.int (a:Int),.int (b:Int)]) G Q E:=by
 walk_at "f"
 unfold wN
 refine aB (cK (gB (aJ (bI (ak (w_var rfl (az (B0 hl ?_))))))))
 generalize (ns.map D.int).length=n
 generalize (n:Int)=ni
 refine w_c ?_
 with_reducible refine E9 ?_
 refine eP ?_
 with_reducible refine w_ite (fun _=>?_) fun _=>?_
 · walk_at "r"
   exact h b hb
 · walk_at "r"
   exact h a ha
theorem D7{ns:List Int}{c m a:Nat}{ci mi:Int}(ha:a<=100)(hl:G[0]? =some (.frz (ns.map D.int)))(h0:σ[0]? =some (some (.ref 0)))(h1:σ[1]? =some (some (.int ci)))(h2:σ[2]? =some (some (.int mi)))(hci:ci=(c:Int))(hmi:mi=(m:Int))(hc:0 < c)(hm:0 < m)
 (h:∀(ds:List bU) ld G',Chg [] G G'->G.length<=ld->ds.length<=110->(∀d∈ds,DIn c m d)->G'[ld]? =some (.lst (ds.map bC))->Q (.ref ld) G'):
 M3.run (aw nz (aa (eSl (ae 0) (m5 (eC (.int 1))) (m5 (eOp eY (eC (.int 1)) (aw pP (aa (ae 0) (aa (eC (.int (a:Int))) (aa (eC (.int 100)) ai))))))) (aa (ae 1) (aa (ae 2) ai))) σ) G Q E:=by
 refine bI (ak (Ju (w_var h0 (tw (w_c (Bx (tw (aJ (w_c (bI (ak (w_var h0 (ak (w_c (ak (w_c (az ?_)))))))))))))))))
 refine HY (b:=100) hl ha (by omega) fun v hv=>?_
 with_reducible refine tj ?_
 refine Bx (Fi hl fun G3 c3 l3 h3=>?_)
 obtain⟨ms,em,hms⟩:=BL ns 1 (1+v)
 have em':cutD (ns.map D.int) (some 1) (some (1+(v:Int)))=ms.map D.int:=by rw[<-em];simp
 rw[em']at h3
 refine ak (w_var h1 (ak (w_var h2 (az ?_))))
 refine Ax hci hmi hc hm h3 (by omega) fun ds ld G4 c4 g4 hds hin h4=>?_
 exact h ds ld G4 (c3.trans c4) (by omega) (by omega) hin h4
end
section
variable{G G':Hh}{Q:D->Hh->Prop}{E:Nat->Hh->Prop}{σ:St}{y:Sy}{QS:Fl×St->Hh->Prop}
theorem FI{k:Nat}(o:Option (Int×Int)):eqG G (k+2) (stD o) (stD o)=some true:=by
 cases o with
 |none=>rfl
 |some s=>exact gL (all2 (bV _) (bV _))
theorem CU{x0 x1 x2 x3 x5 x9 x10 x11 x12:Option D}{a1 a2 a3 l6:Nat}(A:qK y a1 a2 a3 G)(hz:y.ah.length<=1000)(h6:G[l6]? =some (.dT [([0,0],.int 0)]))(n1:l6≠a1)(n2:l6≠a2)
 (h:∀u v G',Chg [l6] G G'->G'[l6]? =some (.dT (eM y.ah))->QS (.next,[x0,x1,x2,x3,some (.tup [.ref a1,.ref a2,.ref a3]),x5,some (.ref l6),u,v,x9,x10,x11,x12]) G'):
 M3.run ((k9 (gs (aw di (aa (eOp oIx (ae 4) (eC (.int 0))) ai))) (gNm 7) (aq (bx 8 (eOp oIx (eOp oIx (ae 4) (eC (.int 0))) (ae 7)))
 (sIf (rk (tB (eOp oEq (eOp oIx (ae 8) (eC (.int 1))) (eC (.str "write")))) (tB (eUn lO (eOp oIx (eOp oIx (ae 4) (eC (.int 1))) (ae 7))))) (yG (ae 6) (eOp oIx (eOp oIx (ae 4) (eC (.int 1))) (ae 7)) (eOp oIx (ae 8) (eC (.int 2)))) aW)))
 [x0,x1,x2,x3,some (.tup [.ref a1,.ref a2,.ref a3]),x5,some (.ref l6),none,none,x9,x10,x11,x12]) G QS E:=by
 refine yz (kS (bI (ak (aJ (w_var rfl (w_c (bb rfl (az (dN A.1 ?_)))))))))
 rw[qM_]
 with_reducible refine iF (by omega) ?_
 refine pV (fun i σ G'=>∃u v,σ=[x0,x1,x2,x3,some (.tup [.ref a1,.ref a2,.ref a3]),x5,some (.ref l6),u,v,x9,x10,x11,x12]/\i<=y.ah.length/\Chg [l6] G G'/\G'[l6]? =some (.dT (eM (y.ah.take i)))) ?_ ?_ ⟨none,none,rfl,by omega,Chg.refl _ _,h6⟩
 · rintro i σ G1 hi ⟨u,v,rfl,_,c1,h1⟩
   have hw:y.ah[i]? =some y.ah[i]:=qA_ hi
   have hle:=sF y.ah i (by omega)
   have hsn:=take_succ hw
   have hs:(y.ah.map fun w=>stD w.bG)[i]? =some (stD y.ah[i].bG):=by rw[qQ_,hw];rfl
   generalize y.ah[i]=w at hw hsn hs
   have b1:=c1.get A.1 (by simp;exact Ne.symm n1)
   have b2:=c1.get A.2.1 (by simp;exact Ne.symm n2)
   refine ay ?_
   with_reducible refine lB ?_
   walk_at "s"
   refine aB (bq (aJ (aJ (w_var rfl (w_c (bb rfl (w_var rfl ?_)))))))
   refine Ig (p:=i) b1 hw ?_
   refine w_next ?_
   walk_at "s"
   refine cK (s9 (gB (aJ (aJ (w_var rfl (w_c (bb (d:= .str (word w.rd)) rfl (w_c ?_))))))))
   refine w_eq (b:=!w.rd) (by rw[DV];cases w.rd <;> rfl) (eP ?_)
   have gO:lG (eM (y.ah.take i)) w=eM (y.ah.take i)->G1[l6]? =some (.dT (eM (y.ah.take (i+1)))):=fun z=>by rw[hsn,iU,z];exact h1
   cases hr:w.rd with
   |true=>
    rw[show (!true)=false from rfl,if_neg qC_]
    refine gQ ?_
    rw[if_neg qC_]
    exact jx ⟨_,_,rfl,by omega,c1,gO (by unfold lG;rw[hr];rfl)⟩
   |false=>
    rw[show (!false)=true from rfl,if_pos rfl]
    refine gB (oi (aJ (aJ (w_var rfl (w_c (bb rfl (w_var rfl ?_)))))))
    refine ot b2 hs ?_
    refine qj (eP ?_)
    cases ht:w.bG with
    |none=>
     rw[show (!decide (stD none=D.non))=false from rfl,if_neg qC_]
     exact jx ⟨_,_,rfl,by omega,c1,gO (by unfold lG;rw[hr,ht];rfl)⟩
    |some s=>
     rw[show (!decide (stD (some s)=D.non))=true from rfl,if_pos rfl]
     refine Hu (aJ (w_var rfl (w_c (bb (d:=oD w.val) rfl (w_var rfl (aJ (aJ (w_var rfl (w_c (bb rfl (w_var rfl ?_)))))))))))
     refine ot b2 hs ?_
     rw[ht]
     refine xY (k:=stK s) h1 rfl (by unfold aA;omega) fun G2 c2 l2 h2=>⟨_,_,rfl,by omega,c1.trans c2,?_⟩
     rw[hsn,iU]
     have:lG (eM (y.ah.take i)) w=put (eM (y.ah.take i)) (stK s) (oD w.val):=by unfold lG;rw[hr,ht];rfl
     rw[this]
     exact h2
 · rintro σ G1 ⟨u,v,rfl,_,c1,h1⟩
   rw[List.take_length]at h1
   exact h u v G1 c1 h1
theorem HB{x0 x2 x3 x7 x8 x12:Option D}{z:Sy}{a1 a2 a3 b1 b2 b3 l6 c:Nat}{ci:Int}(hci:ci=(c:Int))(hc9:c<=9)(A:qK y a1 a2 a3 G)(B:qK z b1 b2 b3 G)(hk:y.af.ks.length=c)(gr:lA y.af.ks z.af.ks)(hw:z.ah=y.ah)(M:Md z)(h6:G[l6]? =some (.dT (eM y.ah)))
 (h:∀u v w,QS (.next,[x0,some (.int ci),x2,x3,some (.tup [.ref a1,.ref a2,.ref a3]),some (.tup [.ref b1,.ref b2,.ref b3]),some (.ref l6),x7,x8,u,v,w,x12]) G):
 M3.run ((k9 (gs (ae 1)) (gNm 9) (aq (sUn [10,11] (eOp oIx (eOp oIx (ae 5) (eC (.int 2))) (ae 9)))
 (aq (sIf (tOr (tB (eOp oLt (ae 10) (eOp oIx (eOp oIx (eOp oIx (ae 4) (eC (.int 2))) (ae 9)) (eC (.int 0))))) (tB (eOp kL (ae 10) (ae 6)))) (aC (eC (.bl false))) aW)
 (sIf (tB (eOp oNe (eOp zG (ae 6) (ae 10)) (ae 11))) (aC (eC (.bl false))) aW))))
 [x0,some (.int ci),x2,x3,some (.tup [.ref a1,.ref a2,.ref a3]),some (.tup [.ref b1,.ref b2,.ref b3]),some (.ref l6),x7,x8,none,none,none,x12]) G QS E:=by
 refine yz (kS (w_var rfl ?_))
 with_reducible refine uw hci (by omega) ?_
 refine pV (fun i σ G'=>∃u v w,σ=[x0,some (.int ci),x2,x3,some (.tup [.ref a1,.ref a2,.ref a3]),some (.tup [.ref b1,.ref b2,.ref b3]),some (.ref l6),x7,x8,u,v,w,x12]/\G'=G) ?_ ?_ ⟨none,none,none,rfl,rfl⟩
 · rintro i σ G1 hi ⟨u,v,w,rfl,e⟩
   subst e
   have hy:y.af.ks[i]? =some (y.af.ks[i]'(by omega)):=qA_ _
   have hz:z.af.ks[i]? =some (z.af.ks[i]'(by rw[gr.1];omega)):=qA_ _
   generalize y.af.ks[i]'(by omega)=ky at hy
   generalize z.af.ks[i]'(by rw[gr.1];omega)=kz at hz
   have e1:(y.af.ks.map fun k=>pD k.pair)[i]? =some (pD ky.pair):=by rw[qQ_,hy];rfl
   have e2:(z.af.ks.map fun k=>pD k.pair)[i]? =some (pD kz.pair):=by rw[qQ_,hz];rfl
   have hm:=BW M (M.hp _ (.k kz (qD_ hz) rfl))
   rw[hw]at hm
   have hg:=gr.2 i ky kz hy hz
   refine ay ?_
   with_reducible refine lB ?_
   walk_at "s"
   refine aB (ER (aJ (aJ (w_var rfl (w_c (bb rfl (w_var rfl ?_)))))))
   refine ot B.2.2 e2 ?_
   unfold pD
   refine BU rfl ?_
   walk_at "s"
   refine w_next ?_
   refine aB (cK (ox (gB (aJ (w_var rfl (aJ (aJ (aJ (w_var rfl (w_c (bb rfl (w_var rfl ?_))))))))))))
   refine ot A.2.2 e1 ?_
   refine w_c ?_
   unfold pD
   refine bb rfl ?_
   refine JK rfl rfl ?_
   refine eP ?_
   rw[show oX [kz.pair.1.1,kz.pair.1.2] [ky.pair.1.1,ky.pair.1.2]=false from hg,if_neg qC_]
   refine gB (aJ (w_var rfl (w_var rfl (Bu (k:=stK kz.pair.1) h6 rfl ?_))))
   rw[hm]
   refine eP ?_
   rw[show (!(some (D.int kz.pair.2)).isSome)=false from rfl,if_neg qC_]
   refine jx (w_next ?_)
   refine cK (gB (aJ (aJ (w_var rfl (w_var rfl (Fm (k:=stK kz.pair.1) h6 rfl hm (w_var rfl ?_)))))))
   refine jy (b:=true) (bV _) (eP ?_)
   rw[show (!true)=false from rfl,if_neg qC_]
   exact jx ⟨_,_,_,rfl,rfl⟩
 · rintro σ G1 ⟨u,v,w,rfl,e⟩
   subst e
   exact h u v w
def fu(m:Nat):List bU:=(List.range m).map fun k:Nat=>bU.qu (k:Int)
theorem Jx{ns:List Int}(hl:G[0]? =some (.frz (ns.map D.int)))(hQ:∀G',Q (.bl true) G'):M3.run (pZ [.ref 0]) G Q E:=by
 walk_at "f"
 unfold BV
 refine Hb hl fun c m ci mi G2 hci hmi hc0 hc9 hm0 hm9 c2=>?_
 have f2:=c2.get hl (by simp)
 refine aB (bq (D7 (a:=18) (by omega) f2 rfl rfl rfl hci hmi hc0 hm0 fun ds ld G3 c3 g3 hds _ h3=>?_))
 refine w_next ?_
 walk_at "s"
 clear f2 c2 hl
 refine aB (bq (aJ (w_var rfl ?_)))
 refine iN (kS (w_var rfl ?_))
 with_reducible refine uw hmi (by omega) ?_
 rw[Jg]
 with_reducible refine kP (f:=DS) (p:=fun _=>true) (g:=fun k:Nat=>bC (.qu (k:Int))) rfl (by simp;omega) (fun x _=>?_) (fun x _ _=>?_) ?_
 · exact gQ ⟨rfl,rfl⟩
 · walk_at "r"
   exact⟨rfl,rfl⟩
 rw[List.filter_eq_self.mpr (by simp)]
 intro G4 c4 l4 h4
 refine mI (c4.get h3 (by simp)) h4 (by rw[qM_,qM_,List.length_range];unfold aA;omega) fun G5 c5 l5 h5=>?_
 have em:ds.map bC++(List.range m).map (fun k:Nat=>bC (.qu (k:Int)))=(ds++fu m).map bC:=by
  unfold fu
  rw[qT_,qb_]
  rfl
 rw[em]at h5
 have hlz:(ds++fu m).length<=200:=by unfold fu;simp;omega
 have I0:=kM hc9 hm9
 obtain⟨I1,_,hl1,hk1⟩:=kI I0 ds
 obtain⟨I2,hl2,idle⟩:=qF I1 m (by rw[hl1];simp [ba,dq])
 have idle':∀(i:Nat) h,(cT (ba c m) (ds++fu m)).af.hs[i]? =some h->h.atw=false:=fun i h e=>by
  rw[mM]at e
  refine idle i h ?_ e
  have:=(qB_.mp e).1
  rw[show (cT (cT (ba c m) ds) (fu m)).af.hs.length=_ from hl2,hl1]at this
  simpa [ba,dq] using this
 obtain⟨I3,hd3,hl3,hk3⟩:=kI I0 (ds++fu m)
 have N3:=xa (uu c m) (ds++fu m)
 have M3':=FG (md0 c m) I0 ((ds++fu m)++[.sw])
 have an3:=sy (ba c m) (ds++fu m) [bU.sw,.ca 3 false,.sw]
 have run3:cT (ba c m) ((ds++fu m)++[.sw])=(aS (cT (ba c m) (ds++fu m)) .sw).1:=mM _ _ _
 generalize ds++fu m=ws at*
 clear h3 h4 em idle hl2 I2 I1 hl1 hk1 c4
 refine w_next ?_
 walk_at "s"
 generalize G4.length=l3 at*
 refine aB (bq (bI (ak (w_var rfl (ak (w_var rfl (ak (w_var rfl (az ?_)))))))))
 refine qo hci hmi hc9 hm9 h5 (by omega) fun a1 a2 a3 G6 c6 g1 g2 g3 A6=>?_
 refine w_next ?_
 walk_at "s"
 have h6:=c6.get h5 (by simp)
 have hz:(cT (ba c m) ws).ah.length<=1000:=by
  have:=I3.w
  rw[hd3]at this
  have:(cT (ba c m) ws).ah.length<=0+ws.length:=this
  omega
 have hk:(cT (ba c m) ws).af.ks.length=c:=by rw[hk3];simp [ba,dq]
 obtain⟨w1,gr,an⟩:=xG I3 N3 idle'
 rw[an]at an3
 generalize hy:cT (ba c m) ws=yy at*
 refine aB (bq (bI (ak (w_var rfl (ak (w_var rfl (ak (aJ (w_var rfl ?_)))))))))
 refine ib ?_
 walk_at "r"
 intro G7 c7 l7 h7
 refine mI (c7.get h6 (by simp)) h7 (by rw[qM_];unfold aA;simp;omega) fun G8 c8 l8 h8=>?_
 rw[show ws.map bC++[D.tup [D.str "sweep"]]=(ws++[bU.sw]).map bC by rw[qT_];rfl]at h8
 refine az ?_
 refine qo hci hmi hc9 hm9 h8 (by simp;omega) fun b1 b2 b3 G9 c9 k1 k2 k3 B9=>?_
 refine w_next ?_
 walk_at "s"
 rw[run3]at B9 M3'
 generalize hzz:(aS yy .sw).1=zz at*
 have c69:Chg [] G6 G9:=(c7.trans c8).trans c9
 have A9:=A6.Hr c69
 have h9:=c69.get h6 (by simp)
 clear c7 c8 c9 h7 h8 h6 h5 A6 c6
 refine aB (cK (ox (gB (oi (w_var rfl (AL ?_))))))
 rw[show decide (D.tup [D.ref a1,D.ref a2,D.ref a3]=D.non)=false from rfl]
 refine eP ?_
 rw[if_neg qC_]
 refine gB (oi (w_var rfl (AL ?_)))
 rw[show decide (D.tup [D.ref b1,D.ref b2,D.ref b3]=D.non)=false from rfl]
 refine eP ?_
 rw[if_neg qC_]
 refine jx (w_next ?_)
 have B1:=B9.1
 have B2:=B9.2.1
 rw[w1]at B1 B2
 refine aB (cK (ox (gB (aJ (aJ (w_var rfl (w_c (bb rfl (aJ (w_var rfl (w_c (bb rfl ?_))))))))))))
 refine jy (b:=true) (eq_list A9.1 B1 fun x hx=>?_) (eP ?_)
 · obtain⟨w,_,rfl⟩:=qH_.mp hx
   exact Ec w 5
 rw[show (!true)=false from rfl,if_neg qC_]
 refine gB (aJ (aJ (w_var rfl (w_c (bb rfl (aJ (w_var rfl (w_c (bb rfl ?_)))))))))
 refine jy (b:=true) (eq_list A9.2.1 B2 fun x hx=>?_) (eP ?_)
 · obtain⟨w,_,rfl⟩:=qH_.mp hx
   exact FI w.bG
 rw[show (!true)=false from rfl,if_neg qC_]
 refine jx (w_next ?_)
 refine aB (bq (Hc fun Ga ca la ha=>?_))
 walk_at "r"
 refine xY (k:=[0,0]) ha rfl (by simp [aA]) fun Gb cb lb hb=>?_
 rw[show put ([]:List (List Int×D)) [0,0] (D.int 0)=[([0,0],.int 0)]from rfl]at hb
 have c9b:Chg [] G9 Gb:=ca.trans' cb (by intro n hn;simp at hn;exact .inr (by omega))
 have Ab:=A9.Hr c9b
 have Bb:=B9.Hr c9b
 have hb9:=c9b.get h9 (by simp)
 have la1:=av A9.1
 have la2:=av A9.2.1
 have la3:=av A9.2.2
 have lb1:=av B9.1
 have lb2:=av B9.2.1
 have lb3:=av B9.2.2
 have ll3:=av h9
 refine w_next ?_
 walk_at "s"
 generalize G9.length=l6 at*
 refine aB (CU Ab hz hb (by omega) (by omega) fun u v Gc cc hc=>?_)
 have Ac:qK yy a1 a2 a3 Gc:=⟨cc.get Ab.1 (by simp;omega),cc.get Ab.2.1 (by simp;omega),cc.get Ab.2.2 (by simp;omega)⟩
 have Bc:qK zz b1 b2 b3 Gc:=⟨cc.get Bb.1 (by simp;omega),cc.get Bb.2.1 (by simp;omega),cc.get Bb.2.2 (by simp;omega)⟩
 have hcl:=cc.get hb9 (by simp;omega)
 refine w_next ?_
 refine aB (HB hci hc9 Ac Bc hk gr w1 M3' hc fun u' v' w'=>?_)
 refine w_next ?_
 refine aB (bq (bI (ak (w_var rfl (ak (w_var rfl (ak (aJ (w_var rfl ?_)))))))))
 refine ib ?_
 walk_at "r"
 intro Gd cd ld' hd
 refine mI (cd.get hcl (by simp)) hd (by rw[qM_];unfold aA;simp;omega) fun Ge ce le he=>?_
 rw[show ws.map bC++[D.tup [D.str "sweep"],D.tup [D.str "carry",D.int 3,D.bl false],D.tup [D.str "sweep"]]=(ws++[bU.sw,.ca 3 false,.sw]).map bC by rw[qT_];rfl]at he
 refine az ?_
 refine zj hci hmi hc9 hm9 he (by simp;omega) fun S lt vs Gf cf gf hf Af=>?_
 rw[an3]at Af
 refine w_next ?_
 walk_at "s"
 have hwf:=((cd.trans ce).trans cf).get hcl (by simp)
 have rl:=sD (ba c m) ws
 generalize gS (ba c m) ws=as at*
 have vl:vs.length=ws.length+3:=by rw[<-Af.1,qN_,rl];rfl
 obtain⟨v0,e0⟩:∃v,vs[ws.length]? =some v:=⟨_,qA_ (by omega)⟩
 obtain⟨v1,e1⟩:∃v,vs[ws.length+1]? =some v:=⟨_,qA_ (by omega)⟩
 obtain⟨v2,e2⟩:∃v,vs[ws.length+2]? =some v:=⟨_,qA_ (by omega)⟩
 have t0:=Af.2 ws.length (.lst []) v0 (by rw[<-rl];simp) e0
 have t1:=Af.2 (ws.length+1) (.one (.str "no letter")) v1 (by rw[<-rl];simp) e1
 have t2:=Af.2 (ws.length+2) (.lst []) v2 (by rw[<-rl];simp) e2
 obtain⟨q0,rfl,_,_,z0⟩:=t0
 obtain⟨q2,rfl,_,_,z2⟩:=t2
 cases (show v1=D.str "no letter" from t1)
 have i3:atI vs (-3)=some (.ref q0):=ue (k:=3) rfl (by omega) (by omega) (by rw[vl];exact e0)
 have i2:atI vs (-2)=some (.str "no letter"):=ue (k:=2) rfl (by omega) (by omega) (by rw[vl];exact e1)
 have i1:atI vs (-1)=some (.ref q2):=ue (k:=1) rfl (by omega) (by omega) (by rw[vl];exact e2)
 refine aB (cK (ox (ig (iB (bI (ak (w_var rfl (az (w_isK (Hg hf) (mn ?_))))))))))
 rw[show (!lx Kd.lst Kd.lst)=false from rfl,if_neg qC_]
 refine gB (aJ (bI (ak (w_var rfl (az (dN hf (aJ (bI (ak (w_var rfl (az (dN hwf (w_c ?_)))))))))))))
 with_reducible refine tj ?_
 refine jy (b:=true) (by rw[eq_int,qM_,vl];simp) (eP ?_)
 rw[show (!true)=false from rfl,if_neg qC_]
 refine jx (w_next ?_)
 refine aB (cK (ox (ig (iB (bI (ak (aJ (w_var rfl (oi (w_c (pS (cP hf i2 (az ?_)))))))))))))
 with_reducible refine mK ?_
 refine mn ?_
 rw[show (!true)=false from rfl,if_neg qC_]
 refine gB (aJ (aJ (w_var rfl (oi (w_c (pS (cP hf i2 (w_c ?_))))))))
 refine jy (b:=true) (dH _) (eP ?_)
 rw[show (!true)=false from rfl,if_neg qC_]
 refine jx (w_next ?_)
 refine bE (wV (bI (ak (aJ (w_var rfl (oi (w_c (pS (cP hf i3 ?_)))))))))
 refine ak (dI fun Gg cg lg hg=>az ?_)
 refine Jr 9 (.lst (cg.get z0 (by simp)) hg rfl (by simp) (by simp)) ?_
 refine eP ?_
 rw[if_pos rfl]
 refine bI (ak (aJ (w_var rfl (oi (w_c (pS (cP (cg.get hf (by simp)) i1 ?_)))))))
 refine ak (dI fun Gh ch lh hh=>az ?_)
 refine Jr 9 (.lst ((cg.trans ch).get z2 (by simp)) hh rfl (by simp) (by simp)) ?_
 exact kC (hQ _)
end
theorem CH(ns:List Int)(_:ns.length<=63):M3.run (KC.pZ [.ref 0]) [.frz (ns.map M3.D.int)] (fun d _=>d= .bl true) fun _ _=>False:=
 Jx (ns:=ns) rfl fun _=>rfl
end KS
namespace LK
open PySem PySem.Spec PyProof.Rows L2 L3 KC
local macro_rules |`(tactic|walk_at "sc")=>`(tactic|exact⟨rfl,rfl,rfl,by decide +kernel,rfl,by decide +kernel,by decide +kernel⟩)
local macro_rules |`(tactic|walk_at "nm")=>`(tactic|exact Iq (by decide +kernel) (by decide))
local macro_rules |`(tactic|walk_at "b2")=>`(tactic|exact fun _ _ _ _ _ _ us hl=>match us,hl with | [_,_],_=>rfl)
local macro_rules |`(tactic|walk_at "b1")=>`(tactic|exact fun _ _ _ _ _ _ us hl=>match us,hl with | [_],_=>rfl)
local macro_rules |`(tactic|walk_at "b3")=>`(tactic|exact fun _ _ _ _ _ _ us hl=>match us,hl with | [_,_,_],_=>rfl)
local macro_rules |`(tactic|walk_at "b5")=>`(tactic|exact fun _ _ _ _ _ _ us hl=>match us,hl with | [_,_,_,_,_],_=>rfl)
local macro_rules |`(tactic|walk_at "b4")=>`(tactic|exact fun _ _ _ _ _ _ us hl=>match us,hl with | [_,_,_,_],_=>rfl)
local macro_rules |`(tactic|walk_at "sb")=>`(tactic|first |exact .inl rfl |exact .inr rfl |assumption)
def top(i:Nat):Stmt:=PySem.Challenge.pw_halfask_k09_whole_late_letters.main.body.getD i (.Pass ⟨0,0,0,0⟩)
def nmL:List Str:=["number","count","at_work","value","pair","round_number","heard","own_turn","is_up","keepers","hands","row","hand","word","begun","ended","stamp","hall","works","last_places","deeds_done"]
def nmF(g:Nat):Str:=nmL.getD g Str.empty
abbrev TT(cl:Nat->Option Addr):Tab:=⟨cl,nmF⟩
abbrev nF:Stmt:=top 9
theorem qD:au ["count","many"] ["count","many"] (aj nF):=by walk_at "sc"
abbrev pJ:Stmt:=top 10
theorem se:au ["pairs","best","pair"] ["pairs"] (aj pJ):=by walk_at "sc"
abbrev hZ:Stmt:=top 11
theorem gv:au ["pairs","own","hand","turns"] ["pairs","own","hand"] (aj hZ):=by walk_at "sc"
abbrev jI:Stmt:=inClass (top 13) 0
theorem nu:au ["self","number","count"] ["self","number","count"] (aj jI):=by walk_at "sc"
abbrev gC:Stmt:=inClass (top 13) 5
theorem fQ:au ["self","waited_for"] ["self"] (aj gC):=by walk_at "sc"
abbrev dW:Stmt:=inClass (top 13) 4
theorem fV:au ["self","pair"] ["self","pair"] (aj dW):=by walk_at "sc"
abbrev iL:Stmt:=inClass (top 13) 3
theorem lE:au ["self","value"] ["self","value"] (aj iL):=by walk_at "sc"
abbrev dZ:Stmt:=inClass (top 13) 1
theorem fU:au ["self","value"] ["self","value"] (aj dZ):=by walk_at "sc"
abbrev eT:Stmt:=inClass (top 13) 2
theorem gu:au ["self"] ["self"] (aj eT):=by walk_at "sc"
abbrev dP:Stmt:=inClass (top 13) 8
theorem fW:au ["self"] ["self"] (aj dP):=by walk_at "sc"
abbrev eJ:Stmt:=inClass (top 13) 6
theorem gD:au ["self"] ["self"] (aj eJ):=by walk_at "sc"
abbrev gp:Stmt:=inClass (top 13) 7
theorem jw:au ["self"] ["self"] (aj gp):=by walk_at "sc"
abbrev hJ:Stmt:=inClass (top 13) 10
theorem gJ:au ["self","pairs","stamp"] ["self"] (aj hJ):=by walk_at "sc"
abbrev kD:Stmt:=inClass (top 13) 9
theorem mH:au ["self","answer"] ["self","answer"] (aj kD):=by walk_at "sc"
abbrev ik:Stmt:=inClass (top 15) 0
theorem jL:au ["self"] ["self"] (aj ik):=by walk_at "sc"
abbrev hU:Stmt:=inClass (top 15) 1
theorem ko:au ["self","changed"] ["self"] (aj hU):=by walk_at "sc"
abbrev ie:Stmt:=inClass (top 15) 2
theorem j8:au ["self","changed"] ["self"] (aj ie):=by walk_at "sc"
abbrev il:Stmt:=inClass (top 15) 3
theorem jD:au ["self","pair"] ["self","pair"] (aj il):=by walk_at "sc"
abbrev ek:Stmt:=inClass (top 15) 4
theorem fY:au ["self","letter","pair"] ["self","letter"] (aj ek):=by walk_at "sc"
abbrev ki:Stmt:=inClass (top 17) 0
theorem mJ:au ["self","count","many"] ["self","count","many"] (aj ki):=by walk_at "sc"
abbrev gF:Stmt:=inClass (top 17) 1
theorem jv:au ["self","number"] ["self","number"] (aj gF):=by walk_at "sc"
abbrev fx:Stmt:=inClass (top 17) 2
theorem gZ:au ["self","number"] ["self","number"] (aj fx):=by walk_at "sc"
abbrev jR:Stmt:=inClass (top 17) 9
theorem ny:au ["self","letters"] ["self","letters"] (aj jR):=by walk_at "sc"
abbrev jn:Stmt:=inClass (top 17) 3
theorem lL:au ["self","hand","value"] ["self","hand","value"] (aj jn):=by walk_at "sc"
abbrev jZ:Stmt:=inClass (top 17) 4
theorem nr:au ["self","hand"] ["self","hand"] (aj jZ):=by walk_at "sc"
abbrev iX:Stmt:=inClass (top 17) 5
theorem lJ:au ["self","hand","letters"] ["self","hand"] (aj iX):=by walk_at "sc"
abbrev je:Stmt:=inClass (top 17) 6
theorem lH:au ["self","hand"] ["self","hand"] (aj je):=by walk_at "sc"
abbrev ef:Stmt:=inClass (top 17) 7
theorem gb:au ["self","keeper"] ["self","keeper"] (aj ef):=by walk_at "sc"
abbrev dX:Stmt:=inClass (top 17) 8
theorem fX:au ["self","keeper"] ["self","keeper"] (aj dX):=by walk_at "sc"
abbrev cM:Stmt:=inClass (top 17) 15
theorem eK:au ["self","letter","answer"] ["self","letter"] (aj cM):=by walk_at "sc"
abbrev du:Stmt:=inClass (top 17) 16
theorem fP:au ["self","answer","brought"] ["self","answer"] (aj du):=by walk_at "sc"
abbrev j6:Stmt:=inClass (top 17) 14
theorem ng:au ["self","place","stays","entry"] ["self","place","stays"] (aj j6):=by walk_at "sc"
abbrev iH:Stmt:=inClass (top 17) 10
theorem lK:au ["self","number","stays"] ["self","number","stays"] (aj iH):=by walk_at "sc"
abbrev c0:Stmt:=inClass (top 17) 12
theorem e9:au ["self","hand","keeper","place","entry"] ["self","hand","keeper"] (aj c0):=by walk_at "sc"
abbrev cV:Stmt:=inClass (top 17) 11
theorem eZ:au ["self","hand","keeper","ends","place"] ["self","hand","keeper"] (aj cV):=by walk_at "sc"
abbrev iS:Stmt:=inClass (top 17) 13
theorem lz:au ["self","ends"] ["self"] (aj iS):=by walk_at "sc"
abbrev jF:Stmt:=inClass (top 19) 0
theorem mB:au ["self","hand","word","value","begun"] ["self","hand","word","value","begun"] (aj jF):=by walk_at "sc"
abbrev kc:Stmt:=inClass (top 19) 1
theorem mT:au ["self"] ["self"] (aj kc):=by walk_at "sc"
abbrev jg:Stmt:=inClass (top 20) 0
theorem lC:au ["self","count","many"] ["self","count","many"] (aj jg):=by walk_at "sc"
abbrev eG:Stmt:=inClass (top 20) 4
theorem gN:au ["self","hand","word","value","place"] ["self","hand","word","value"] (aj eG):=by walk_at "sc"
abbrev fm:Stmt:=inClass (top 20) 6
theorem hI:au ["self","hand","pair","place","work"] ["self","hand","pair"] (aj fm):=by walk_at "sc"
abbrev eS:Stmt:=inClass (top 20) 5
theorem gH:au ["self","ends"] ["self","ends"] (aj eS):=by walk_at "sc"
abbrev jb:Stmt:=inClass (top 20) 3
theorem lM:au ["self","deed","word","ends"] ["self","deed"] (aj jb):=by walk_at "sc"
abbrev cy:Stmt:=inClass (top 20) 2
theorem dD:au ["self","deed"] ["self","deed"] (aj cy):=by walk_at "sc"
abbrev dB:Stmt:=inClass (top 20) 7
theorem b0:au ["self","hand","place","pair","work"] ["self"] (aj dB):=by walk_at "sc"
abbrev gx:Stmt:=inClass (top 20) 1
theorem jt:au ["self","deed","told"] ["self","deed"] (aj gx):=by walk_at "sc"
abbrev nU:Stmt:=top 21
theorem pW:au ["count","many","deeds","story"] ["count","many","deeds"] (aj nU):=by walk_at "sc"
abbrev kq:Stmt:=top 22
theorem eQ:au ["count","many","deeds","story","deed","works","stamps","pairs"] ["count","many","deeds"] (aj kq):=by walk_at "sc"
abbrev Hk:Stmt:=top 24
theorem yx:au ["_law_found","_law_meant","_law_k"] ["_law_found","_law_meant"] (aj Hk):=by walk_at "sc"
abbrev tK:Stmt:=top 25
theorem vI:au ["_law_found"] ["_law_found"] (aj tK):=by walk_at "sc"
abbrev FZ:Stmt:=top 26
theorem Ek:au ["_law_script","_law_k"] ["_law_script","_law_k"] (aj FZ):=by walk_at "sc"
abbrev lU:Stmt:=top 27
theorem oH:au ["_law_cell","_law_k","_law_wide","_law_some"] ["_law_cell","_law_k"] (aj lU):=by walk_at "sc"
abbrev om:Stmt:=top 28
theorem qr:au ["_law_cell","_law_k","_law_count","_law_many","_law_way","_law_hand","_law_keeper","_law_number"] ["_law_cell","_law_k","_law_count","_law_many"] (aj om):=by walk_at "sc"
abbrev nS:Stmt:=top 29
theorem qf:au ["_law_cell","_law_count","_law_many","_law_way","_law_deeds"] ["_law_cell","_law_count","_law_many"] (aj nS):=by walk_at "sc"
abbrev td:Stmt:=top 30
theorem uR:au ["_law_cells","_law_count","_law_many","_law_deeds","_law_k"] ["_law_cells","_law_count","_law_many"] (aj td):=by walk_at "sc"
abbrev mz:Stmt:=top 31
theorem oS:au ["_law_found"] ["_law_found"] (aj mz):=by walk_at "sc"
abbrev nM:Stmt:=top 32
theorem qP:au ["_law_found"] ["_law_found"] (aj nM):=by walk_at "sc"
abbrev nT:Stmt:=top 33
theorem qT:au ["_law_found","_law_hand","_law_word","_law_value","_law_begun","_law_ended"] ["_law_found"] (aj nT):=by walk_at "sc"
abbrev jS:Stmt:=top 34
theorem mL:au ["_law_found","_law_count","_law_row","_law_one","_law_stamp","_law_pair"] ["_law_found","_law_count"] (aj jS):=by walk_at "sc"
abbrev lV:Stmt:=top 35
theorem oF:au ["_law_count","_law_many","_law_deeds","_law_handed","_law_found"] ["_law_count","_law_many","_law_deeds"] (aj lV):=by walk_at "sc"
abbrev xc:Stmt:=top 36
theorem yb:au ["_law_script","_law_most","_law_bound"] ["_law_script","_law_most","_law_bound"] (aj xc):=by walk_at "sc"
abbrev sA:Stmt:=top 37
theorem w4:au ["_law_script","_law_count","_law_many","_law_deeds","_law_ahead","_law_behind","_law_made","_law_place","_law_work","_law_k","_law_stamp","_law_value","_law_told"] ["_law_script"] (aj sA):=by walk_at "sc"
structure Txt (K:PySem.W.Frag) (mg:Str->Option Value) (cl:Nat->Option Addr):Prop where
 Jt:mg "max"=none
 ja:mg "range"=none
 tF:mg "list"=none
 Js:mg "len"=none
 vd:mg "enumerate"=none
 HW:mg "bool"=none
 nC:mg "isinstance"=none
 EF:mg "int"=none
 IH:mg "str"=none
 Fp:mg "dict"=none
 yc:mg "tuple"=none
 g_BEGINNING:Eu K mg "BEGINNING" (.tup [(.tup [(.int 0),(.int 0)]),(.int 0)])
 fA:∀j,j < 21->yw (TT cl) K j
 Es:∃C,cl 1000=some C/\XCl K mg "HalfError" C
 EI:True
 vh:∃C,cl 1001=some C/\XCl K mg "NoHand" C
 B4:∃C,mg "NoHand"=some (.ref C)/\∀c Ca,cl c=some Ca->PySem.W.exmOne K (.ref Ca) (.ref C)=some (decide (c=1001))
 qg:∃C,cl 1002=some C/\XCl K mg "NoKeeper" C
 wd:∃C,mg "NoKeeper"=some (.ref C)/\∀c Ca,cl c=some Ca->PySem.W.exmOne K (.ref Ca) (.ref C)=some (decide (c=1002))
 qO:∃C,cl 1003=some C/\XCl K mg "NoLetter" C
 wx:∃C,mg "NoLetter"=some (.ref C)/\∀c Ca,cl c=some Ca->PySem.W.exmOne K (.ref Ca) (.ref C)=some (decide (c=1003))
 BB:∃C,cl 1004=some C/\XCl K mg "Busy" C
 HK:∃C,mg "Busy"=some (.ref C)/\∀c Ca,cl c=some Ca->PySem.W.exmOne K (.ref Ca) (.ref C)=some (decide (c=1004))
 A5:∃C,cl 1005=some C/\XCl K mg "Idle" C
 Hx:∃C,mg "Idle"=some (.ref C)/\∀c Ca,cl c=some Ca->PySem.W.exmOne K (.ref Ca) (.ref C)=some (decide (c=1005))
set_option hygiene false in
local macro_rules |`(tactic|walk_at "e")=>`(tactic|first
 |exact dE _
 |exact uH
 |exact EV
 |exact Ii
 |exact Iw
 |exact Gz Z.g_BEGINNING
 |((fail_if_success (fail_if_success (with_reducible apply zh)));refine zh hu ?_ ?_ <;> walk_at "e")
 |((fail_if_success (fail_if_success (with_reducible apply ou)));refine ou (Z.fA _ (by decide)) ?_;walk_at "e")
 |((fail_if_success (fail_if_success (with_reducible apply BQ)));refine BQ ?_ ?_ <;> walk_at "e")
 |((fail_if_success (fail_if_success (with_reducible apply Ct)));refine Ct ?_ ?_ <;> walk_at "e")
 |((fail_if_success (fail_if_success (with_reducible apply Cu)));refine Cu ?_ ?_ <;> walk_at "e")
 |((fail_if_success (fail_if_success (with_reducible apply Ar)));refine Ar ?_ ?_ <;> walk_at "e")
 |((fail_if_success (fail_if_success (with_reducible apply z_oDiv)));refine z_oDiv ?_ ?_ <;> walk_at "e")
 |((fail_if_success (fail_if_success (with_reducible apply uS)));refine uS ?_;walk_at "a")
 |((fail_if_success (fail_if_success (with_reducible apply Fd)));refine Fd ?_;walk_at "a")
 |((fail_if_success (fail_if_success (with_reducible apply Bl)));refine Bl Z.Js ?_;walk_at "a")
 |((fail_if_success (fail_if_success (with_reducible apply z9)));refine z9 rfl Z.Jt ?_;walk_at "a")
 |((fail_if_success (fail_if_success (with_reducible apply xU)));refine xU Z.tF ?_;walk_at "a")
 |((fail_if_success (fail_if_success (with_reducible apply AM)));refine AM Z.EF ?_;walk_at "a")
 |((fail_if_success (fail_if_success (with_reducible apply JI)));refine JI _ Z.nC ?_ ?_;(first |exact Z.EF |exact Z.HW |exact Z.IH |exact Z.yc |exact Z.tF |exact Z.Fp);walk_at "e")
 |((fail_if_success (fail_if_success (with_reducible apply Dc)));refine x_call (by assumption) ?_ ?_ ?_;exact hr.mono (by decide);(first |exact gX |exact Bh jM jO);walk_at "a")
 |((fail_if_success (fail_if_success (with_reducible apply Dr)));refine xD (by assumption) ?_ ?_ ?_ ?_;exact hr.mono (by decide);(first |exact gX |exact Bh jM jO);walk_at "e";walk_at "a")
 |((fail_if_success (fail_if_success (with_reducible apply Ag)));refine yA (by assumption) ?_ ?_ ?_;exact hr.mono (by decide);(first |exact gX |exact Bh jM jO);walk_at "e")
 |((fail_if_success (fail_if_success (with_reducible apply CT)));refine Cy (by assumption) ?_ ?_ ?_;exact hr.mono (by decide);exact gX;walk_at "a")
 |((fail_if_success (fail_if_success (with_reducible apply B3)));refine yl (by assumption) ?_ ?_;exact hr.mono (by decide);exact gX)
 |((fail_if_success (fail_if_success (with_reducible apply Em)));refine Em ?_ ?_ hu <;> walk_at "e")
 |((fail_if_success (fail_if_success (with_reducible apply z_oNe)));refine z_oNe ?_ ?_ hu <;> walk_at "e")
 |((fail_if_success (fail_if_success (with_reducible apply z_oLt)));refine z_oLt ?_ ?_ hu <;> walk_at "e")
 |((fail_if_success (fail_if_success (with_reducible apply E6)));refine E6 ?_ ?_ hu <;> walk_at "e")
 |((fail_if_success (fail_if_success (with_reducible apply z_oLe)));refine z_oLe ?_ ?_ hu <;> walk_at "e")
 |((fail_if_success (fail_if_success (with_reducible apply z_oGe)));refine z_oGe ?_ ?_ hu <;> walk_at "e")
 |((fail_if_success (fail_if_success (with_reducible apply z_oIn)));refine z_oIn ?_ ?_ hu <;> walk_at "e")
 |((fail_if_success (fail_if_success (with_reducible apply z_oNotIn)));refine z_oNotIn ?_ ?_ hu <;> walk_at "e")
 |((fail_if_success (fail_if_success (with_reducible apply ED)));refine ED ?_;walk_at "e")
 |((fail_if_success (fail_if_success (with_reducible apply x_notN)));refine x_notN ?_;walk_at "e")
 |((fail_if_success (fail_if_success (with_reducible apply Et)));refine Et ?_;walk_at "e")
 |((fail_if_success (fail_if_success (with_reducible apply yL)));refine yL ?_ ?_ <;> walk_at "e")
 |((fail_if_success (fail_if_success (with_reducible apply Jf)));refine Jf ?_ ?_ <;> walk_at "e")
 |((fail_if_success (fail_if_success (with_reducible apply xS)));refine xS ?_;walk_at "e")
 |((fail_if_success (fail_if_success (with_reducible apply vW)));refine vW ?_ ?_ <;> walk_at "e")
 |((fail_if_success (fail_if_success (with_reducible apply Cd)));refine Cd ?_ ?_ (by walk_at "ss") <;> walk_at "e")
 |((fail_if_success (fail_if_success (with_reducible apply mD)));refine mD ?_ ?_ <;> walk_at "e")
 |((fail_if_success (fail_if_success (with_reducible apply ye)));refine ye ?_ ?_ <;> walk_at "e")
 |((fail_if_success (fail_if_success (with_reducible apply IE)));refine IE DE ?_;walk_at "e")
 |((fail_if_success (fail_if_success (with_reducible apply yK)));refine yK ?_ ?_ ?_;walk_at "e";(first |exact Ao |(refine Am ?_;walk_at "e"));(first |exact Ao |(refine Am ?_;walk_at "e")))
 |exact CJ
 |((fail_if_success (fail_if_success (with_reducible apply JE)));refine JE ?_ ?_ ?_;walk_at "t";walk_at "e";walk_at "e")
 |exact xf
 |((fail_if_success (fail_if_success (with_reducible apply EW)));refine EW hu ?_ ?_ <;> walk_at "e")
 |((fail_if_success (fail_if_success (with_reducible apply BO)));refine BO hu ?_ ?_ <;> walk_at "e")
 |exact x_dictT
 |((fail_if_success (fail_if_success (with_reducible apply z_oInT)));refine z_oInT ?_ ?_ hu <;> walk_at "e")
 |((fail_if_success (fail_if_success (with_reducible apply z_oNotInT)));refine z_oNotInT ?_ ?_ hu <;> walk_at "e"))
set_option hygiene false in
local macro_rules |`(tactic|walk_at "t")=>`(tactic|first
 |((fail_if_success (fail_if_success (with_reducible apply ET)));refine ET ?_ ?_ hu <;> walk_at "e")
 |((fail_if_success (fail_if_success (with_reducible apply EB)));refine EB ?_ ?_ hu <;> walk_at "e")
 |((fail_if_success (fail_if_success (with_reducible apply EH)));refine EH ?_ ?_ hu <;> walk_at "e")
 |((fail_if_success (fail_if_success (with_reducible apply Ez)));refine Ez ?_ ?_ hu <;> walk_at "e")
 |((fail_if_success (fail_if_success (with_reducible apply u_oLe)));refine u_oLe ?_ ?_ hu <;> walk_at "e")
 |((fail_if_success (fail_if_success (with_reducible apply EG)));refine EG ?_ ?_ hu <;> walk_at "e")
 |((fail_if_success (fail_if_success (with_reducible apply u_oIn)));refine u_oIn ?_ ?_ hu <;> walk_at "e")
 |((fail_if_success (fail_if_success (with_reducible apply u_oNotIn)));refine u_oNotIn ?_ ?_ hu <;> walk_at "e")
 |((fail_if_success (fail_if_success (with_reducible apply u_oInT)));refine u_oInT ?_ ?_ hu <;> walk_at "e")
 |((fail_if_success (fail_if_success (with_reducible apply sg)));refine sg ?_ ?_ hu <;> walk_at "e")
 |((fail_if_success (fail_if_success (with_reducible apply El)));refine El ?_;walk_at "e")
 |((fail_if_success (fail_if_success (with_reducible apply Ck)));refine Ck ?_;walk_at "e")
 |((fail_if_success (fail_if_success (with_reducible apply xW)));refine xW ?_;walk_at "t")
 |((fail_if_success (fail_if_success (with_reducible apply PW.pt)));refine PW.pt ?_;walk_at "p")
 |((fail_if_success (fail_if_success (with_reducible apply DB)));refine DB ?_;walk_at "e"))
set_option hygiene false in
local macro_rules |`(tactic|walk_at "p")=>`(tactic|first
 |((fail_if_success (fail_if_success (with_reducible apply w_and)));refine w_and ?_ ?_;walk_at "t";walk_at "p")
 |((fail_if_success (fail_if_success (with_reducible apply w_or)));refine w_or ?_ ?_;walk_at "t";walk_at "p")
 |((fail_if_success (fail_if_success (with_reducible apply Aj)));refine Aj ?_;walk_at "t")
 |((fail_if_success (fail_if_success (with_reducible apply A1)));refine A1 ?_;walk_at "t"))
set_option hygiene false in
local macro_rules |`(tactic|walk_at "a")=>`(tactic|first
 |exact oP
 |((fail_if_success (fail_if_success (with_reducible apply cZ)));refine cZ ?_ ?_ ?_;walk_at "e";walk_at "a";walk_at "ss"))
set_option hygiene false in
local macro_rules |`(tactic|walk_at "ss")=>`(tactic|first
 |exact fk
 |exact lX
 |exact ol
 |exact A4
 |exact pF
 |exact AK
 |exact kH
 |exact Bi
 |exact Bv
 |exact star_un
 |rfl)
set_option hygiene false in
local macro_rules |`(tactic|walk_at "q")=>`(tactic|first
 |exact DG
 |exact sw_const
 |exact sV
 |exact sw_tup
 |exact FA
 |exact AJ
 |exact Ea
 |exact FX
 |exact sw_cmp
 |exact IW
 |rfl)
set_option hygiene false in
local macro_rules |`(tactic|walk_at "y")=>`(tactic|first
 |((fail_if_success (fail_if_success (with_reducible apply rA)));refine rA ?_ ?_ ?_;walk_at "t";walk_at "b";walk_at "b")
 |((fail_if_success (fail_if_success (with_reducible apply y_ret)));refine y_ret ?_;walk_at "e")
 |((fail_if_success (fail_if_success (with_reducible apply yJ)));refine yJ ?_ ?_ ?_ ?_ ?_ ?_;exact nd;exact rfl;(first |exact Or.inl rfl |exact Or.inr rfl);walk_at "e";walk_at "q";(walk_at "sb"))
 |((fail_if_success (fail_if_success (with_reducible apply wj)));refine wj ?_ ?_;walk_at "e";walk_at "q")
 |((fail_if_success (fail_if_success (with_reducible apply yB)));refine yB (Z.fA _ (by decide)) ?_ ?_ <;> walk_at "e")
 |((fail_if_success (fail_if_success (with_reducible apply BY)));refine BY ?_ rfl ?_ ?_ ?_;(first |exact PassesOwn.never |exact vq);walk_at "i";walk_at "g";walk_at "b")
 |((fail_if_success (fail_if_success (with_reducible apply EJ)));refine EJ hu ?_ ?_ ?_ <;> walk_at "e")
 |((fail_if_success (fail_if_success (with_reducible apply JF)));refine JF ?_ ?_;walk_at "e";walk_at "g")
 |((fail_if_success (fail_if_success (with_reducible apply yu)));refine yu ?_ ?_ ?_;(first |exact PassesOwn.never |exact vq);walk_at "t";walk_at "b")
 |exact y_pass
 |exact y_retN
 |((fail_if_success (fail_if_success (with_reducible apply Ak)));refine Ak hu ?_ ?_ ?_ <;> walk_at "e"))
set_option hygiene false in
local macro_rules |`(tactic|walk_at "i")=>`(tactic|first
 |((fail_if_success (fail_if_success (with_reducible apply l0)));refine l0 Z.ja ?_;walk_at "e")
 |((fail_if_success (fail_if_success (with_reducible apply i_rng2)));refine i_rng2 Z.ja ?_ ?_ <;> walk_at "e")
 |((fail_if_success (fail_if_success (with_reducible apply A8)));refine A8 Z.vd ?_;walk_at "e")
 |((fail_if_success (fail_if_success (with_reducible apply rJ)));refine rJ ?_;walk_at "e"))
set_option hygiene false in
local macro_rules |`(tactic|walk_at "g")=>`(tactic|first
 |((fail_if_success (fail_if_success (with_reducible apply FK)));refine FK ?_ ?_ ?_;exact nd;exact rfl;(first |exact Or.inl rfl |exact Or.inr rfl))
 |((fail_if_success (fail_if_success (with_reducible apply Gn)));refine Gn rfl ?_;walk_at "h"))
set_option hygiene false in
local macro_rules |`(tactic|walk_at "h")=>`(tactic|first
 |exact EC
 |((fail_if_success (fail_if_success (with_reducible apply uj)));refine uj ?_ ?_ ?_ ?_;exact nd;exact rfl;(first |exact Or.inl rfl |exact Or.inr rfl);walk_at "h"))
set_option hygiene false in
local macro_rules |`(tactic|walk_at "b")=>`(tactic|first
 |exact m3
 |(refine cL ?_;walk_at "y")
 |(refine aO ?_ ?_;walk_at "y";walk_at "b"))
section
seal L2.PE L2.PT L2.PW L2.PA L2.PS L2.PSs L2.PI L2.PG L2.PGs L2.PO L3.tE L3.tT L3.tA L3.tS L3.tI L3.tG L3.tGs
variable(P:Program)(w:World){K:PySem.W.Frag}(mg:Str->Option Value)(base:Heap){cl:Nat->Option Addr}
theorem wJ{fa:Addr}{fd:FuncData}(F:Fun K "is_more" "is_more" nF fa fd)(Z:Txt K mg cl):aP P w K mg base CX0 1 fa fd ["count","many"] (sp3 (TT cl) K 2 kF):=by
 exact bf (k:=0) F qD rfl rfl fun cdv A outer s H E hr=>have hu:=hr.units
  have nd:=qD.nd
  (by delta nX;walk_at "b")
theorem zw{fa:Addr}{fd:FuncData}(F:Fun K "newest" "newest" pJ fa fd)(Z:Txt K mg cl):aP P w K mg base CX0 1 fa fd ["pairs"] (sp3 (TT cl) K 1 mX):=by
 exact bf (k:=0) F se rfl rfl fun cdv A outer s H E hr=>have hu:=hr.units
  have nd:=se.nd
  (by delta pM;walk_at "b")
theorem qd{fa:Addr}{fd:FuncData}(F:Fun K "stamp_after" "stamp_after" hZ fa fd)(Z:Txt K mg cl):aP P w K mg base CX0 1 fa fd ["pairs","own","hand"] (sp3 (TT cl) K 3 fC):=by
 exact bf (k:=0) F gv rfl rfl fun cdv A outer s H E hr=>have hu:=hr.units
  have nd:=gv.nd
  (by delta ia;refine aO ?_ ?_;exact(iA (i:=3) (Blk.nil rfl rfl (by decide +kernel) rfl) rfl gv.nd rfl rfl (rJ (by walk_at "e")) (fun _ _ _ _ _=>eI) (fun _ _ _ _ _=>(by refine zh hu ?_ ?_;refine zh hu ?_ ?_;exact(dE 0);exact uH;exact uH)));refine cL ?_;walk_at "y")
theorem tL{fa:Addr}{fd:FuncData}(F:Fun K "__init__" "Hand.__init__" jI fa fd)(Z:Txt K mg cl):aP P w K mg base CX0 1 fa fd ["self","number","count"] (sp3 (TT cl) K 3 gU):=by
 exact bf (k:=0) F nu rfl rfl fun cdv A outer s H E hr=>have hu:=hr.units
  have nd:=nu.nd
  (by delta jJ;walk_at "b")
theorem oV{fa:Addr}{fd:FuncData}(F:Fun K "letters" "Hand.letters" gC fa fd)(Z:Txt K mg cl):aP P w K mg base CX0 1 fa fd ["self"] (sp3 (TT cl) K 1 cx):=by
 exact bf (k:=0) F fQ rfl rfl fun cdv A outer s H E hr=>have hu:=hr.units
  have nd:=fQ.nd
  (by delta gE;refine aO ?_ ?_;exact(iA (i:=1) (Blk.of (caps:=[("self",0)]) (cl:=[("self",s.heap.objs.size+1)]) rfl rfl rfl rfl rfl (by decide) rfl rfl rfl rfl rfl) rfl fQ.nd rfl rfl (l0 Z.ja (by walk_at "e")) (fun _ _ _ _ _=>D5 (qw (Ci hu) (dE 0) (ou (Z.fA 6 (by decide)) (dE 1)) rfl)) (fun _ _ _ _ _=>(dE 0)));refine cL ?_;refine y_ret ?_;exact(mh (Blk.of (caps:=[("self",0)]) (cl:=[("self",s.heap.objs.size+1)]) rfl rfl rfl rfl rfl (by decide) rfl rfl rfl rfl rfl) rfl (rJ (by walk_at "e")) (fun _ _ _ _ _=>eI) (fun _ _ _ _ _=>(by refine uS ?_;refine cZ ?_ ?_ ?_;exact(ou (Z.fA 0 (by decide)) (dE 1));refine cZ ?_ ?_ ?_;exact(dE 0);refine cZ ?_ ?_ ?_;exact(ou (Z.fA 5 (by decide)) (dE 1));refine cZ ?_ ?_ ?_;exact(ou (Z.fA 4 (by decide)) (dE 1));exact oP;exact kH;exact kH;exact fk;exact kH))))
theorem lq{fa:Addr}{fd:FuncData}(F:Fun K "begin_round" "Hand.begin_round" dW fa fd)(Z:Txt K mg cl)(Fx20:Mt3 P w K mg base CX0 (TT cl) 1 0 "letters" 1 cx):aP P w K mg base CX0 2 fa fd ["self","pair"] (sp3 (TT cl) K 2 bF):=by
 exact bf (k:=1) F fV rfl rfl fun cdv A outer s H E hr=>have hu:=hr.units
  have nd:=fV.nd
  (by delta et;walk_at "b")
theorem rD{fa:Addr}{fd:FuncData}(F:Fun K "begin" "Hand.begin" iL fa fd)(Z:Txt K mg cl)(Fx21:Mt3 P w K mg base CX0 (TT cl) 2 0 "begin_round" 2 bF):aP P w K mg base (CX1 P w) 3 fa fd ["self","value"] (sp3 (TT cl) K 2 dm):=by
 obtain⟨BB,ec_Busy,ex_Busy⟩:=Z.BB
 exact fM (k:=2) F lE rfl rfl fun cdv A outer s H E hr=>have hu:=hr.units
  have nd:=lE.nd
  (by delta iT;refine aO ?_ ?_;refine rA ?_ ?_ ?_;walk_at "t";refine cL ?_;exact(y_raise jM jO hr.hd ex_Busy ec_Busy (by walk_at "a"));exact m3;refine aO ?_ ?_;walk_at "y";refine aO ?_ ?_;walk_at "y";refine cL ?_;walk_at "y")
theorem lc{fa:Addr}{fd:FuncData}(F:Fun K "begin_write" "Hand.begin_write" dZ fa fd)(Z:Txt K mg cl)(Fx22:Mt3 P w K mg base (CX1 P w) (TT cl) 3 0 "begin" 2 dm):aP P w K mg base (CX1 P w) 4 fa fd ["self","value"] (sp3 (TT cl) K 2 cG):=by
 exact fM (k:=3) F fU rfl rfl fun cdv A outer s H E hr=>have hu:=hr.units
  have nd:=fU.nd
  (by delta dQ;walk_at "b")
theorem mv{fa:Addr}{fd:FuncData}(F:Fun K "begin_read" "Hand.begin_read" eT fa fd)(Z:Txt K mg cl)(Fx22:Mt3 P w K mg base (CX1 P w) (TT cl) 3 0 "begin" 2 dm):aP P w K mg base (CX1 P w) 4 fa fd ["self"] (sp3 (TT cl) K 1 cR):=by
 exact fM (k:=3) F gu rfl rfl fun cdv A outer s H E hr=>have hu:=hr.units
  have nd:=gu.nd
  (by delta eW;walk_at "b")
theorem li{fa:Addr}{fd:FuncData}(F:Fun K "refuse_idle" "Hand.refuse_idle" dP fa fd)(Z:Txt K mg cl):aP P w K mg base (CX1 P w) 1 fa fd ["self"] (sp3 (TT cl) K 1 bD):=by
 obtain⟨A5,ec_Idle,ex_Idle⟩:=Z.A5
 exact fM (k:=0) F fW rfl rfl fun cdv A outer s H E hr=>have hu:=hr.units
  have nd:=fW.nd
  (by delta dS;refine cL ?_;refine rA ?_ ?_ ?_;walk_at "t";refine cL ?_;exact(y_raise jM jO hr.hd ex_Idle ec_Idle (by walk_at "a"));exact m3)
theorem ma{fa:Addr}{fd:FuncData}(F:Fun K "send_again" "Hand.send_again" eJ fa fd)(Z:Txt K mg cl)(Fx20:Mt3 P w K mg base CX0 (TT cl) 1 0 "letters" 1 cx)(Fx23:Mt3 P w K mg base (CX1 P w) (TT cl) 1 0 "refuse_idle" 1 bD):aP P w K mg base (CX1 P w) 2 fa fd ["self"] (sp3 (TT cl) K 1 cQ):=by
 exact fM (k:=1) F gD rfl rfl fun cdv A outer s H E hr=>have hu:=hr.units
  have nd:=gD.nd
  (by delta eF;walk_at "b")
theorem oW{fa:Addr}{fd:FuncData}(F:Fun K "give_up" "Hand.give_up" gp fa fd)(Z:Txt K mg cl)(Fx23:Mt3 P w K mg base (CX1 P w) (TT cl) 1 0 "refuse_idle" 1 bD):aP P w K mg base (CX1 P w) 2 fa fd ["self"] (sp3 (TT cl) K 1 eE):=by
 exact fM (k:=1) F jw rfl rfl fun cdv A outer s H E hr=>have hu:=hr.units
  have nd:=jw.nd
  (by delta gG;walk_at "b")
theorem qE{fa:Addr}{fd:FuncData}(F:Fun K "chosen" "Hand.chosen" hJ fa fd)(Z:Txt K mg cl)(Fx80:Fn3 P w K mg base CX0 (TT cl) 1 "newest" 1 mX)(Fx81:Fn3 P w K mg base CX0 (TT cl) 1 "stamp_after" 3 fC):aP P w K mg base CX0 2 fa fd ["self"] (sp3 (TT cl) K 1 fE):=by
 exact bf (k:=1) F gJ rfl rfl fun cdv A outer s H E hr=>have hu:=hr.units
  have nd:=gJ.nd
  (by delta ir;refine aO ?_ ?_;refine yJ (i:=1) ?_ ?_ ?_ ?_ ?_ ?_;exact gJ.nd;exact rfl;exact Or.inl rfl;exact(wF hr.hd (by walk_at "e") Z.tF);exact sV;walk_at "sb";refine aO ?_ ?_;walk_at "y";refine aO ?_ ?_;walk_at "y";refine aO ?_ ?_;walk_at "y";refine cL ?_;walk_at "y")
theorem tJ{fa:Addr}{fd:FuncData}(F:Fun K "hear" "Hand.hear" kD fa fd)(Z:Txt K mg cl)(Fx82:Fn3 P w K mg base CX0 (TT cl) 1 "is_more" 2 kF)(Fx21:Mt3 P w K mg base CX0 (TT cl) 2 0 "begin_round" 2 bF)(Fx83:Mt3 P w K mg base CX0 (TT cl) 2 0 "chosen" 1 fE):aP P w K mg base CX0 3 fa fd ["self","answer"] (sp3 (TT cl) K 2 gW):=by
 exact bf (k:=2) F mH rfl rfl fun cdv A outer s H E hr=>have hu:=hr.units
  have nd:=mH.nd
  (by delta jU;walk_at "b")
theorem pE{fa:Addr}{fd:FuncData}(F:Fun K "__init__" "Keeper.__init__" ik fa fd)(Z:Txt K mg cl):aP P w K mg base CX0 1 fa fd ["self"] (sp3 (TT cl) K 1 fF):=by
 exact bf (k:=0) F jL rfl rfl fun cdv A outer s H E hr=>have hu:=hr.units
  have nd:=jL.nd
  (by delta hX;walk_at "b")
theorem pO{fa:Addr}{fd:FuncData}(F:Fun K "stop" "Keeper.stop" hU fa fd)(Z:Txt K mg cl):aP P w K mg base CX0 1 fa fd ["self"] (sp3 (TT cl) K 1 fB):=by
 exact bf (k:=0) F ko rfl rfl fun cdv A outer s H E hr=>have hu:=hr.units
  have nd:=ko.nd
  (by delta hW;walk_at "b")
theorem qy{fa:Addr}{fd:FuncData}(F:Fun K "wake" "Keeper.wake" ie fa fd)(Z:Txt K mg cl):aP P w K mg base CX0 1 fa fd ["self"] (sp3 (TT cl) K 1 fz):=by
 exact bf (k:=0) F j8 rfl rfl fun cdv A outer s H E hr=>have hu:=hr.units
  have nd:=j8.nd
  (by delta iq;walk_at "b")
theorem qS{fa:Addr}{fd:FuncData}(F:Fun K "keep" "Keeper.keep" il fa fd)(Z:Txt K mg cl):aP P w K mg base CX0 1 fa fd ["self","pair"] (sp3 (TT cl) K 2 fD):=by
 exact bf (k:=0) F jD rfl rfl fun cdv A outer s H E hr=>have hu:=hr.units
  have nd:=jD.nd
  (by delta ij;walk_at "b")
theorem ly{fa:Addr}{fd:FuncData}(F:Fun K "answer_to" "Keeper.answer_to" ek fa fd)(Z:Txt K mg cl)(Fx84:Mt3 P w K mg base CX0 (TT cl) 1 1 "keep" 2 fD):aP P w K mg base CX0 2 fa fd ["self","letter"] (sp3 (TT cl) K 2 cC):=by
 exact bf (k:=1) F fY rfl rfl fun cdv A outer s H E hr=>have hu:=hr.units
  have nd:=fY.nd
  (by delta dM;walk_at "b")
theorem t8{fa:Addr}{fd:FuncData}(F:Fun K "__init__" "Hall.__init__" ki fa fd)(Z:Txt K mg cl)(Fx24:Ct3 P w K mg base CX0 (TT cl) 1 "Hand" 0 3 gU)(Fx25:Ct3 P w K mg base CX0 (TT cl) 1 "Keeper" 1 1 fF):aP P w K mg base CX0 3 fa fd ["self","count","many"] (sp3 (TT cl) K 3 fJ):=by
 exact bf (k:=2) F mJ rfl rfl fun cdv A outer s H E hr=>have hu:=hr.units
  have nd:=mJ.nd
  (by delta jQ;refine aO ?_ ?_;exact(yB (Z.fA 9 (by decide)) (by walk_at "e") (mh (Blk.of (caps:=[]) (cl:=[]) rfl rfl rfl rfl rfl (by decide) rfl rfl rfl rfl rfl) rfl (l0 Z.ja (by walk_at "e")) (fun _ _ _ _ _=>eI) (fun _ _ _ _ _=>(yl Fx25 (hr.mono (by decide)) gX))));refine aO ?_ ?_;exact(yB (Z.fA 10 (by decide)) (by walk_at "e") (mh (Blk.of (caps:=[("count",1)]) (cl:=[("count",s.heap.objs.size+1)]) rfl rfl rfl rfl rfl (by decide) rfl rfl rfl rfl rfl) rfl (l0 Z.ja (by walk_at "e")) (fun _ _ _ _ _=>eI) (fun _ _ _ _ _=>(Cy Fx24 (hr.mono (by decide)) gX (cZ (dE 0) (cZ (dE 1) oP fk) fk)))));refine cL ?_;walk_at "y")
theorem o5{fa:Addr}{fd:FuncData}(F:Fun K "hand_of" "Hall.hand_of" gF fa fd)(Z:Txt K mg cl):aP P w K mg base (CX1 P w) 1 fa fd ["self","number"] (sp3 (TT cl) K 2 aV):=by
 obtain⟨vh,ec_NoHand,ex_NoHand⟩:=Z.vh
 exact fM (k:=0) F jv rfl rfl fun cdv A outer s H E hr=>have hu:=hr.units
  have nd:=jv.nd
  (by delta gA;refine aO ?_ ?_;refine rA ?_ ?_ ?_;walk_at "t";refine cL ?_;exact(y_raise jM jO hr.hd ex_NoHand ec_NoHand (by walk_at "a"));exact m3;refine cL ?_;walk_at "y")
theorem mP{fa:Addr}{fd:FuncData}(F:Fun K "keeper_of" "Hall.keeper_of" fx fa fd)(Z:Txt K mg cl):aP P w K mg base (CX1 P w) 1 fa fd ["self","number"] (sp3 (TT cl) K 2 bt):=by
 obtain⟨qg,ec_NoKeeper,ex_NoKeeper⟩:=Z.qg
 exact fM (k:=0) F gZ rfl rfl fun cdv A outer s H E hr=>have hu:=hr.units
  have nd:=gZ.nd
  (by delta fq;refine aO ?_ ?_;refine rA ?_ ?_ ?_;walk_at "t";refine cL ?_;exact(y_raise jM jO hr.hd ex_NoKeeper ec_NoKeeper (by walk_at "a"));exact m3;refine cL ?_;walk_at "y")
theorem uy{fa:Addr}{fd:FuncData}(F:Fun K "send" "Hall.send" jR fa fd)(Z:Txt K mg cl):aP P w K mg base CX0 1 fa fd ["self","letters"] (sp3 (TT cl) K 2 bP):=by
 exact bf (k:=0) F ny rfl rfl fun cdv A outer s H E hr=>have hu:=hr.units
  have nd:=ny.nd
  (by delta jH;refine cL ?_;refine wj ?_ ?_;refine mD ?_ ?_;walk_at "e";exact(mh (Blk.nil rfl rfl (by decide +kernel) rfl) rfl (rJ (by walk_at "e")) (fun _ _ _ _ _=>eI) (fun _ _ _ _ _=>(by refine uS ?_;refine cZ ?_ ?_ ?_;exact Iw;refine cZ ?_ ?_ ?_;exact(dE 0);exact oP;exact fk;exact lX)));exact sV)
theorem qX{fa:Addr}{fd:FuncData}(F:Fun K "write" "Hall.write" jn fa fd)(Z:Txt K mg cl)(Fx85:Mt3 P w K mg base (CX1 P w) (TT cl) 4 0 "begin_write" 2 cG)(Fx2:Mt3 P w K mg base (CX1 P w) (TT cl) 1 2 "hand_of" 2 aV)(Fx4:Mt3 P w K mg base CX0 (TT cl) 1 2 "send" 2 bP):aP P w K mg base (CX1 P w) 5 fa fd ["self","hand","value"] (sp3 (TT cl) K 3 gn):=by
 exact fM (k:=4) F lL rfl rfl fun cdv A outer s H E hr=>have hu:=hr.units
  have nd:=lL.nd
  (by delta iI;walk_at "b")
theorem uf{fa:Addr}{fd:FuncData}(F:Fun K "read" "Hall.read" jZ fa fd)(Z:Txt K mg cl)(Fx86:Mt3 P w K mg base (CX1 P w) (TT cl) 4 0 "begin_read" 1 cR)(Fx2:Mt3 P w K mg base (CX1 P w) (TT cl) 1 2 "hand_of" 2 aV)(Fx4:Mt3 P w K mg base CX0 (TT cl) 1 2 "send" 2 bP):aP P w K mg base (CX1 P w) 5 fa fd ["self","hand"] (sp3 (TT cl) K 2 g6):=by
 exact fM (k:=4) F nr rfl rfl fun cdv A outer s H E hr=>have hu:=hr.units
  have nd:=nr.nd
  (by delta j9;walk_at "b")
theorem rh{fa:Addr}{fd:FuncData}(F:Fun K "again" "Hall.again" iX fa fd)(Z:Txt K mg cl)(Fx87:Mt3 P w K mg base (CX1 P w) (TT cl) 2 0 "send_again" 1 cQ)(Fx2:Mt3 P w K mg base (CX1 P w) (TT cl) 1 2 "hand_of" 2 aV)(Fx4:Mt3 P w K mg base CX0 (TT cl) 1 2 "send" 2 bP):aP P w K mg base (CX1 P w) 3 fa fd ["self","hand"] (sp3 (TT cl) K 2 gc):=by
 exact fM (k:=2) F lJ rfl rfl fun cdv A outer s H E hr=>have hu:=hr.units
  have nd:=lJ.nd
  (by delta iM;walk_at "b")
theorem rB{fa:Addr}{fd:FuncData}(F:Fun K "leave" "Hall.leave" je fa fd)(Z:Txt K mg cl)(Fx88:Mt3 P w K mg base (CX1 P w) (TT cl) 2 0 "give_up" 1 eE)(Fx2:Mt3 P w K mg base (CX1 P w) (TT cl) 1 2 "hand_of" 2 aV):aP P w K mg base (CX1 P w) 3 fa fd ["self","hand"] (sp3 (TT cl) K 2 gi):=by
 exact fM (k:=2) F lH rfl rfl fun cdv A outer s H E hr=>have hu:=hr.units
  have nd:=lH.nd
  (by delta jh;walk_at "b")
theorem kZ{fa:Addr}{fd:FuncData}(F:Fun K "stop_keeper" "Hall.stop_keeper" ef fa fd)(Z:Txt K mg cl)(Fx89:Mt3 P w K mg base CX0 (TT cl) 1 1 "stop" 1 fB)(Fx8:Mt3 P w K mg base (CX1 P w) (TT cl) 1 2 "keeper_of" 2 bt):aP P w K mg base (CX1 P w) 2 fa fd ["self","keeper"] (sp3 (TT cl) K 2 cD):=by
 exact fM (k:=1) F gb rfl rfl fun cdv A outer s H E hr=>have hu:=hr.units
  have nd:=gb.nd
  (by delta eg;walk_at "b")
theorem k7{fa:Addr}{fd:FuncData}(F:Fun K "wake_keeper" "Hall.wake_keeper" dX fa fd)(Z:Txt K mg cl)(Fx90:Mt3 P w K mg base CX0 (TT cl) 1 1 "wake" 1 fz)(Fx8:Mt3 P w K mg base (CX1 P w) (TT cl) 1 2 "keeper_of" 2 bt):aP P w K mg base (CX1 P w) 2 fa fd ["self","keeper"] (sp3 (TT cl) K 2 cF):=by
 exact fM (k:=1) F fX rfl rfl fun cdv A outer s H E hr=>have hu:=hr.units
  have nd:=fX.nd
  (by delta dR;walk_at "b")
theorem iK{fa:Addr}{fd:FuncData}(F:Fun K "come_to_keeper" "Hall.come_to_keeper" cM fa fd)(Z:Txt K mg cl)(Fx91:Mt3 P w K mg base CX0 (TT cl) 2 1 "answer_to" 2 cC):aP P w K mg base CX0 3 fa fd ["self","letter"] (sp3 (TT cl) K 2 bW):=by
 exact bf (k:=2) F eK rfl rfl fun cdv A outer s H E hr=>have hu:=hr.units
  have nd:=eK.nd
  (by delta cN;walk_at "b")
theorem kh{fa:Addr}{fd:FuncData}(F:Fun K "come_to_hand" "Hall.come_to_hand" du fa fd)(Z:Txt K mg cl)(Fx92:Mt3 P w K mg base CX0 (TT cl) 3 0 "hear" 2 gW)(Fx4:Mt3 P w K mg base CX0 (TT cl) 1 2 "send" 2 bP):aP P w K mg base CX0 4 fa fd ["self","answer"] (sp3 (TT cl) K 2 cq):=by
 exact bf (k:=3) F fP rfl rfl fun cdv A outer s H E hr=>have hu:=hr.units
  have nd:=fP.nd
  (by delta dC;walk_at "b")
theorem tQ{fa:Addr}{fd:FuncData}(F:Fun K "come" "Hall.come" j6 fa fd)(Z:Txt K mg cl)(Fx93:Mt3 P w K mg base CX0 (TT cl) 3 2 "come_to_keeper" 2 bW)(Fx94:Mt3 P w K mg base CX0 (TT cl) 4 2 "come_to_hand" 2 cq):aP P w K mg base CX0 5 fa fd ["self","place","stays"] (sp3 (TT cl) K 3 cB):=by
 exact bf (k:=4) F ng rfl rfl fun cdv A outer s H E hr=>have hu:=hr.units
  have nd:=ng.nd
  (by delta kg;walk_at "b")
theorem rC{fa:Addr}{fd:FuncData}(F:Fun K "carry" "Hall.carry" iH fa fd)(Z:Txt K mg cl)(Fx9:Mt3 P w K mg base CX0 (TT cl) 5 2 "come" 3 cB):aP P w K mg base (CX1 P w) 6 fa fd ["self","number","stays"] (sp3 (TT cl) K 3 gh):=by
 obtain⟨qO,ec_NoLetter,ex_NoLetter⟩:=Z.qO
 exact fM (k:=5) F lK rfl rfl fun cdv A outer s H E hr=>have hu:=hr.units
  have nd:=lK.nd
  (by delta iW;refine aO ?_ ?_;refine rA ?_ ?_ ?_;walk_at "t";refine cL ?_;exact(y_raise jM jO hr.hd ex_NoLetter ec_NoLetter (by walk_at "a"));exact m3;refine cL ?_;walk_at "y")
theorem jB{fa:Addr}{fd:FuncData}(F:Fun K "first_between" "Hall.first_between" c0 fa fd)(Z:Txt K mg cl):aP P w K mg base CX0 1 fa fd ["self","hand","keeper"] (sp3 (TT cl) K 3 bH):=by
 exact bf (k:=0) F e9 rfl rfl fun cdv A outer s H E hr=>have hu:=hr.units
  have nd:=e9.nd
  (by delta cW;walk_at "b")
theorem jA{fa:Addr}{fd:FuncData}(F:Fun K "carry_between" "Hall.carry_between" cV fa fd)(Z:Txt K mg cl)(Fx2:Mt3 P w K mg base (CX1 P w) (TT cl) 1 2 "hand_of" 2 aV)(Fx8:Mt3 P w K mg base (CX1 P w) (TT cl) 1 2 "keeper_of" 2 bt)(Fx9:Mt3 P w K mg base CX0 (TT cl) 5 2 "come" 3 cB)(Fx95:Mt3 P w K mg base CX0 (TT cl) 1 2 "first_between" 3 bH):aP P w K mg base (CX1 P w) 6 fa fd ["self","hand","keeper"] (sp3 (TT cl) K 3 b6):=by
 exact fM (k:=5) F eZ rfl rfl fun cdv A outer s H E hr=>have hu:=hr.units
  have nd:=eZ.nd
  (by delta cX;walk_at "b")
theorem qZ{fa:Addr}{fd:FuncData}(F:Fun K "sweep" "Hall.sweep" iS fa fd)(Z:Txt K mg cl)(Fx9:Mt3 P w K mg base CX0 (TT cl) 5 2 "come" 3 cB):aP P w K mg base CX0 6 fa fd ["self"] (sp3 (TT cl) K 1 gj):=by
 exact bf (k:=5) F lz rfl rfl fun cdv A outer s H E hr=>have hu:=hr.units
  have nd:=lz.nd
  (by delta jk;walk_at "b")
theorem tp{fa:Addr}{fd:FuncData}(F:Fun K "__init__" "Work.__init__" jF fa fd)(Z:Txt K mg cl):aP P w K mg base CX0 1 fa fd ["self","hand","word","value","begun"] (sp3 (TT cl) K 5 gV):=by
 exact bf (k:=0) F mB rfl rfl fun cdv A outer s H E hr=>have hu:=hr.units
  have nd:=mB.nd
  (by delta ku;walk_at "b")
theorem tW{fa:Addr}{fd:FuncData}(F:Fun K "told" "Work.told" kc fa fd)(Z:Txt K mg cl):aP P w K mg base CX0 1 fa fd ["self"] (sp3 (TT cl) K 1 gP):=by
 exact bf (k:=0) F mT rfl rfl fun cdv A outer s H E hr=>have hu:=hr.units
  have nd:=mT.nd
  (by delta kE;walk_at "b")
theorem rf{fa:Addr}{fd:FuncData}(F:Fun K "__init__" "Story.__init__" jg fa fd)(Z:Txt K mg cl)(Fx96:Ct3 P w K mg base CX0 (TT cl) 3 "Hall" 2 3 fJ):aP P w K mg base CX0 5 fa fd ["self","count","many"] (sp3 (TT cl) K 3 df):=by
 exact bf (k:=4) F lC rfl rfl fun cdv A outer s H E hr=>have hu:=hr.units
  have nd:=lC.nd
  (by delta jl;walk_at "b")
theorem lZ{fa:Addr}{fd:FuncData}(F:Fun K "note_work" "Story.note_work" eG fa fd)(Z:Txt K mg cl)(Fx97:Ct3 P w K mg base CX0 (TT cl) 1 "Work" 3 5 gV):aP P w K mg base CX0 3 fa fd ["self","hand","word","value"] (sp3 (TT cl) K 4 b8):=by
 exact bf (k:=2) F gN rfl rfl fun cdv A outer s H E hr=>have hu:=hr.units
  have nd:=gN.nd
  (by delta eL;walk_at "b")
theorem nA{fa:Addr}{fd:FuncData}(F:Fun K "note_end" "Story.note_end" fm fa fd)(Z:Txt K mg cl):aP P w K mg base CX0 1 fa fd ["self","hand","pair"] (sp3 (TT cl) K 3 dh):=by
 exact bf (k:=0) F hI rfl rfl fun cdv A outer s H E hr=>have hu:=hr.units
  have nd:=hI.nd
  (by delta fi;walk_at "b")
theorem lT{fa:Addr}{fd:FuncData}(F:Fun K "note_ends" "Story.note_ends" eS fa fd)(Z:Txt K mg cl)(Fx26:Mt3 P w K mg base CX0 (TT cl) 1 4 "note_end" 3 dh):aP P w K mg base CX0 2 fa fd ["self","ends"] (sp3 (TT cl) K 2 bz):=by
 exact bf (k:=1) F gH rfl rfl fun cdv A outer s H E hr=>have hu:=hr.units
  have nd:=gH.nd
  (by delta eN;refine cL ?_;refine y_ret ?_;exact(mh (Blk.of (caps:=[("self",0)]) (cl:=[("self",s.heap.objs.size+1)]) rfl rfl rfl rfl rfl (by decide) rfl rfl rfl rfl rfl) rfl (rJ (by walk_at "e")) (fun _ _ _ _ _=>eI) (fun _ _ _ _ _=>(xD Fx26 (hr.mono (by decide)) gX (dE 1) (cZ (by refine zh hu ?_ ?_;exact(dE 0);exact uH) (cZ (by refine zh hu ?_ ?_;exact(dE 0);exact uH) oP pF) pF)))))
theorem rz{fa:Addr}{fd:FuncData}(F:Fun K "done" "Story.done" jb fa fd)(Z:Txt K mg cl)(Fx98:Mt3 P w K mg base (CX1 P w) (TT cl) 5 2 "write" 3 gn)(Fx99:Mt3 P w K mg base (CX1 P w) (TT cl) 5 2 "read" 2 g6)(Fx100:Mt3 P w K mg base (CX1 P w) (TT cl) 3 2 "again" 2 gc)(Fx101:Mt3 P w K mg base (CX1 P w) (TT cl) 3 2 "leave" 2 gi)(Fx102:Mt3 P w K mg base (CX1 P w) (TT cl) 2 2 "stop_keeper" 2 cD)(Fx103:Mt3 P w K mg base (CX1 P w) (TT cl) 2 2 "wake_keeper" 2 cF)(Fx104:Mt3 P w K mg base (CX1 P w) (TT cl) 6 2 "carry" 3 gh)(Fx105:Mt3 P w K mg base (CX1 P w) (TT cl) 6 2 "carry_between" 3 b6)(Fx106:Mt3 P w K mg base CX0 (TT cl) 6 2 "sweep" 1 gj)(Fx107:Mt3 P w K mg base CX0 (TT cl) 3 4 "note_work" 4 b8)(Fx108:Mt3 P w K mg base CX0 (TT cl) 2 4 "note_ends" 2 bz):aP P w K mg base (CX1 P w) 7 fa fd ["self","deed"] (sp3 (TT cl) K 2 gd):=by
 exact fM (k:=6) F lM rfl rfl fun cdv A outer s H E hr=>have hu:=hr.units
  have nd:=lM.nd
  (by delta jf;walk_at "b")
theorem hV{fa:Addr}{fd:FuncData}(F:Fun K "done_or_refused" "Story.done_or_refused" cy fa fd)(Z:Txt K mg cl)(Fx27:Mt3 P w K mg base (CX1 P w) (TT cl) 7 4 "done" 2 gd):aP P w K mg base CX0 8 fa fd ["self","deed"] (sp3 (TT cl) K 2 bL):=by
 obtain⟨a_NoHand,em_NoHand,eh_NoHand⟩:=Z.B4
 obtain⟨a_NoKeeper,em_NoKeeper,eh_NoKeeper⟩:=Z.wd
 obtain⟨a_NoLetter,em_NoLetter,eh_NoLetter⟩:=Z.wx
 obtain⟨a_Busy,em_Busy,eh_Busy⟩:=Z.HK
 obtain⟨a_Idle,em_Idle,eh_Idle⟩:=Z.Hx
 exact bf (k:=7) F dD rfl rfl fun cdv A outer s H E hr=>have hu:=hr.units
  have nd:=dD.nd
  (by delta cz;refine cL ?_;exact(AD x6 (D6 x6 Fx27 (hr.mono (by decide)) (fun _=>(by walk_at "e")) (fun _=>(by walk_at "a"))) (Hs.cons em_NoHand rfl (by decide) eh_NoHand (fun _=>(by walk_at "b")) (Hs.cons em_NoKeeper rfl (by decide) eh_NoKeeper (fun _=>(by walk_at "b")) (Hs.cons em_NoLetter rfl (by decide) eh_NoLetter (fun _=>(by walk_at "b")) (Hs.cons em_Busy rfl (by decide) eh_Busy (fun _=>(by walk_at "b")) (Hs.cons em_Idle rfl (by decide) eh_Idle (fun _=>(by walk_at "b")) Hs.nil)))))))
theorem kb{fa:Addr}{fd:FuncData}(F:Fun K "note_stamps" "Story.note_stamps" dB fa fd)(Z:Txt K mg cl):aP P w K mg base CX0 1 fa fd ["self"] (sp3 (TT cl) K 1 cn):=by
 exact bf (k:=0) F b0 rfl rfl fun cdv A outer s H E hr=>have hu:=hr.units
  have nd:=b0.nd
  (by delta dt;refine cL ?_;exact(Di PassesOwn.never rfl (by walk_at "e") (Gn rfl (uj (i:=1) b0.nd rfl (Or.inl rfl) (uj (i:=2) b0.nd rfl (Or.inl rfl) EC))) (by walk_at "b")))
theorem oY{fa:Addr}{fd:FuncData}(F:Fun K "answer" "Story.answer" gx fa fd)(Z:Txt K mg cl)(Fx109:Mt3 P w K mg base CX0 (TT cl) 8 4 "done_or_refused" 2 bL)(Fx110:Mt3 P w K mg base CX0 (TT cl) 1 4 "note_stamps" 1 cn):aP P w K mg base CX0 9 fa fd ["self","deed"] (sp3 (TT cl) K 2 bT):=by
 exact bf (k:=8) F jt rfl rfl fun cdv A outer s H E hr=>have hu:=hr.units
  have nd:=jt.nd
  (by delta gz;walk_at "b")
theorem w5{fa:Addr}{fd:FuncData}(F:Fun K "answers" "answers" nU fa fd)(Z:Txt K mg cl)(Fx28:Ct3 P w K mg base CX0 (TT cl) 5 "Story" 4 3 df)(Fx10:Mt3 P w K mg base CX0 (TT cl) 9 4 "answer" 2 bT):aP P w K mg base CX0 10 fa fd ["count","many","deeds"] (sp3 (TT cl) K 3 kU):=by
 exact bf (k:=9) F pW rfl rfl fun cdv A outer s H E hr=>have hu:=hr.units
  have nd:=pW.nd
  (by delta nL;refine aO ?_ ?_;walk_at "y";refine cL ?_;refine y_ret ?_;exact(mh (Blk.of (caps:=[("story",3)]) (cl:=[("story",s.heap.objs.size+1)]) rfl rfl rfl rfl rfl (by decide) rfl rfl rfl rfl rfl) rfl (rJ (by walk_at "e")) (fun _ _ _ _ _=>eI) (fun _ _ _ _ _=>(xD Fx10 (hr.mono (by decide)) gX (dE 1) (cZ (dE 0) oP fk)))))
theorem t7{fa:Addr}{fd:FuncData}(F:Fun K "all_after" "all_after" kq fa fd)(Z:Txt K mg cl)(Fx29:Mt3 P w K mg base CX0 (TT cl) 1 3 "told" 1 gP)(Fx28:Ct3 P w K mg base CX0 (TT cl) 5 "Story" 4 3 df)(Fx10:Mt3 P w K mg base CX0 (TT cl) 9 4 "answer" 2 bT):aP P w K mg base CX0 10 fa fd ["count","many","deeds"] (sp3 (TT cl) K 3 g9):=by
 exact bf (k:=9) F eQ rfl rfl fun cdv A outer s H E hr=>have hu:=hr.units
  have nd:=eQ.nd
  (by delta jY;refine aO ?_ ?_;walk_at "y";refine aO ?_ ?_;walk_at "y";refine aO ?_ ?_;exact(iA (i:=5) (Blk.nil rfl rfl (by decide +kernel) rfl) rfl eQ.nd rfl rfl (rJ (by walk_at "e")) (fun _ _ _ _ _=>eI) (fun _ _ _ _ _=>(yA Fx29 (hr.mono (by decide)) gX (dE 0))));refine aO ?_ ?_;exact(iA (i:=6) (Blk.nil rfl rfl (by decide +kernel) rfl) rfl eQ.nd rfl rfl (rJ (by walk_at "e")) (fun _ _ _ _ _=>eI) (fun _ _ _ _ _=>(ou (Z.fA 16 (by decide)) (dE 0))));refine aO ?_ ?_;exact(iA (i:=7) (Blk.nil rfl rfl (by decide +kernel) rfl) rfl eQ.nd rfl rfl (rJ (by walk_at "e")) (fun _ _ _ _ _=>eI) (fun _ _ _ _ _=>(ou (Z.fA 4 (by decide)) (dE 0))));refine cL ?_;walk_at "y")
theorem E7{fa:Addr}{fd:FuncData}(F:Fun K "_law_so" "_law_so" Hk fa fd)(hm:mg "_law_so"=some (.ref fa))(hb:Binds K fd ["_law_found","_law_meant"] [])(Z:Txt K mg cl):∀n,Fn3 P w K mg base CX0 (TT cl) (1+n) "_law_so" 2 (wI n)
 |0=>fn3 (k:=0) F yx hm hb rfl rfl fun cdv A outer s H E hr=>DL
 |n+1=>by
  have ih:=E7 F hm hb Z n
  exact fn3 (k:=1+n) F yx hm hb rfl rfl fun cdv A outer s H E hr=>have hu:=hr.units
  have nd:=yx.nd
  (by delta CY;refine aO ?_ ?_;walk_at "y";refine aO ?_ ?_;walk_at "y";refine aO ?_ ?_;walk_at "y";refine aO ?_ ?_;walk_at "y";refine aO ?_ ?_;refine rA ?_ ?_ ?_;walk_at "t";refine cL ?_;refine y_ret ?_;exact(yL (by walk_at "e") (xS (x_call ih (hr.mono (by omega)) gX (cZ xf (cZ xf oP ol) ol))));exact m3;refine aO ?_ ?_;walk_at "y";refine aO ?_ ?_;refine rA ?_ ?_ ?_;exact(PW.pt (w_or (by walk_at "t") (A1 (xW (DB (GL .lst .tup Z.nC Z.tF Z.yc (by walk_at "e")))))));walk_at "b";exact m3;refine aO ?_ ?_;walk_at "y";refine aO ?_ ?_;exact(BY PassesOwn.never rfl (l0 Z.ja (by walk_at "e")) (FK (i:=2) yx.nd rfl (Or.inl rfl)) (by refine cL ?_;refine rA ?_ ?_ ?_;exact(xW (DB (x_call ih (hr.mono (by omega)) gX (by walk_at "a"))));walk_at "b";exact m3));refine cL ?_;walk_at "y")
theorem AV{fa:Addr}{fd:FuncData}(F:Fun K "_law_whole" "_law_whole" tK fa fd)(Z:Txt K mg cl):aP P w K mg base CX0 1 fa fd ["_law_found"] (sp3 (TT cl) K 1 dG):=by
 exact bf (k:=0) F vI rfl rfl fun cdv A outer s H E hr=>have hu:=hr.units
  have nd:=vI.nd
  (by delta sX;walk_at "b")
theorem JL{fa:Addr}{fd:FuncData}(F:Fun K "_law_at" "_law_at" FZ fa fd)(Z:Txt K mg cl):aP P w K mg base CX0 1 fa fd ["_law_script","_law_k"] (sp3 (TT cl) K 2 uK):=by
 exact bf (k:=0) F Ek rfl rfl fun cdv A outer s H E hr=>have hu:=hr.units
  have nd:=Ek.nd
  (by delta GZ;walk_at "b")
theorem uF{fa:Addr}{fd:FuncData}(F:Fun K "_law_value_by" "_law_value_by" lU fa fd)(Z:Txt K mg cl):aP P w K mg base CX0 1 fa fd ["_law_cell","_law_k"] (sp3 (TT cl) K 2 jc):=by
 exact bf (k:=0) F oH rfl rfl fun cdv A outer s H E hr=>have hu:=hr.units
  have nd:=oH.nd
  (by delta mr;walk_at "b")
theorem xA{fa:Addr}{fd:FuncData}(F:Fun K "_law_deed_of" "_law_deed_of" om fa fd)(Z:Txt K mg cl)(Fx111:Fn3 P w K mg base CX0 (TT cl) 1 "_law_value_by" 2 jc):aP P w K mg base CX0 2 fa fd ["_law_cell","_law_k","_law_count","_law_many"] (sp3 (TT cl) K 4 iw):=by
 exact bf (k:=1) F qr rfl rfl fun cdv A outer s H E hr=>have hu:=hr.units
  have nd:=qr.nd
  (by delta nO;walk_at "b")
theorem wq{fa:Addr}{fd:FuncData}(F:Fun K "_law_opening" "_law_opening" nS fa fd)(Z:Txt K mg cl):aP P w K mg base CX0 1 fa fd ["_law_cell","_law_count","_law_many"] (sp3 (TT cl) K 3 kR):=by
 exact bf (k:=0) F qf rfl rfl fun cdv A outer s H E hr=>have hu:=hr.units
  have nd:=qf.nd
  (by delta nY;walk_at "b")
theorem Bn{fa:Addr}{fd:FuncData}(F:Fun K "_law_drawn" "_law_drawn" td fa fd)(Z:Txt K mg cl)(Fx112:Fn3 P w K mg base CX0 (TT cl) 2 "_law_deed_of" 4 iw)(Fx113:Fn3 P w K mg base CX0 (TT cl) 1 "_law_opening" 3 kR):aP P w K mg base CX0 3 fa fd ["_law_cells","_law_count","_law_many"] (sp3 (TT cl) K 3 nz):=by
 exact bf (k:=2) F uR rfl rfl fun cdv A outer s H E hr=>have hu:=hr.units
  have nd:=uR.nd
  (by delta tO;walk_at "b")
theorem u5{fa:Addr}{fd:FuncData}(F:Fun K "_law_is_stamp" "_law_is_stamp" mz fa fd)(Z:Txt K mg cl)(Fx11:Fn3 P w K mg base CX0 (TT cl) 1 "_law_whole" 1 dG):aP P w K mg base CX0 2 fa fd ["_law_found"] (sp3 (TT cl) K 1 fw):=by
 exact bf (k:=1) F oS rfl rfl fun cdv A outer s H E hr=>have hu:=hr.units
  have nd:=oS.nd
  (by delta mx;walk_at "b")
theorem wB{fa:Addr}{fd:FuncData}(F:Fun K "_law_is_pair" "_law_is_pair" nM fa fd)(Z:Txt K mg cl)(Fx11:Fn3 P w K mg base CX0 (TT cl) 1 "_law_whole" 1 dG)(Fx30:Fn3 P w K mg base CX0 (TT cl) 2 "_law_is_stamp" 1 fw):aP P w K mg base CX0 3 fa fd ["_law_found"] (sp3 (TT cl) K 1 kW):=by
 exact bf (k:=2) F qP rfl rfl fun cdv A outer s H E hr=>have hu:=hr.units
  have nd:=qP.nd
  (by delta nI;walk_at "b")
theorem xl{fa:Addr}{fd:FuncData}(F:Fun K "_law_is_work" "_law_is_work" nT fa fd)(Z:Txt K mg cl)(Fx11:Fn3 P w K mg base CX0 (TT cl) 1 "_law_whole" 1 dG):aP P w K mg base CX0 2 fa fd ["_law_found"] (sp3 (TT cl) K 1 kX):=by
 exact bf (k:=1) F qT rfl rfl fun cdv A outer s H E hr=>have hu:=hr.units
  have nd:=qT.nd
  (by delta nQ;walk_at "b")
theorem tH{fa:Addr}{fd:FuncData}(F:Fun K "_law_all_kinds" "_law_all_kinds" jS fa fd)(Z:Txt K mg cl)(Fx30:Fn3 P w K mg base CX0 (TT cl) 2 "_law_is_stamp" 1 fw)(Fx114:Fn3 P w K mg base CX0 (TT cl) 3 "_law_is_pair" 1 kW)(Fx115:Fn3 P w K mg base CX0 (TT cl) 2 "_law_is_work" 1 kX):aP P w K mg base CX0 4 fa fd ["_law_found","_law_count"] (sp3 (TT cl) K 2 gT):=by
 exact bf (k:=3) F mL rfl rfl fun cdv A outer s H E hr=>have hu:=hr.units
  have nd:=mL.nd
  (by delta jV;walk_at "b")
theorem uZ{fa:Addr}{fd:FuncData}(F:Fun K "_law_all_told" "_law_all_told" lV fa fd)(Z:Txt K mg cl)(Fx116:Fn3 P w K mg base CX0 (TT cl) 10 "all_after" 3 g9)(Fx117:Fn3 P w K mg base CX0 (TT cl) 4 "_law_all_kinds" 2 gT):aP P w K mg base CX0 11 fa fd ["_law_count","_law_many","_law_deeds"] (sp3 (TT cl) K 3 gI):=by
 exact bf (k:=10) F oF rfl rfl fun cdv A outer s H E hr=>have hu:=hr.units
  have nd:=oF.nd
  (by delta md;walk_at "b")
theorem CS{fa:Addr}{fd:FuncData}(F:Fun K "_law_room" "_law_room" xc fa fd)(Z:Txt K mg cl):aP P w K mg base CX0 1 fa fd ["_law_script","_law_most","_law_bound"] (sp3 (TT cl) K 3 pP):=by
 exact bf (k:=0) F yb rfl rfl fun cdv A outer s H E hr=>have hu:=hr.units
  have nd:=yb.nd
  (by delta wN;walk_at "b")
theorem GU{fa:Addr}{fd:FuncData}(F:Fun K "law" "law" sA fa fd)(Z:Txt K mg cl)(Fx118:Fn3 P w K mg base CX0 (TT cl) 10 "answers" 3 kU)(Fx12:∀n,Fn3 P w K mg base CX0 (TT cl) (1+n) "_law_so" 2 (wI n))(Fx119:Fn3 P w K mg base CX0 (TT cl) 1 "_law_at" 2 uK)(Fx120:Fn3 P w K mg base CX0 (TT cl) 3 "_law_drawn" 3 nz)(Fx121:Fn3 P w K mg base CX0 (TT cl) 11 "_law_all_told" 3 gI)(Fx122:Fn3 P w K mg base CX0 (TT cl) 1 "_law_room" 3 pP):aP P w K mg base CX0 12 fa fd ["_law_script"] (sp3 (TT cl) K 1 pZ):=by
 exact bf (k:=11) F w4 rfl rfl fun cdv A outer s H E hr=>have hu:=hr.units
  have nd:=w4.nd
  (by delta BV;refine aO ?_ ?_;walk_at "y";refine aO ?_ ?_;walk_at "y";refine aO ?_ ?_;walk_at "y";refine aO ?_ ?_;refine yJ (i:=3) ?_ ?_ ?_ ?_ ?_ ?_;exact w4.nd;exact rfl;exact Or.inl rfl;refine zZ yt ?_ ?_;walk_at "e";exact(mh (Blk.nil rfl rfl (by decide +kernel) rfl) rfl (l0 Z.ja (by walk_at "e")) (fun _ _ _ _ _=>eI) (fun _ _ _ _ _=>(by refine uS ?_;refine cZ ?_ ?_ ?_;exact EV;refine cZ ?_ ?_ ?_;exact(dE 0);exact oP;exact fk;exact lX)));exact AJ;walk_at "sb";refine aO ?_ ?_;walk_at "y";refine aO ?_ ?_;walk_at "y";refine aO ?_ ?_;walk_at "y";refine aO ?_ ?_;walk_at "y";refine aO ?_ ?_;walk_at "y";refine aO ?_ ?_;walk_at "y";refine aO ?_ ?_;walk_at "y";refine aO ?_ ?_;walk_at "y";refine aO ?_ ?_;walk_at "y";refine aO ?_ ?_;walk_at "y";refine cL ?_;refine y_ret ?_;exact(yL (x_call (Fx12 9) (hr.mono (by decide)) gX (by walk_at "a")) (xS (x_call (Fx12 9) (hr.mono (by decide)) gX (by walk_at "a")))))
end
theorem all_mk{l:PySem.W.OpenLaw}{w:World}{K:PySem.W.Frag}{h:Heap}{mg:Str->Option Value}{fa C0 C1 C2 C3 C4 X0 X1 X2 X3 X4 X5 f0 f1 f2 f3 f4 f5 f6 f7 f8 f9 f10 f11 f12 f13 f14 f15 f16 f17 f18 f19 f20 f21 f22 f23 f24 f25 f26 f27 f28 f29 f30 f31 f32 f33 f34 f35 f36 f37 f38 f39 f40 f41 f42 f43 f44 f45 f46 f47 f48 f49 f50 f51 f52 f53 f54 f55 f56 f57 f58 f59 f60 f61 x_BEGINNING_1 x_BEGINNING:Addr}{d0 d1 d2 d3 d4 d5 d6 d7 d8 d9 d10 d11 d12 d13 d14 d15 d16 d17 d18 d19 d20 d21 d22 d23 d24 d25 d26 d27 d28 d29 d30 d31 d32 d33 d34 d35 d36 d37 d38 d39 d40 d41 d42 d43 d44 d45 d46 d47 d48 d49 d50 d51 d52 d53 d54 d55 d56 d57 d58 d59 d60 d61:FuncData}{t_BEGINNING_2 t_BEGINNING_3 t_BEGINNING_4:Tok}{od_BEGINNING_1 od_BEGINNING:Option Addr}{n_BEGINNING_1 n_BEGINNING:Nat}{sl_BEGINNING_1 sl_BEGINNING:Array (Option Value)}(X:K.In h)(G:h.Ns mainGlobals mg)(hfa:mg "law"=some (.ref fa))
 (g_BEGINNING:PySem.W.nsIn K mainGlobals "BEGINNING"=some (some (.ref x_BEGINNING)))
 (aC0:PySem.W.nsIn K mainGlobals "Hand"=some (some (.ref C0))) (cC0:Cls K C0) (mk0:PySem.W.makesIn K C0=true) (kc0:PySem.W.keepIn K (.ref C0)=true)
 (na0:(nmL.all fun x=>PySem.W.findIn K (.ref C0) x==some none)=true)
 (aC1:PySem.W.nsIn K mainGlobals "Keeper"=some (some (.ref C1))) (cC1:Cls K C1) (mk1:PySem.W.makesIn K C1=true) (kc1:PySem.W.keepIn K (.ref C1)=true)
 (na1:(nmL.all fun x=>PySem.W.findIn K (.ref C1) x==some none)=true)
 (aC2:PySem.W.nsIn K mainGlobals "Hall"=some (some (.ref C2))) (cC2:Cls K C2) (mk2:PySem.W.makesIn K C2=true) (kc2:PySem.W.keepIn K (.ref C2)=true)
 (na2:(nmL.all fun x=>PySem.W.findIn K (.ref C2) x==some none)=true)
 (aC3:PySem.W.nsIn K mainGlobals "Work"=some (some (.ref C3))) (cC3:Cls K C3) (mk3:PySem.W.makesIn K C3=true) (kc3:PySem.W.keepIn K (.ref C3)=true)
 (na3:(nmL.all fun x=>PySem.W.findIn K (.ref C3) x==some none)=true)
 (aC4:PySem.W.nsIn K mainGlobals "Story"=some (some (.ref C4))) (cC4:Cls K C4) (mk4:PySem.W.makesIn K C4=true) (kc4:PySem.W.keepIn K (.ref C4)=true)
 (na4:(nmL.all fun x=>PySem.W.findIn K (.ref C4) x==some none)=true)
 (aX0:PySem.W.nsIn K mainGlobals "HalfError"=some (some (.ref X0))) (ei0:PySem.W.excIn K X0 veM "ValueError.__new__"=true)
 (aX1:PySem.W.nsIn K mainGlobals "NoHand"=some (some (.ref X1))) (ei1:PySem.W.excIn K X1 veM "ValueError.__new__"=true)
 (aX2:PySem.W.nsIn K mainGlobals "NoKeeper"=some (some (.ref X2))) (ei2:PySem.W.excIn K X2 veM "ValueError.__new__"=true)
 (aX3:PySem.W.nsIn K mainGlobals "NoLetter"=some (some (.ref X3))) (ei3:PySem.W.excIn K X3 veM "ValueError.__new__"=true)
 (aX4:PySem.W.nsIn K mainGlobals "Busy"=some (some (.ref X4))) (ei4:PySem.W.excIn K X4 veM "ValueError.__new__"=true)
 (aX5:PySem.W.nsIn K mainGlobals "Idle"=some (some (.ref X5))) (ei5:PySem.W.excIn K X5 veM "ValueError.__new__"=true)
 (em1:((clP [C0,C1,C2,C3,C4] [X0,X1,X2,X3,X4,X5]).all fun p=>PySem.W.exmOne K (.ref p.1) (.ref X1)==some (decide (p.2=1001)))=true)
 (em2:((clP [C0,C1,C2,C3,C4] [X0,X1,X2,X3,X4,X5]).all fun p=>PySem.W.exmOne K (.ref p.1) (.ref X2)==some (decide (p.2=1002)))=true)
 (em3:((clP [C0,C1,C2,C3,C4] [X0,X1,X2,X3,X4,X5]).all fun p=>PySem.W.exmOne K (.ref p.1) (.ref X3)==some (decide (p.2=1003)))=true)
 (em4:((clP [C0,C1,C2,C3,C4] [X0,X1,X2,X3,X4,X5]).all fun p=>PySem.W.exmOne K (.ref p.1) (.ref X4)==some (decide (p.2=1004)))=true)
 (em5:((clP [C0,C1,C2,C3,C4] [X0,X1,X2,X3,X4,X5]).all fun p=>PySem.W.exmOne K (.ref p.1) (.ref X5)==some (decide (p.2=1005)))=true)
 (a0:PySem.W.nsIn K mainGlobals "is_more"=some (some (.ref f0))) (p0:Fun K "is_more" "is_more" nF f0 d0)
 (a1:PySem.W.nsIn K mainGlobals "newest"=some (some (.ref f1))) (p1:Fun K "newest" "newest" pJ f1 d1)
 (a2:PySem.W.nsIn K mainGlobals "stamp_after"=some (some (.ref f2))) (p2:Fun K "stamp_after" "stamp_after" hZ f2 d2)
 (a3:PySem.W.findIn K (.ref C0) "__init__"=some (some (.ref f3))) (p3:Fun K "__init__" "Hand.__init__" jI f3 d3)
 (i3:PySem.W.isFn K (.ref f3)=true)
 (a4:PySem.W.findIn K (.ref C0) "letters"=some (some (.ref f4))) (p4:Fun K "letters" "Hand.letters" gC f4 d4)
 (i4:PySem.W.isFn K (.ref f4)=true)
 (a5:PySem.W.findIn K (.ref C0) "begin_round"=some (some (.ref f5))) (p5:Fun K "begin_round" "Hand.begin_round" dW f5 d5)
 (i5:PySem.W.isFn K (.ref f5)=true)
 (a6:PySem.W.findIn K (.ref C0) "begin"=some (some (.ref f6))) (p6:Fun K "begin" "Hand.begin" iL f6 d6)
 (i6:PySem.W.isFn K (.ref f6)=true)
 (a7:PySem.W.findIn K (.ref C0) "begin_write"=some (some (.ref f7))) (p7:Fun K "begin_write" "Hand.begin_write" dZ f7 d7)
 (i7:PySem.W.isFn K (.ref f7)=true)
 (a8:PySem.W.findIn K (.ref C0) "begin_read"=some (some (.ref f8))) (p8:Fun K "begin_read" "Hand.begin_read" eT f8 d8)
 (i8:PySem.W.isFn K (.ref f8)=true)
 (a9:PySem.W.findIn K (.ref C0) "refuse_idle"=some (some (.ref f9))) (p9:Fun K "refuse_idle" "Hand.refuse_idle" dP f9 d9)
 (i9:PySem.W.isFn K (.ref f9)=true)
 (a10:PySem.W.findIn K (.ref C0) "send_again"=some (some (.ref f10))) (p10:Fun K "send_again" "Hand.send_again" eJ f10 d10)
 (i10:PySem.W.isFn K (.ref f10)=true)
 (a11:PySem.W.findIn K (.ref C0) "give_up"=some (some (.ref f11))) (p11:Fun K "give_up" "Hand.give_up" gp f11 d11)
 (i11:PySem.W.isFn K (.ref f11)=true)
 (a12:PySem.W.findIn K (.ref C0) "chosen"=some (some (.ref f12))) (p12:Fun K "chosen" "Hand.chosen" hJ f12 d12)
 (i12:PySem.W.isFn K (.ref f12)=true)
 (a13:PySem.W.findIn K (.ref C0) "hear"=some (some (.ref f13))) (p13:Fun K "hear" "Hand.hear" kD f13 d13)
 (i13:PySem.W.isFn K (.ref f13)=true)
 (a14:PySem.W.findIn K (.ref C1) "__init__"=some (some (.ref f14))) (p14:Fun K "__init__" "Keeper.__init__" ik f14 d14)
 (i14:PySem.W.isFn K (.ref f14)=true)
 (a15:PySem.W.findIn K (.ref C1) "stop"=some (some (.ref f15))) (p15:Fun K "stop" "Keeper.stop" hU f15 d15)
 (i15:PySem.W.isFn K (.ref f15)=true)
 (a16:PySem.W.findIn K (.ref C1) "wake"=some (some (.ref f16))) (p16:Fun K "wake" "Keeper.wake" ie f16 d16)
 (i16:PySem.W.isFn K (.ref f16)=true)
 (a17:PySem.W.findIn K (.ref C1) "keep"=some (some (.ref f17))) (p17:Fun K "keep" "Keeper.keep" il f17 d17)
 (i17:PySem.W.isFn K (.ref f17)=true)
 (a18:PySem.W.findIn K (.ref C1) "answer_to"=some (some (.ref f18))) (p18:Fun K "answer_to" "Keeper.answer_to" ek f18 d18)
 (i18:PySem.W.isFn K (.ref f18)=true)
 (a19:PySem.W.findIn K (.ref C2) "__init__"=some (some (.ref f19))) (p19:Fun K "__init__" "Hall.__init__" ki f19 d19)
 (i19:PySem.W.isFn K (.ref f19)=true)
 (a20:PySem.W.findIn K (.ref C2) "hand_of"=some (some (.ref f20))) (p20:Fun K "hand_of" "Hall.hand_of" gF f20 d20)
 (i20:PySem.W.isFn K (.ref f20)=true)
 (a21:PySem.W.findIn K (.ref C2) "keeper_of"=some (some (.ref f21))) (p21:Fun K "keeper_of" "Hall.keeper_of" fx f21 d21)
 (i21:PySem.W.isFn K (.ref f21)=true)
 (a22:PySem.W.findIn K (.ref C2) "send"=some (some (.ref f22))) (p22:Fun K "send" "Hall.send" jR f22 d22)
 (i22:PySem.W.isFn K (.ref f22)=true)
 (a23:PySem.W.findIn K (.ref C2) "write"=some (some (.ref f23))) (p23:Fun K "write" "Hall.write" jn f23 d23)
 (i23:PySem.W.isFn K (.ref f23)=true)
 (a24:PySem.W.findIn K (.ref C2) "read"=some (some (.ref f24))) (p24:Fun K "read" "Hall.read" jZ f24 d24)
 (i24:PySem.W.isFn K (.ref f24)=true)
 (a25:PySem.W.findIn K (.ref C2) "again"=some (some (.ref f25))) (p25:Fun K "again" "Hall.again" iX f25 d25)
 (i25:PySem.W.isFn K (.ref f25)=true)
 (a26:PySem.W.findIn K (.ref C2) "leave"=some (some (.ref f26))) (p26:Fun K "leave" "Hall.leave" je f26 d26)
 (i26:PySem.W.isFn K (.ref f26)=true)
 (a27:PySem.W.findIn K (.ref C2) "stop_keeper"=some (some (.ref f27))) (p27:Fun K "stop_keeper" "Hall.stop_keeper" ef f27 d27)
 (i27:PySem.W.isFn K (.ref f27)=true)
 (a28:PySem.W.findIn K (.ref C2) "wake_keeper"=some (some (.ref f28))) (p28:Fun K "wake_keeper" "Hall.wake_keeper" dX f28 d28)
 (i28:PySem.W.isFn K (.ref f28)=true)
 (a29:PySem.W.findIn K (.ref C2) "come_to_keeper"=some (some (.ref f29))) (p29:Fun K "come_to_keeper" "Hall.come_to_keeper" cM f29 d29)
 (i29:PySem.W.isFn K (.ref f29)=true)
 (a30:PySem.W.findIn K (.ref C2) "come_to_hand"=some (some (.ref f30))) (p30:Fun K "come_to_hand" "Hall.come_to_hand" du f30 d30)
 (i30:PySem.W.isFn K (.ref f30)=true)
 (a31:PySem.W.findIn K (.ref C2) "come"=some (some (.ref f31))) (p31:Fun K "come" "Hall.come" j6 f31 d31)
 (i31:PySem.W.isFn K (.ref f31)=true)
 (a32:PySem.W.findIn K (.ref C2) "carry"=some (some (.ref f32))) (p32:Fun K "carry" "Hall.carry" iH f32 d32)
 (i32:PySem.W.isFn K (.ref f32)=true)
 (a33:PySem.W.findIn K (.ref C2) "first_between"=some (some (.ref f33))) (p33:Fun K "first_between" "Hall.first_between" c0 f33 d33)
 (i33:PySem.W.isFn K (.ref f33)=true)
 (a34:PySem.W.findIn K (.ref C2) "carry_between"=some (some (.ref f34))) (p34:Fun K "carry_between" "Hall.carry_between" cV f34 d34)
 (i34:PySem.W.isFn K (.ref f34)=true)
 (a35:PySem.W.findIn K (.ref C2) "sweep"=some (some (.ref f35))) (p35:Fun K "sweep" "Hall.sweep" iS f35 d35)
 (i35:PySem.W.isFn K (.ref f35)=true)
 (a36:PySem.W.findIn K (.ref C3) "__init__"=some (some (.ref f36))) (p36:Fun K "__init__" "Work.__init__" jF f36 d36)
 (i36:PySem.W.isFn K (.ref f36)=true)
 (a37:PySem.W.findIn K (.ref C3) "told"=some (some (.ref f37))) (p37:Fun K "told" "Work.told" kc f37 d37)
 (i37:PySem.W.isFn K (.ref f37)=true)
 (a38:PySem.W.findIn K (.ref C4) "__init__"=some (some (.ref f38))) (p38:Fun K "__init__" "Story.__init__" jg f38 d38)
 (i38:PySem.W.isFn K (.ref f38)=true)
 (a39:PySem.W.findIn K (.ref C4) "note_work"=some (some (.ref f39))) (p39:Fun K "note_work" "Story.note_work" eG f39 d39)
 (i39:PySem.W.isFn K (.ref f39)=true)
 (a40:PySem.W.findIn K (.ref C4) "note_end"=some (some (.ref f40))) (p40:Fun K "note_end" "Story.note_end" fm f40 d40)
 (i40:PySem.W.isFn K (.ref f40)=true)
 (a41:PySem.W.findIn K (.ref C4) "note_ends"=some (some (.ref f41))) (p41:Fun K "note_ends" "Story.note_ends" eS f41 d41)
 (i41:PySem.W.isFn K (.ref f41)=true)
 (a42:PySem.W.findIn K (.ref C4) "done"=some (some (.ref f42))) (p42:Fun K "done" "Story.done" jb f42 d42)
 (i42:PySem.W.isFn K (.ref f42)=true)
 (a43:PySem.W.findIn K (.ref C4) "done_or_refused"=some (some (.ref f43))) (p43:Fun K "done_or_refused" "Story.done_or_refused" cy f43 d43)
 (i43:PySem.W.isFn K (.ref f43)=true)
 (a44:PySem.W.findIn K (.ref C4) "note_stamps"=some (some (.ref f44))) (p44:Fun K "note_stamps" "Story.note_stamps" dB f44 d44)
 (i44:PySem.W.isFn K (.ref f44)=true)
 (a45:PySem.W.findIn K (.ref C4) "answer"=some (some (.ref f45))) (p45:Fun K "answer" "Story.answer" gx f45 d45)
 (i45:PySem.W.isFn K (.ref f45)=true)
 (a46:PySem.W.nsIn K mainGlobals "answers"=some (some (.ref f46))) (p46:Fun K "answers" "answers" nU f46 d46)
 (a47:PySem.W.nsIn K mainGlobals "all_after"=some (some (.ref f47))) (p47:Fun K "all_after" "all_after" kq f47 d47)
 (a48:PySem.W.nsIn K mainGlobals "_law_so"=some (some (.ref f48))) (p48:Fun K "_law_so" "_law_so" Hk f48 d48)
 (a49:PySem.W.nsIn K mainGlobals "_law_whole"=some (some (.ref f49))) (p49:Fun K "_law_whole" "_law_whole" tK f49 d49)
 (a50:PySem.W.nsIn K mainGlobals "_law_at"=some (some (.ref f50))) (p50:Fun K "_law_at" "_law_at" FZ f50 d50)
 (a51:PySem.W.nsIn K mainGlobals "_law_value_by"=some (some (.ref f51))) (p51:Fun K "_law_value_by" "_law_value_by" lU f51 d51)
 (a52:PySem.W.nsIn K mainGlobals "_law_deed_of"=some (some (.ref f52))) (p52:Fun K "_law_deed_of" "_law_deed_of" om f52 d52)
 (a53:PySem.W.nsIn K mainGlobals "_law_opening"=some (some (.ref f53))) (p53:Fun K "_law_opening" "_law_opening" nS f53 d53)
 (a54:PySem.W.nsIn K mainGlobals "_law_drawn"=some (some (.ref f54))) (p54:Fun K "_law_drawn" "_law_drawn" td f54 d54)
 (a55:PySem.W.nsIn K mainGlobals "_law_is_stamp"=some (some (.ref f55))) (p55:Fun K "_law_is_stamp" "_law_is_stamp" mz f55 d55)
 (a56:PySem.W.nsIn K mainGlobals "_law_is_pair"=some (some (.ref f56))) (p56:Fun K "_law_is_pair" "_law_is_pair" nM f56 d56)
 (a57:PySem.W.nsIn K mainGlobals "_law_is_work"=some (some (.ref f57))) (p57:Fun K "_law_is_work" "_law_is_work" nT f57 d57)
 (a58:PySem.W.nsIn K mainGlobals "_law_all_kinds"=some (some (.ref f58))) (p58:Fun K "_law_all_kinds" "_law_all_kinds" jS f58 d58)
 (a59:PySem.W.nsIn K mainGlobals "_law_all_told"=some (some (.ref f59))) (p59:Fun K "_law_all_told" "_law_all_told" lV f59 d59)
 (a60:PySem.W.nsIn K mainGlobals "_law_room"=some (some (.ref f60))) (p60:Fun K "_law_room" "_law_room" xc f60 d60)
 (a61:PySem.W.nsIn K mainGlobals "law"=some (some (.ref f61))) (p61:Fun K "law" "law" sA f61 d61)
 (z_max:PySem.W.nsIn K mainGlobals "max"=some none)
 (z_range:PySem.W.nsIn K mainGlobals "range"=some none)
 (z_list:PySem.W.nsIn K mainGlobals "list"=some none)
 (z_len:PySem.W.nsIn K mainGlobals "len"=some none)
 (z_enumerate:PySem.W.nsIn K mainGlobals "enumerate"=some none)
 (z_bool:PySem.W.nsIn K mainGlobals "bool"=some none)
 (z_isinstance:PySem.W.nsIn K mainGlobals "isinstance"=some none)
 (z_int:PySem.W.nsIn K mainGlobals "int"=some none)
 (z_str:PySem.W.nsIn K mainGlobals "str"=some none)
 (z_dict:PySem.W.nsIn K mainGlobals "dict"=some none)
 (z_tuple:PySem.W.nsIn K mainGlobals "tuple"=some none)
 (l_BEGINNING_1:K.lookup x_BEGINNING_1=some ⟨.type "tuple",od_BEGINNING_1,.seq #[.int 0 t_BEGINNING_2,.int 0 t_BEGINNING_3] n_BEGINNING_1,sl_BEGINNING_1⟩)
 (l_BEGINNING:K.lookup x_BEGINNING=some ⟨.type "tuple",od_BEGINNING,.seq #[.ref x_BEGINNING_1,.int 0 t_BEGINNING_4] n_BEGINNING,sl_BEGINNING⟩):
 ∃fd:FuncData,(∀(s:Shared) (v:Value),BindsTo s fd ⟨[v],[]⟩ [("_law_script",v)])/\∃cl,∀base:Heap,K.In base->base.Ns mainGlobals mg->aP l.prog w K mg base CX0 12 fa fd ["_law_script"] (sp3 (TT cl) K 1 pZ):=by
 have e:=hfa.symm.trans (PySem.W.mg_of X G a61)
 cases e
 have hcl:∀c Ca,clF [C0,C1,C2,C3,C4] [X0,X1,X2,X3,X4,X5] c=some Ca->c < 1000->Ca∈ [C0,C1,C2,C3,C4]:=fun c Ca e hc=>F8 e hc
 have hC:∀Ca,Ca∈ [C0,C1,C2,C3,C4]->Cls K Ca/\∀x∈nmL,jo K Ca x:=by
  intro Ca hm
  simp only[qS_,List.not_mem_nil,or_false]at hm
  rcases hm with rfl |rfl |rfl |rfl |rfl
  · exact⟨cC0,fun x hx=>eq_of_beq (List.all_eq_true.mp na0 x hx)⟩
  · exact⟨cC1,fun x hx=>eq_of_beq (List.all_eq_true.mp na1 x hx)⟩
  · exact⟨cC2,fun x hx=>eq_of_beq (List.all_eq_true.mp na2 x hx)⟩
  · exact⟨cC3,fun x hx=>eq_of_beq (List.all_eq_true.mp na3 x hx)⟩
  · exact⟨cC4,fun x hx=>eq_of_beq (List.all_eq_true.mp na4 x hx)⟩
 have Z:Txt K mg (clF [C0,C1,C2,C3,C4] [X0,X1,X2,X3,X4,X5]):=⟨PySem.W.mg_none_of X G z_max,
  PySem.W.mg_none_of X G z_range,
  PySem.W.mg_none_of X G z_list,
  PySem.W.mg_none_of X G z_len,
  PySem.W.mg_none_of X G z_enumerate,
  PySem.W.mg_none_of X G z_bool,
  PySem.W.mg_none_of X G z_isinstance,
  PySem.W.mg_none_of X G z_int,
  PySem.W.mg_none_of X G z_str,
  PySem.W.mg_none_of X G z_dict,
  PySem.W.mg_none_of X G z_tuple,
  ⟨.ref x_BEGINNING,.ref x_BEGINNING,PySem.W.mg_of X G g_BEGINNING,rfl,(x4 (ds:=[(.tup [(.int 0),(.int 0)]),(.int 0)]) l_BEGINNING (show 2<=sizeLine by decide) (vs:=[(.ref x_BEGINNING_1),(.int 0)]) (.cons rfl (.cons ⟨_,rfl⟩ .nil)) fun H μ=>⟨_,_,rfl,((x4 (ds:=[(.int 0),(.int 0)]) l_BEGINNING_1 (show 2<=sizeLine by decide) (vs:=[(.int 0),(.int 0)]) (.cons ⟨_,rfl⟩ (.cons ⟨_,rfl⟩ .nil)) fun H μ=>⟨_,_,rfl,rfl,⟨_,_,rfl,rfl,rfl⟩⟩) H μ),⟨_,_,rfl,rfl,rfl⟩⟩)⟩,
  fun _ hj=>FH (L:=nmL) hcl hC (by decide +kernel) (by decide +kernel) hj,
  ⟨X0,rfl,PySem.W.mg_of X G aX0,ei0⟩,
  True.intro,
  ⟨X1,rfl,PySem.W.mg_of X G aX1,ei1⟩,
  ⟨X1,PySem.W.mg_of X G aX1,fun c Ca e=>mV em1 e⟩,
  ⟨X2,rfl,PySem.W.mg_of X G aX2,ei2⟩,
  ⟨X2,PySem.W.mg_of X G aX2,fun c Ca e=>mV em2 e⟩,
  ⟨X3,rfl,PySem.W.mg_of X G aX3,ei3⟩,
  ⟨X3,PySem.W.mg_of X G aX3,fun c Ca e=>mV em3 e⟩,
  ⟨X4,rfl,PySem.W.mg_of X G aX4,ei4⟩,
  ⟨X4,PySem.W.mg_of X G aX4,fun c Ca e=>mV em4 e⟩,
  ⟨X5,rfl,PySem.W.mg_of X G aX5,ei5⟩,
  ⟨X5,PySem.W.mg_of X G aX5,fun c Ca e=>mV em5 e⟩⟩
 obtain⟨oc,od,kV,dc,pm,an,cd,ct,sl,rfl,_,_⟩:=p61.ex
 refine⟨PySem.W.fnOf "law" "law" (mR sA) (gm sA) (aj sA) .none kV dc pm an cd ct,fun s v=>.of_eq rfl,(clF [C0,C1,C2,C3,C4] [X0,X1,X2,X3,X4,X5]),fun base _ _=>?_⟩
 have Gx31:=fN (wJ l.prog w mg base p0 Z) p0 (PySem.W.mg_of X G a0) (p0.binds (by walk_at "b2"))
 have Gx32:=fN (zw l.prog w mg base p1 Z) p1 (PySem.W.mg_of X G a1) (p1.binds (by walk_at "b1"))
 have Gx33:=fN (qd l.prog w mg base p2 Z) p2 (PySem.W.mg_of X G a2) (p2.binds (by walk_at "b3"))
 have Gx34:=vx (C:=0) (tL l.prog w mg base p3 Z) rfl ⟨mk0,a3,i3,kc0⟩ (PySem.W.mg_of X G aC0) (p3.binds (by walk_at "b3"))
 have Gx13:=bA (C:=0) (oV l.prog w mg base p4 Z) rfl cC0 ⟨a4,i4,p4.kp⟩ (p4.binds (by walk_at "b1")) (by walk_at "nm")
 have Gx14:=bA (C:=0) (lq l.prog w mg base p5 Z Gx13) rfl cC0 ⟨a5,i5,p5.kp⟩ (p5.binds (by walk_at "b2")) (by walk_at "nm")
 have Gx15:=bA (C:=0) (rD l.prog w mg base p6 Z Gx14) rfl cC0 ⟨a6,i6,p6.kp⟩ (p6.binds (by walk_at "b2")) (by walk_at "nm")
 have Gx35:=bA (C:=0) (lc l.prog w mg base p7 Z Gx15) rfl cC0 ⟨a7,i7,p7.kp⟩ (p7.binds (by walk_at "b2")) (by walk_at "nm")
 have Gx36:=bA (C:=0) (mv l.prog w mg base p8 Z Gx15) rfl cC0 ⟨a8,i8,p8.kp⟩ (p8.binds (by walk_at "b1")) (by walk_at "nm")
 have Gx16:=bA (C:=0) (li l.prog w mg base p9 Z) rfl cC0 ⟨a9,i9,p9.kp⟩ (p9.binds (by walk_at "b1")) (by walk_at "nm")
 have Gx37:=bA (C:=0) (ma l.prog w mg base p10 Z Gx13 Gx16) rfl cC0 ⟨a10,i10,p10.kp⟩ (p10.binds (by walk_at "b1")) (by walk_at "nm")
 have Gx38:=bA (C:=0) (oW l.prog w mg base p11 Z Gx16) rfl cC0 ⟨a11,i11,p11.kp⟩ (p11.binds (by walk_at "b1")) (by walk_at "nm")
 have Gx39:=bA (C:=0) (qE l.prog w mg base p12 Z Gx32 Gx33) rfl cC0 ⟨a12,i12,p12.kp⟩ (p12.binds (by walk_at "b1")) (by walk_at "nm")
 have Gx40:=bA (C:=0) (tJ l.prog w mg base p13 Z Gx31 Gx14 Gx39) rfl cC0 ⟨a13,i13,p13.kp⟩ (p13.binds (by walk_at "b2")) (by walk_at "nm")
 have Gx41:=vx (C:=1) (pE l.prog w mg base p14 Z) rfl ⟨mk1,a14,i14,kc1⟩ (PySem.W.mg_of X G aC1) (p14.binds (by walk_at "b1"))
 have Gx42:=bA (C:=1) (pO l.prog w mg base p15 Z) rfl cC1 ⟨a15,i15,p15.kp⟩ (p15.binds (by walk_at "b1")) (by walk_at "nm")
 have Gx43:=bA (C:=1) (qy l.prog w mg base p16 Z) rfl cC1 ⟨a16,i16,p16.kp⟩ (p16.binds (by walk_at "b1")) (by walk_at "nm")
 have Gx44:=bA (C:=1) (qS l.prog w mg base p17 Z) rfl cC1 ⟨a17,i17,p17.kp⟩ (p17.binds (by walk_at "b2")) (by walk_at "nm")
 have Gx45:=bA (C:=1) (ly l.prog w mg base p18 Z Gx44) rfl cC1 ⟨a18,i18,p18.kp⟩ (p18.binds (by walk_at "b2")) (by walk_at "nm")
 have Gx46:=vx (C:=2) (t8 l.prog w mg base p19 Z Gx34 Gx41) rfl ⟨mk2,a19,i19,kc2⟩ (PySem.W.mg_of X G aC2) (p19.binds (by walk_at "b3"))
 have Gx1:=bA (C:=2) (o5 l.prog w mg base p20 Z) rfl cC2 ⟨a20,i20,p20.kp⟩ (p20.binds (by walk_at "b2")) (by walk_at "nm")
 have Gx5:=bA (C:=2) (mP l.prog w mg base p21 Z) rfl cC2 ⟨a21,i21,p21.kp⟩ (p21.binds (by walk_at "b2")) (by walk_at "nm")
 have Gx3:=bA (C:=2) (uy l.prog w mg base p22 Z) rfl cC2 ⟨a22,i22,p22.kp⟩ (p22.binds (by walk_at "b2")) (by walk_at "nm")
 have Gx47:=bA (C:=2) (qX l.prog w mg base p23 Z Gx35 Gx1 Gx3) rfl cC2 ⟨a23,i23,p23.kp⟩ (p23.binds (by walk_at "b3")) (by walk_at "nm")
 have Gx48:=bA (C:=2) (uf l.prog w mg base p24 Z Gx36 Gx1 Gx3) rfl cC2 ⟨a24,i24,p24.kp⟩ (p24.binds (by walk_at "b2")) (by walk_at "nm")
 have Gx49:=bA (C:=2) (rh l.prog w mg base p25 Z Gx37 Gx1 Gx3) rfl cC2 ⟨a25,i25,p25.kp⟩ (p25.binds (by walk_at "b2")) (by walk_at "nm")
 have Gx50:=bA (C:=2) (rB l.prog w mg base p26 Z Gx38 Gx1) rfl cC2 ⟨a26,i26,p26.kp⟩ (p26.binds (by walk_at "b2")) (by walk_at "nm")
 have Gx51:=bA (C:=2) (kZ l.prog w mg base p27 Z Gx42 Gx5) rfl cC2 ⟨a27,i27,p27.kp⟩ (p27.binds (by walk_at "b2")) (by walk_at "nm")
 have Gx52:=bA (C:=2) (k7 l.prog w mg base p28 Z Gx43 Gx5) rfl cC2 ⟨a28,i28,p28.kp⟩ (p28.binds (by walk_at "b2")) (by walk_at "nm")
 have Gx53:=bA (C:=2) (iK l.prog w mg base p29 Z Gx45) rfl cC2 ⟨a29,i29,p29.kp⟩ (p29.binds (by walk_at "b2")) (by walk_at "nm")
 have Gx54:=bA (C:=2) (kh l.prog w mg base p30 Z Gx40 Gx3) rfl cC2 ⟨a30,i30,p30.kp⟩ (p30.binds (by walk_at "b2")) (by walk_at "nm")
 have Gx6:=bA (C:=2) (tQ l.prog w mg base p31 Z Gx53 Gx54) rfl cC2 ⟨a31,i31,p31.kp⟩ (p31.binds (by walk_at "b3")) (by walk_at "nm")
 have Gx55:=bA (C:=2) (rC l.prog w mg base p32 Z Gx6) rfl cC2 ⟨a32,i32,p32.kp⟩ (p32.binds (by walk_at "b3")) (by walk_at "nm")
 have Gx56:=bA (C:=2) (jB l.prog w mg base p33 Z) rfl cC2 ⟨a33,i33,p33.kp⟩ (p33.binds (by walk_at "b3")) (by walk_at "nm")
 have Gx57:=bA (C:=2) (jA l.prog w mg base p34 Z Gx1 Gx5 Gx6 Gx56) rfl cC2 ⟨a34,i34,p34.kp⟩ (p34.binds (by walk_at "b3")) (by walk_at "nm")
 have Gx58:=bA (C:=2) (qZ l.prog w mg base p35 Z Gx6) rfl cC2 ⟨a35,i35,p35.kp⟩ (p35.binds (by walk_at "b1")) (by walk_at "nm")
 have Gx59:=vx (C:=3) (tp l.prog w mg base p36 Z) rfl ⟨mk3,a36,i36,kc3⟩ (PySem.W.mg_of X G aC3) (p36.binds (by walk_at "b5"))
 have Gx60:=bA (C:=3) (tW l.prog w mg base p37 Z) rfl cC3 ⟨a37,i37,p37.kp⟩ (p37.binds (by walk_at "b1")) (by walk_at "nm")
 have Gx17:=vx (C:=4) (rf l.prog w mg base p38 Z Gx46) rfl ⟨mk4,a38,i38,kc4⟩ (PySem.W.mg_of X G aC4) (p38.binds (by walk_at "b3"))
 have Gx61:=bA (C:=4) (lZ l.prog w mg base p39 Z Gx59) rfl cC4 ⟨a39,i39,p39.kp⟩ (p39.binds (by walk_at "b4")) (by walk_at "nm")
 have Gx62:=bA (C:=4) (nA l.prog w mg base p40 Z) rfl cC4 ⟨a40,i40,p40.kp⟩ (p40.binds (by walk_at "b3")) (by walk_at "nm")
 have Gx63:=bA (C:=4) (lT l.prog w mg base p41 Z Gx62) rfl cC4 ⟨a41,i41,p41.kp⟩ (p41.binds (by walk_at "b2")) (by walk_at "nm")
 have Gx64:=bA (C:=4) (rz l.prog w mg base p42 Z Gx47 Gx48 Gx49 Gx50 Gx51 Gx52 Gx55 Gx57 Gx58 Gx61 Gx63) rfl cC4 ⟨a42,i42,p42.kp⟩ (p42.binds (by walk_at "b2")) (by walk_at "nm")
 have Gx65:=bA (C:=4) (hV l.prog w mg base p43 Z Gx64) rfl cC4 ⟨a43,i43,p43.kp⟩ (p43.binds (by walk_at "b2")) (by walk_at "nm")
 have Gx66:=bA (C:=4) (kb l.prog w mg base p44 Z) rfl cC4 ⟨a44,i44,p44.kp⟩ (p44.binds (by walk_at "b1")) (by walk_at "nm")
 have Gx18:=bA (C:=4) (oY l.prog w mg base p45 Z Gx65 Gx66) rfl cC4 ⟨a45,i45,p45.kp⟩ (p45.binds (by walk_at "b2")) (by walk_at "nm")
 have Gx67:=fN (w5 l.prog w mg base p46 Z Gx17 Gx18) p46 (PySem.W.mg_of X G a46) (p46.binds (by walk_at "b3"))
 have Gx68:=fN (t7 l.prog w mg base p47 Z Gx60 Gx17 Gx18) p47 (PySem.W.mg_of X G a47) (p47.binds (by walk_at "b3"))
 have Gx69:=E7 l.prog w mg base p48 (PySem.W.mg_of X G a48) (p48.binds (by walk_at "b2")) Z
 have Gx7:=fN (AV l.prog w mg base p49 Z) p49 (PySem.W.mg_of X G a49) (p49.binds (by walk_at "b1"))
 have Gx70:=fN (JL l.prog w mg base p50 Z) p50 (PySem.W.mg_of X G a50) (p50.binds (by walk_at "b2"))
 have Gx71:=fN (uF l.prog w mg base p51 Z) p51 (PySem.W.mg_of X G a51) (p51.binds (by walk_at "b2"))
 have Gx72:=fN (xA l.prog w mg base p52 Z Gx71) p52 (PySem.W.mg_of X G a52) (p52.binds (by walk_at "b4"))
 have Gx73:=fN (wq l.prog w mg base p53 Z) p53 (PySem.W.mg_of X G a53) (p53.binds (by walk_at "b3"))
 have Gx74:=fN (Bn l.prog w mg base p54 Z Gx72 Gx73) p54 (PySem.W.mg_of X G a54) (p54.binds (by walk_at "b3"))
 have Gx19:=fN (u5 l.prog w mg base p55 Z Gx7) p55 (PySem.W.mg_of X G a55) (p55.binds (by walk_at "b1"))
 have Gx75:=fN (wB l.prog w mg base p56 Z Gx7 Gx19) p56 (PySem.W.mg_of X G a56) (p56.binds (by walk_at "b1"))
 have Gx76:=fN (xl l.prog w mg base p57 Z Gx7) p57 (PySem.W.mg_of X G a57) (p57.binds (by walk_at "b1"))
 have Gx77:=fN (tH l.prog w mg base p58 Z Gx19 Gx75 Gx76) p58 (PySem.W.mg_of X G a58) (p58.binds (by walk_at "b2"))
 have Gx78:=fN (uZ l.prog w mg base p59 Z Gx68 Gx77) p59 (PySem.W.mg_of X G a59) (p59.binds (by walk_at "b3"))
 have Gx79:=fN (CS l.prog w mg base p60 Z) p60 (PySem.W.mg_of X G a60) (p60.binds (by walk_at "b3"))
 exact GU _ _ _ _ p61 Z Gx67 Gx69 Gx70 Gx74 Gx78 Gx79
theorem walk{l:PySem.W.OpenLaw}{q:Program}{loose:List Str}{XP:(Str->Option Value)->Heap->Prop}{YP:World->Heap->Prop}{d:DefRec}{K:Params->PySem.W.Frag}(hn:l.most=some 63)(hdf:d.params.defaults=[])
 (hY:∀(w:World) (h:Heap),YP w h->(K w.params).In h) (hl:∀ns:List Int,ns.length<=63->M3.run (pZ [.ref 0]) [.frz (ns.map M3.D.int)] (fun d _=>d= .bl true) fun _ _=>False)
 (F:∀(w:World) (mg:Str->Option Value) (fa:Addr) (h:Heap),(K w.params).In h->h.Ns mainGlobals mg->mg d.name=some (.ref fa)->
   ∃fd:FuncData,(∀(s:Shared) (u:Value),BindsTo s fd ⟨[u],[]⟩ [("_law_script",u)])/\∃cl,∀base:Heap,(K w.params).In base->base.Ns mainGlobals mg->aP l.prog w (K w.params) mg base CX0 12 fa fd ["_law_script"] (sp3 (TT cl) (K w.params) 1 pZ)):
 PySem.W.WalkO q loose XP YP l.row.toRowW d [] (fun f vs=>PySem.call f vs):=
 L2.Dd (n:=63) (k:=12) (x:="_law_script") (CX:=fun _=>CX0) (sp:=fun w=>AZ nmF (K w.params) 1 pZ) hn (by decide) hdf ⟨rfl,by decide,by decide⟩ hY (fun w mg fa h a b c=>let ⟨fd,h1,cl,h2⟩:=F w mg fa h a b c;⟨fd,h1,fun base h3 h4=>HA (h2 base h3 h4)⟩) (fun _ _ a ns h1 h2 h3=>Eh hl h1 h2 h3) fun _ _ _ _ _ z=>z
end LK
open PySem PySem.W PyProof.Rows
namespace PySem.W.Fast
def tw11091981406088620112:=0
def tw17450530375031651807:=0
def tw3320067608784193747:=0
def tw14405462552365540115:=0
def tw7340808445591500046:=0
def tw9837931638606115821:=0
def tw10174611322181467001:=0
def tw5022357701821340871:=0
def tw7864341603936417902:=0
def tw14408640396996017791:=0
def tw10032530448618547510:=0
def tw1394323600603154328:=0
def tw120344538542461628:=0
def tw10758313928851579523:=0
def tw15387893276018779125:=0
def tw18217039315666707131:=0
def tw8201905270081165732:=0
def tw11250383036218569443:=0
def tw3906039195885911673:=0
def tw8993857245818975959:=0
def tw13398249269004267356:=0
def tw11627314733742482002:=0
def tw14291332947992410997:=0
def tw10972656240428551563:=0
def tw501021081081504521:=0
def tw15748843012977889317:=0
def tw15483091859768562237:=0
def tw3263012189427855984:=0
def tw16590913356838890865:=0
def tw7283981788075294905:=0
def tw1399225658608721695:=0
def tw3350624975650981437:=0
def tw1612381189689165799:=0
def tw12022769783545890722:=0
def tw13744438590559643275:=0
def tw11355378242102798458:=0
def tw3794325189137255342:=0
def tw16032846529267616010:=0
def tw11423973826008160195:=0
def tw5581207184918343230:=0
def tw4116021313323445207:=0
def tw6790289801049452777:=0
def tw12909478167708680991:=0
def tw8933554277601674123:=0
def tw2902078373016173275:=0
def tw16176716170817372848:=0
def tw15415436792772673271:=0
def tw16903602794981468790:=0
def tw13657980435419610956:=0
def tw12329353555795893141:=0
def tw12701816765223317098:=0
def tw8070244225282178381:=0
def tw17491885947558679842:=0
def tw4427304003718228130:=0
def tw8663321440317401220:=0
def tw18292894659798221085:=0
def tw7193369390088145115:=0
def tw13164233893701140218:=0
def tw16504416674671836432:=0
def tw15295453356825784956:=0
def tw9237083879333057513:=0
def tw9071496624155525546:=0
def tw15725444136713848877:=0
def tw17488366528367119228:=0
def tw18272743692193263112:=0
def tw113714639749273853:=0
def tw6411736708410592512:=0
def tw16264467790479769986:=0
def tw8645068954801511500:=0
def tw16476683286505564119:=0
def tw15799217707107497822:=0
def tw10965001624786463842:=0
def tw18241184809592580219:=0
def tw9373595190375680026:=0
def tw15173650083068266686:=0
def tw1835456619580262992:=0
def tw13510903762457858069:=0
def tw4304027767473591571:=0
def tw16852071903917462930:=0
def tw10516059710307288781:=0
def tw4096984344907834252:=0
def tw7967433789464403740:=0
def tw343559218649752966:=0
def tw11378608596438819320:=0
def tw1141830639330689598:=0
def tw12413725245788348838:=0
def tw7701319367721187198:=0
def tw15734037160200159958:=0
def tw741970178653633827:=0
def tw3475237236432971184:=0
def tw4226487770269812628:=0
def tw2466973642425204396:=0
def tw15726165953367862617:=0
def tw10963610345980448912:=0
def tw4652312172448208939:=0
def tw14458314604551436675:=0
def tw3258631373161332880:=0
def tw10384048553866046336:=0
def tw14205830673121267343:=0
def tw10537843028615939657:=0
def tw6697517201456915187:=0
def tw14605384717379789291:=0
def tw13856148956820783594:=0
def tw3388611369806172175:=0
def tw13810943794411853332:=0
def tw16311460803123754463:=0
def tw4964963705970054672:=0
def tw10764235848111836734:=0
def tw10355018526016525918:=0
def tw13536546196329071617:=0
def tw5226557451777021703:=0
def tw3514483620392661981:=0
def tw8444318732042775762:=0
def tw5194098310060237198:=0
def tw4381473615797569696:=0
def tw12984558986961830142:=0
def tw3206584037015194720:=0
def tw2035154795788818831:=0
def tw14794340494367836991:=0
def tw10814306295484875974:=0
def tw4333642883333715042:=0
def tw9779753477471163889:=0
def tw981876017140770805:=0
def tw13319431280548151480:=0
def tw11397961795102772438:=0
def tw10605012210070109363:=0
def tw14506669615216189560:=0
def tw11549969212384529264:=0
def tw11511971085894407673:=0
def tw1953579228374946961:=0
def tw12180104230391994392:=0
def tw4825698338504606708:=0
def tw9912363759805177652:=0
def tw7595397344442614284:=0
def tw5809127408799209974:=0
def tw281381390578005534:=0
def tw3013630054124808279:=0
def tw16275953142948697149:=0
def tw14603841738351930230:=0
def tw14367859744708265905:=0
end PySem.W.Fast
set_option maxRecDepth 100000 in
set_option maxHeartbeats 0 in
theorem PySem.Challenge.cw_halfask_k09_whole_late_letters_holds : PySem.Challenge.rw_halfask_k09_whole_late_letters.Holds := by
 w_on;o_law;k_head;(case hw=>w_witness2)
 k_fill
 refine LK.walk (l:=PySem.Challenge.rw_halfask_k09_whole_late_letters) rfl rfl (fun w h Y=>PySem.W.kIn_of Y) KS.CH ?F
 case F=>
  intro w mg fa h KX G hmg
  refine' LK.all_mk KX G hmg ?g_BEGINNING ?aC0 ?cC0 ?mk0 ?kc0 ?na0 ?aC1 ?cC1 ?mk1 ?kc1 ?na1 ?aC2 ?cC2 ?mk2 ?kc2 ?na2 ?aC3 ?cC3 ?mk3 ?kc3 ?na3 ?aC4 ?cC4 ?mk4 ?kc4 ?na4 ?aX0 ?ei0 ?aX1 ?ei1 ?aX2 ?ei2 ?aX3 ?ei3 ?aX4 ?ei4 ?aX5 ?ei5 ?em1 ?em2 ?em3 ?em4 ?em5 ?a0 ?p0 ?a1 ?p1 ?a2 ?p2 ?a3 ?p3 ?i3 ?a4 ?p4 ?i4 ?a5 ?p5 ?i5 ?a6 ?p6 ?i6 ?a7 ?p7 ?i7 ?a8 ?p8 ?i8 ?a9 ?p9 ?i9 ?a10 ?p10 ?i10 ?a11 ?p11 ?i11 ?a12 ?p12 ?i12 ?a13 ?p13 ?i13 ?a14 ?p14 ?i14 ?a15 ?p15 ?i15 ?a16 ?p16 ?i16 ?a17 ?p17 ?i17 ?a18 ?p18 ?i18 ?a19 ?p19 ?i19 ?a20 ?p20 ?i20 ?a21 ?p21 ?i21 ?a22 ?p22 ?i22 ?a23 ?p23 ?i23 ?a24 ?p24 ?i24 ?a25 ?p25 ?i25 ?a26 ?p26 ?i26 ?a27 ?p27 ?i27 ?a28 ?p28 ?i28 ?a29 ?p29 ?i29 ?a30 ?p30 ?i30 ?a31 ?p31 ?i31 ?a32 ?p32 ?i32 ?a33 ?p33 ?i33 ?a34 ?p34 ?i34 ?a35 ?p35 ?i35 ?a36 ?p36 ?i36 ?a37 ?p37 ?i37 ?a38 ?p38 ?i38 ?a39 ?p39 ?i39 ?a40 ?p40 ?i40 ?a41 ?p41 ?i41 ?a42 ?p42 ?i42 ?a43 ?p43 ?i43 ?a44 ?p44 ?i44 ?a45 ?p45 ?i45 ?a46 ?p46 ?a47 ?p47 ?a48 ?p48 ?a49 ?p49 ?a50 ?p50 ?a51 ?p51 ?a52 ?p52 ?a53 ?p53 ?a54 ?p54 ?a55 ?p55 ?a56 ?p56 ?a57 ?p57 ?a58 ?p58 ?a59 ?p59 ?a60 ?p60 ?a61 ?p61 ?z_max ?z_range ?z_list ?z_len ?z_enumerate ?z_bool ?z_isinstance ?z_int ?z_str ?z_dict ?z_tuple ?l_BEGINNING_1 ?l_BEGINNING
  (case g_BEGINNING |l_BEGINNING |l_BEGINNING_1 |aC0 |aC1 |aC2 |aC3 |aC4 |aX0 |aX1 |aX2 |aX3 |aX4 |aX5=>k_is)
  (case na0 |na1 |na2 |na3 |na4 |ei0 |ei1 |ei2 |ei3 |ei4 |ei5 |em1 |em2 |em3 |em4 |em5=>kernel_rfl)
  (case cC0 |cC1 |cC2 |cC3 |cC4=>(refine⟨?_,?_,?_,?_⟩ <;> k_is))
  (case a0 |a1 |a2 |a3 |a4 |a5 |a6 |a7 |a8 |a9 |a10 |a11 |a12 |a13 |a14 |a15 |a16 |a17 |a18 |a19 |a20 |a21 |a22 |a23 |a24 |a25 |a26 |a27 |a28 |a29 |a30 |a31 |a32 |a33 |a34 |a35 |a36 |a37 |a38 |a39 |a40 |a41 |a42 |a43 |a44 |a45 |a46 |a47 |a48 |a49 |a50 |a51 |a52 |a53 |a54 |a55 |a56 |a57 |a58 |a59 |a60 |a61=>k_is)
  (case p0 |p1 |p2 |p3 |p4 |p5 |p6 |p7 |p8 |p9 |p10 |p11 |p12 |p13 |p14 |p15 |p16 |p17 |p18 |p19 |p20 |p21 |p22 |p23 |p24 |p25 |p26 |p27 |p28 |p29 |p30 |p31 |p32 |p33 |p34 |p35 |p36 |p37 |p38 |p39 |p40 |p41 |p42 |p43 |p44 |p45 |p46 |p47 |p48 |p49 |p50 |p51 |p52 |p53 |p54 |p55 |p56 |p57 |p58 |p59 |p60 |p61=>(refine' L2.H0 ?l ?c ?k;(case l=>k_is);(case c=>k_is);(case k=>k_is)))
  (case mk0 |kc0 |mk1 |kc1 |mk2 |kc2 |mk3 |kc3 |mk4 |kc4 |i3 |i4 |i5 |i6 |i7 |i8 |i9 |i10 |i11 |i12 |i13 |i14 |i15 |i16 |i17 |i18 |i19 |i20 |i21 |i22 |i23 |i24 |i25 |i26 |i27 |i28 |i29 |i30 |i31 |i32 |i33 |i34 |i35 |i36 |i37 |i38 |i39 |i40 |i41 |i42 |i43 |i44 |i45 |z_max |z_range |z_list |z_len |z_enumerate |z_bool |z_isinstance |z_int |z_str |z_dict |z_tuple=>k_is)
