import PyProof.Rows.All
import Wide.All
import OpenK.AllK
import Wide.FinOn
import Lean
import PyProof.EqAt
import PyProof.EqKinds
import PyProof.NeKinds
import PyProof.TupleCall
import PyProof.ExcBaseAll.ValueError
import KE.KDictList
import KE.KTryMore
import PyProof.EnumMake
import PyProof.Rows.EnumRows
import PyProof.Rows.FactsT2
import KE.KRevIter
import PyProof.DictItems
import PyProof.FactsAll.dict_3
import PyProof.FactsAll.dict_itemiterator_1
import OpenK.KOwn
import PyProof.StrBlock2
import KE.IntText
import PyProof.Rows.TupDisplay
import KE.KSortTup
import PySem.Challenge.RW_halfask_k05_whole_nobody_waits
set_option Elab.async false
set_option linter.all false
set_option maxRecDepth 100000
set_option maxHeartbeats 4000000
def qA_:=@List.getElem?_eq_getElem
def qB_:=@List.getElem?_eq_some_iff
def qC_:=@Bool.false_ne_true
def qD_:=@List.mem_of_getElem?
def qE_:=@List.mem_append_right
def qF_:=@List.mem_append_left
def qG_:=@List.mem_append
def qH_:=@List.mem_map
def qI_:=@List.mem_cons_self
def qJ_:=@List.getElem?_set
def qK_:=@List.getElem?_append_left
def qL_:=@List.getElem?_append_right
def qM_:=@List.length_map
def qN_:=@List.length_append
def qO_:=@Nat.le_refl
def qP_:=@Nat.le_of_ble_eq_true
def qQ_:=@List.getElem?_map
def qR_:=@List.mem_cons_of_mem
def qS_:=@List.mem_cons
def qT_:=@List.map_append
def qU_:=@List.getElem?_set_self
def qV_:=@List.getElem?_set_ne
def qW_:=@List.size_toArray
def qX_:=@List.length_set
def qY_:=@List.append_nil
def qZ_:=@decide_eq_true
def qa_:=@decide_eq_false
def qb_:=@List.map_map
def qc_:=@List.nil_append
def qd_:=@Nat.lt_of_lt_of_le
def qe_:=@Nat.lt_irrefl
def qf_:=@Nat.zero_le
namespace L2
open PySem PySem.Spec PyProof.Rows
abbrev Key:=Sum Int Str
def qf:Key->Value->Bool
 | .inl k,v=>Value.isInt k v
 | .inr x,v=>Value.isStrOf x v
def JE(w:World):Key->Int
 | .inl k=>hashInt k
 | .inr x=>hashStr w x
def bY:∀{k:Key} {v:Value},qf k v=true->(∃i t,k=Sum.inl i/\v=Value.int i t)\/(∃x t,k=Sum.inr x/\v=Value.str x t)
 | .inl i,v,h=>by
   obtain⟨t,e⟩:=Value.isInt_shape (k:=i) (v:=v) h
   exact .inl ⟨i,t,rfl,e⟩
 | .inr x,v,h=>by
   obtain⟨t,e⟩:=Value.isStrOf_shape (x:=x) (v:=v) h
   exact .inr ⟨x,t,rfl,e⟩
def y9(i:Int)(t:Tok):qf (.inl i) (.int i t)=true:=by simp [qf,Value.isInt]
def yU(x:Str)(t:Tok):qf (.inr x) (.str x t)=true:=by simp [qf,Value.isStrOf]
def FK(a b:Int):decide ((Sum.inl a:Key)=Sum.inl b)=(a==b):=by
 by_cases e:a=b
 · subst e;simp
 · have h:¬(Sum.inl a:Key)=Sum.inl b:=fun q=>e (Sum.inl.inj q)
   rw[qa_ h]
   exact(beq_eq_false_iff_ne.mpr e).symm
def GD(a b:Str):decide ((Sum.inr a:Key)=Sum.inr b)=decide (a=b):=by
 by_cases e:a=b
 · subst e;simp
 · have h:¬(Sum.inr a:Key)=Sum.inr b:=fun q=>e (Sum.inr.inj q)
   rw[qa_ h,qa_ e]
def Fh(a:Int)(b:Str):decide ((Sum.inl a:Key)=Sum.inr b)=false:=qa_ (fun q=>nomatch q)
def E8(a:Str)(b:Int):decide ((Sum.inr a:Key)=Sum.inl b)=false:=qa_ (fun q=>nomatch q)
def bW(prog:Program)(w:World):PySem.KeyKind prog w Key where
 is:=qf
 hash:=JE w
 inj:=fun v a b ha hb=>by
  rcases bY ha with ⟨i,t,rfl,rfl⟩ |⟨x,t,rfl,rfl⟩
  · rcases bY hb with ⟨j,u,rfl,e⟩ |⟨y,u,rfl,e⟩
    · injection e with e1 _;rw[e1]
    · exact nomatch e
  · rcases bY hb with ⟨j,u,rfl,e⟩ |⟨y,u,rfl,e⟩
    · exact nomatch e
    · injection e with e1 _;rw[e1]
 byValue:=fun k v h=>by
  rcases bY h with ⟨i,t,rfl,rfl⟩ |⟨x,t,rfl,rfl⟩ <;> rfl
 pyHash:=fun hv h=>by
  rcases bY hv with ⟨i,t,rfl,rfl⟩ |⟨x,t,rfl,rfl⟩
  · exact wpAny_pyHash_int h
  · exact wpAny_pyHash_str h
 eqBool:=fun hu hv h=>by
  rcases bY hu with ⟨i,t,rfl,rfl⟩ |⟨x,t,rfl,rfl⟩
  · rcases bY hv with ⟨j,u,rfl,rfl⟩ |⟨y,u,rfl,rfl⟩
    · rw[FK]at h;exact wpAny_eqBool_int h
    · rw[Fh]at h;exact SeqAt.EqAt.int_str i t y u _ _ _ _ h
  · rcases bY hv with ⟨j,u,rfl,rfl⟩ |⟨y,u,rfl,rfl⟩
    · rw[E8]at h;exact SeqAt.EqAt.str_int x t j u _ _ _ _ h
    · rw[GD]at h;exact wpAny_eqBool_str h
 «strs»:=fun k x t v h=>by
  rcases bY h with ⟨i,u,rfl,e⟩ |⟨y,u,rfl,e⟩
  · exact nomatch e
  · injection e with e1 _
    subst e1
    cases v <;> rfl
def ue(prog:Program)(w:World)(i:Int)(t:Tok):(bW prog w).is (.inl i) (.int i t)=true:=y9 i t
def vz(prog:Program)(w:World)(x:Str)(t:Tok):(bW prog w).is (.inr x) (.str x t)=true:=yU x t
inductive V where
 |non |bl (b:Bool) |int (i:Int) |str (x:Str) |byt (b:Array UInt8) |flt (b:UInt64) |ref (a:Addr) |ty (n:String)
 deriving DecidableEq
def RelV:V->Value->Prop
 | .non,u=>u=Value.none
 | .bl b,u=>u=Value.bool b
 | .int i,u=>∃t,u=Value.int i t
 | .str x,u=>∃t,u=Value.str x t
 | .byt b,u=>∃t,u=Value.bytes b t
 | .flt b,u=>∃t,u=Value.float b t
 | .ref a,u=>u=Value.ref a
 | .ty n,u=>u=Value.type n
abbrev Vals:List V->List Value->Prop:=Paired RelV
theorem Vals.length{xs:List V}{us:List Value}(r:Vals xs us):xs.length=us.length:=Paired.length r
theorem Vals.get:∀{xs:List V} {us:List Value} {i:Nat} {x:V},Vals xs us->xs[i]? =some x->∃u,us[i]? =some u/\RelV x u
 |_,_,_,_,.nil,e=>by simp at e
 |_,_,0,_,.cons r _,e=>by simp at e;subst e;exact⟨_,rfl,r⟩
 |_,_,i+1,x,.cons _ t,e=>by
  obtain⟨u,h1,h2⟩:=Vals.get (i:=i) (x:=x) t (by simpa using e)
  exact⟨u,by simpa using h1,h2⟩
theorem Vals.set{x:V}{u:Value}(r:RelV x u):∀{xs:List V} {us:List Value} (i:Nat),Vals xs us->Vals (xs.set i x) (us.set i u)
 |_,_,_,.nil=>.nil
 |_,_,0,.cons _ t=>.cons r t
 |_,_,i+1,.cons q t=>.cons q (Vals.set r i t)
theorem Vals.append:∀{xs ys:List V} {us ws:List Value},Vals xs us->Vals ys ws->Vals (xs++ys) (us++ws)
 |_,_,_,_,.nil,s=>s
 |_,_,_,_,.cons r t,s=>.cons r (Vals.append t s)
theorem Vals.take:∀{xs:List V} {us:List Value} (n:Nat),Vals xs us->Vals (xs.take n) (us.take n)
 |_,_,0,_=>.nil
 |_,_,_+1,.nil=>.nil
 |_,_,n+1,.cons r t=>.cons r (Vals.take n t)
theorem Vals.drop:∀{xs:List V} {us:List Value} (n:Nat),Vals xs us->Vals (xs.drop n) (us.drop n)
 |_,_,0,r=>r
 |_,_,_+1,.nil=>.nil
 |_,_,n+1,.cons _ t=>Vals.drop n t
def lC:Option V->Option Value->Prop
 |some v,some u=>RelV v u
 |none,none=>True
 |_,_=>False
def KV{κ:Type}:List (κ×V)->List (κ×Value)->Prop:=Paired fun(p:κ×V) (q:κ×Value)=>p.1=q.1/\RelV p.2 q.2
def kV:Key->V
 | .inl i=>.int i
 | .inr x=>.str x
inductive HO where
 /-- a list -/
 |lst (xs:List V)
 /-- a tuple (never changes) -/
 |tup (xs:List V)
 /-- a dict whose keys are ints and texts;one whose keys are tuples of ints and texts (the empty one is both) -/
 |dK (kvs:List (Key×V)) |dT (kvs:List (List Key×V))
 /-- a set of ints:its members,its size -/
 |set (S:Int->Bool) (n:Nat)
 /-- an instance of the class at C,its dict at dx,its attributes -/
 |ins (C dx:Addr) (fs:List (Str×V))
 /-- the dict of the instance at x -/
 |own (x:Addr)
 /-- the dict of an exception -/
 |xd (fs:List (Str×V))
 /-- a bound method,f of x -/
 |met (f x:Addr)
 /-- a range object lo,lo+1,.. below hi -/
 |rng (lo hi:Int)
 /-- a thing that is known to the object (the script;a dict while a loop walks it):read,never written while it is so -/
 |frz (o:Obj) (u:HO)
 /-- a code object's table -/
 |tbl (ps:Array Value)
 /-- any other thing,by what is true of its one object (a def of one's own:SetO a S n:=HO.ext fun h=>..) -/
 |ext (φ:Heap->Prop)
abbrev Hp:=Addr->Option HO
def upd(H:Hp)(a:Addr)(o:HO):Hp:=fun b=>if b=a then some o else H b
def aO{H:Hp}{a:Addr}{o:HO}:upd H a o a=some o:=by unfold upd;rw[if_pos rfl]
def aJ{H:Hp}{a b:Addr}{o:HO}(h:b≠a):upd H a o b=H b:=by unfold upd;rw[if_neg h]
def Bf{H:Hp}{a b:Addr}{o u:HO}(h:H a=some o)(h':H b=some u)(d:o≠u):a≠b:=by
 intro e;subst e;rw[h]at h';exact d (Option.some.inj h')
def cp{H:Hp}{a b:Addr}{o:HO}(h:H a=some o)(h':H b=none):a≠b:=by
 intro e;subst e;rw[h]at h';cases h'
section
variable(P:Program)(w:World)
def bR(H:Hp)(h:Heap)(a:Addr):HO->Prop
 | .lst xs=>xs.length<=sizeLine/\∃(its:List Value) (n:Nat),Vals xs its/\h.get? a=some {cls:= .type "list",data:= .seq its.toArray n}
 | .tup xs=>xs.length<=sizeLine/\∃its:List Value,Vals xs its/\IsTup h a its.toArray
 | .dK kvs=>kvs.length<=sizeLine/\(a==sysModules)=false/\∃vs,KV kvs vs/\h.DictOf (bW P w) a vs
 | .dT kvs=>kvs.length<=sizeLine/\(a==sysModules)=false/\∃xs:List (List Key×Addr×Value),
    Paired (fun(p:List Key×V) (q:List Key×Addr×Value)=>p.1=q.1/\H q.2.1=some (.tup (p.1.map kV))/\RelV p.2 q.2.2) kvs xs/\
    ∃o es ep,h.get? a=some o/\o.ExactDict/\o.data= .dict es ep/\es.toList=xs.map (entryOfKey (tupleKind (bW P w)))/\(xs.map (·.1)).Nodup
 | .set S n=>h.SetOf (intKind P w) a S n
 | .ins C dx fs=>H dx=some (.own a)/\fs.length<=1000/\dx≠a/\h.get? a=some (PySem.W.instObj C dx)/\
    ∃mA,h.Ns1 dx mA/\(∀f,lC (fs.lookup f) (mA f))/\PySem.Within mA (fs.map (·.1))
 | .own _=>∃o,h.get? a=some o
 | .xd fs=>∃mA,h.Ns1 a mA/\∀f,lC (fs.lookup f) (mA f)
 | .rng lo hi=>∃t u v,h.get? a=some {cls:= .type "range",data:= .fields #[.int lo t,.int hi u,.int 1 v]}
 | .frz o u=>h.get? a=some o/\bR H h a u
 | .tbl ps=>h.get? a=some {cls:= .none,data:= .fields ps}
 | .met f x=>h.get? a=some (PySem.W.methodObj (.ref f) (.ref x))
 | .ext φ=>φ h/\(∃o,h.get? a=some o)/\∀h1 h2:Heap,φ h1->(∀o,h1.get? a=some o->h2.get? a=some o)->φ h2
def HOk(H:Hp)(h:Heap):Prop:=∀a o,H a=some o->bR P w H h a o
end
section
variable{P:Program}{w:World}{H H':Hp}{h h':Heap}{a:Addr}{o:HO}
theorem bR.lt(x:bR P w H h a o):a < h.objs.size:=by
 cases o with
 |lst xs=>obtain⟨_,_,_,_,e⟩:=x;exact Heap.lt_size e
 |tup xs=>obtain⟨_,_,_,p⟩:=x;exact p.lt
 |dK kvs=>obtain⟨_,_,_,_,o,_,_,e,_⟩:=x;exact Heap.lt_size e
 |dT kvs=>obtain⟨_,_,_,_,o,_,_,e,_⟩:=x;exact Heap.lt_size e
 |set S n=>obtain⟨o,_,_,_,e,_⟩:=x;exact Heap.lt_size e
 |ins C dx fs=>obtain⟨_,_,_,e,_⟩:=x;exact Heap.lt_size e
 |own y=>obtain⟨_,e⟩:=x;exact Heap.lt_size e
 |xd fs=>obtain⟨_,⟨_,_,_,e,_⟩,_⟩:=x;exact Heap.lt_size e
 |rng lo hi=>obtain⟨_,_,_,e⟩:=x;exact Heap.lt_size e
 |frz ob u=>obtain⟨e,_⟩:=x;exact Heap.lt_size e
 |tbl ps=>exact Heap.lt_size (show h.get? a=some _ from x)
 |met f y=>exact Heap.lt_size (show h.get? a=some _ from x)
 |ext φ=>obtain⟨_,⟨_,e⟩,_⟩:=x;exact Heap.lt_size e
theorem Paired.C9{α β:Type}{F G:α->β->Prop}:∀{l₁:List α} {l₂:List β},Paired F l₁ l₂->(∀a b,F a b->G a b)->Paired G l₁ l₂
 |_,_,.nil,_=>.nil
 |_,_,.cons r t,f=>.cons (f _ _ r) (Paired.C9 t f)
def Paired.imp'{α β:Type}{F G:α->β->Prop}(f:∀a b,F a b->G a b){l₁:List α}{l₂:List β}(r:Paired F l₁ l₂):Paired G l₁ l₂:=Paired.C9 r f
def bR.jd(x:bR P w H h a o)(k:∀b u,(b=a\/H b=some (.own a))->h.get? b=some u->h'.get? b=some u)
 (ho:∀b,H b=some (.own a)->H' b=some (.own a)) (ht:∀b xs,H b=some (.tup xs)->H' b=some (.tup xs)):bR P w H' h' a o:=by
 induction o with
 |lst xs=>obtain⟨z,its,n,r,e⟩:=x;exact⟨z,its,n,r,k _ _ (.inl rfl) e⟩
 |tup xs=>obtain⟨z,its,r,ob,e,c⟩:=x;exact⟨z,its,r,ob,k _ _ (.inl rfl) e,c⟩
 |dK kvs=>obtain⟨z,y,vs,r,ob,es,ep,e,c⟩:=x;exact⟨z,y,vs,r,ob,es,ep,k _ _ (.inl rfl) e,c⟩
 |dT kvs=>
  obtain⟨z,y,xs,r,ob,es,ep,e,c⟩:=x
  exact⟨z,y,xs,Paired.C9 r fun p q z=>⟨z.1,ht _ _ z.2.1,z.2.2⟩,ob,es,ep,k _ _ (.inl rfl) e,c⟩
 |set S n=>obtain⟨ob,es,ep,t,e,c⟩:=x;exact⟨ob,es,ep,t,k _ _ (.inl rfl) e,c⟩
 |ins C dx fs=>
  obtain⟨d,z,ne,e,mA,⟨od,es,ep,e2,c⟩,r⟩:=x
  exact⟨ho _ d,z,ne,k _ _ (.inl rfl) e,mA,⟨od,es,ep,k _ _ (.inr d) e2,c⟩,r⟩
 |own y=>obtain⟨ob,e⟩:=x;exact⟨ob,k _ _ (.inl rfl) e⟩
 |xd fs=>obtain⟨mA,⟨od,es,ep,e,c⟩,r⟩:=x;exact⟨mA,⟨od,es,ep,k _ _ (.inl rfl) e,c⟩,r⟩
 |rng lo hi=>obtain⟨t,u,v,e⟩:=x;exact⟨t,u,v,k _ _ (.inl rfl) e⟩
 |frz ob u ih=>obtain⟨e,q⟩:=x;exact⟨k _ _ (.inl rfl) e,ih q⟩
 |tbl ps=>
  have e:h.get? a=some {cls:= .none,data:= .fields ps}:=x
  show h'.get? a=some {cls:= .none,data:= .fields ps}
  exact k a _ (.inl rfl) e
 |met f y=>
  have e:h.get? a=some (PySem.W.methodObj (.ref f) (.ref y)):=x
  show h'.get? a=some (PySem.W.methodObj (.ref f) (.ref y))
  exact k a _ (.inl rfl) e
 |ext φ=>obtain⟨p,⟨o,e⟩,st⟩:=x;exact⟨st _ _ p fun o q=>k _ _ (.inl rfl) q,⟨o,k _ _ (.inl rfl) e⟩,st⟩
theorem HOk.lt(x:HOk P w H h)(e:H a=some o):a < h.objs.size:=(x a o e).lt
def HOk.fresh(x:HOk P w H h)(e:h.objs.size<=a):H a=none:=by
 cases q:H a with
 |none=>rfl
 |some u=>exact absurd (qd_ (x.lt q) e) (qe_ _)
def HOk.kept(x:HOk P w H h)(k:∀b u,h.get? b=some u->h'.get? b=some u):HOk P w H h':=fun a o e=>
 (x a o e).jd (fun b u _ q=>k b u q) (fun _ q=>q) fun _ _ q=>q
def HOk.laid(x:HOk P w H h)(k:∀b u,h.get? b=some u->h'.get? b=some u)(hp:h.objs.size<=a)(new:bR P w (upd H a o) h' a o):HOk P w (upd H a o) h':=fun b u e=>by
 have hn:=x.fresh hp
 by_cases hb:b=a
 · subst hb;rw[aO]at e;cases e;exact new
 · rw[aJ hb]at e
   exact(x b u e).jd (fun c v _ q=>k c v q) (fun c q=>by rw[aJ (cp q hn)];exact q) fun c xs q=>by rw[aJ (cp q hn)];exact q
end
def Rd(H:Hp)(a:Addr)(u:HO):Prop:=H a=some u\/∃o,H a=some (.frz o u)
def Rd.ok{P:Program}{w:World}{H:Hp}{h:Heap}{a:Addr}{u:HO}(r:Rd H a u)(x:HOk P w H h):bR P w H h a u:=by
 rcases r with r |⟨o,r⟩
 · exact x a u r
 · obtain⟨_,q⟩:=x a _ r
   exact q
def Mut:Option HO->Prop
 |some (.lst _)=>True
 |some (.dK _)=>True
 |some (.dT _)=>True
 |some (.set _ _)=>True
 |some (.ins _ _ _)=>True
 |some (.ext _)=>True
 |_=>False
section
variable{P:Program}{w:World}{H:Hp}{h h':Heap}{x e:Addr}{o':HO}
def HOk.write(ok:HOk P w H h)(mu:Mut (H x))(he:e=x\/H e=some (.own x))(k:∀b u,b≠e->h.get? b=some u->h'.get? b=some u)(heo:∃u,h'.get? e=some u)
 (new:bR P w (upd H x o') h' x o'):HOk P w (upd H x o') h':=fun b u q=>by
 have nown:∀c y,H c=some (.own y)->c≠x:=fun c y r z=>by subst z;rw[r]at mu;exact mu
 have ntup:∀c xs,H c=some (.tup xs)->c≠x:=fun c xs r z=>by subst z;rw[r]at mu;exact mu
 by_cases hb:b=x
 · subst hb;rw[aO]at q;cases q;exact new
 · rw[aJ hb]at q
   by_cases hbe:b=e
   · have q':H b=some (.own x):=by
      rcases he with z |z
      · exact absurd (hbe.trans z) hb
      · rw[hbe];exact z
     rw[q]at q';cases q'
     obtain⟨v,hv⟩:=heo
     exact⟨v,by rw[hbe];exact hv⟩
   · refine(ok b u q).jd (fun c v hc r=>k c v ?_ r) (fun c r=>by rw[aJ (nown c b r)];exact r) fun c xs r=>by rw[aJ (ntup c xs r)];exact r
     rcases hc with rfl |hc
     · exact hbe
     · rintro rfl
       rcases he with z |z
       · exact nown c b hc z
       · rw[hc]at z;cases z;exact hb rfl
end
structure Un (fs ex:List Addr) (H H':Hp) (h h':Heap):Prop where
 keep:∀b o,h.get? b=some o->H b=none->b∉fs->b∉ex->h'.get? b=some o
 slot:∀b o,h.get? b=some o->H b=none->b∈fs->b∉ex->∃sl,h'.get? b=some {o with slots:=sl}
 free:∀b o,h.get? b=some o->H b=none->b∉ex->H' b=none
 there:∀b o,h.get? b=some o->b∉ex->∃o',h'.get? b=some o'
 mE:∀b xs,H b=some (.tup xs)->H' b=some (.tup xs)
 nK:∀b o u,H b=some (.frz o u)->H' b=some (.frz o u)
 pv:∀b ps,H b=some (.tbl ps)->∃more,H' b=some (.tbl (ps++more))
section
variable{fs fs' ex ex':List Addr}{H H1 H2:Hp}{h h1 h2 h':Heap}{a x e:Addr}{o:HO}
def Un.any(u:Un fs ex H H1 h h1){b:Addr}{ob:Obj}(q:h.get? b=some ob)(n:H b=none)(hx:b∉ex):∃sl,h1.get? b=some {ob with slots:=sl}:=by
 by_cases hb:b∈fs
 · exact u.slot b ob q n hb hx
 · exact⟨ob.slots,u.keep b ob q n hb hx⟩
def Un.kept(k:∀b u,h.get? b=some u->h'.get? b=some u):Un fs ex H H h h':=
 ⟨fun b ob q _ _ _=>k b ob q,fun b ob q _ _ _=>⟨ob.slots,k b ob q⟩,fun _ _ _ n _=>n,fun b ob q _=>⟨ob,k b ob q⟩,fun _ _ q=>q,fun _ _ _ q=>q,fun _ ps q=>⟨#[],by rw[q];simp⟩⟩
def Un.refl:Un fs ex H H h h:=Un.kept fun _ _ q=>q
def Un.laid(k:∀b u,h.get? b=some u->h'.get? b=some u)(hp:h.objs.size<=a)(hn:H a=none):Un fs ex H (upd H a o) h h' where
 keep:=fun b u q _ _ _=>k b u q
 slot:=fun b u q _ _ _=>⟨u.slots,k b u q⟩
 free:=fun b u q n _=>by rw[aJ (Nat.ne_of_lt (qd_ (Heap.lt_size q) hp))];exact n
 there:=fun b u q _=>⟨u,k b u q⟩
 mE:=fun b xs q=>by rw[aJ (cp q hn)];exact q
 nK:=fun b u xs q=>by rw[aJ (cp q hn)];exact q
 pv:=fun b ps q=>⟨#[],by rw[aJ (cp q hn),q];simp⟩
def Un.write(mu:Mut (H x))(he:e=x\/H e=some (.own x))(k:∀b u,b≠e->h.get? b=some u->h'.get? b=some u)(heo:∃u,h'.get? e=some u):Un fs ex H (upd H x o) h h':=by
 have hx:∀b,H b=none->b≠x:=fun b n z=>by subst z;rw[n]at mu;exact mu
 have hb:∀b,H b=none->b≠e:=fun b n z=>by
  subst z
  rcases he with r |r
  · exact hx b n r
  · rw[n]at r;cases r
 have hm:∀b u,H b=some u->¬Mut (some u)->b≠x:=fun b u q nm z=>by subst z;rw[q]at mu;exact nm mu
 refine⟨fun b u q n _ _=>k b u (hb b n) q,fun b u q n _ _=>⟨u.slots,k b u (hb b n) q⟩,fun b u q n _=>by rw[aJ (hx b n)];exact n,fun b u q _=>?_,
  fun b xs q=>by rw[aJ (hm b _ q fun z=>z)];exact q,fun b u xs q=>by rw[aJ (hm b _ q fun z=>z)];exact q,fun b ps q=>⟨#[],by rw[aJ (hm b _ q fun z=>z),q];simp⟩⟩
 by_cases hbe:b=e
 · subst hbe;exact heo
 · exact⟨u,k b u hbe q⟩
end
def trk(h:Heap)(H:Hp):List Addr:=(List.range h.objs.size).filter fun a=>(H a).isSome
def tw(h:Heap)(H:Hp):Heap:=PySem.W.hideAll h (trk h H)
def yl(h:Heap)(H:Hp):(tw h H).objs.size=h.objs.size:=PySem.W.hideAll_size _ _
def zD{h:Heap}{H:Hp}{b:Addr}{o:Obj}(e:h.get? b=some o)(n:H b=none):(tw h H).get? b=some o:=
 PySem.W.hideAll_get _ e fun hm=>by
  have q:(H b).isSome=true:=(List.mem_filter.mp hm).2
  rw[n]at q;simp at q
def Du{h:Heap}{H:Hp}{b:Addr}{o:Obj}(e:(tw h H).get? b=some o):h.get? b=some o/\H b=none:=by
 have e':h.get? b=some o:=PySem.W.of_hideAll (trk h H) e
 refine⟨e',?_⟩
 cases q:H b with
 |none=>rfl
 |some x=>
  have hm:b∈trk h H:=List.mem_filter.mpr ⟨List.mem_range.mpr (Heap.lt_size e'),by simp [q]⟩
  have z:(tw h H).get? b=none:=PySem.W.hideAll_none (trk h H) hm
  rw[z]at e;cases e
structure Mod (K:PySem.W.Frag) (mg:Str->Option Value) (base:Heap):Prop where
 kin:K.In base
 glob:base.Ns mainGlobals mg
 blt:∃mb,base.Ns builtinsNs mb/\∀x:Str,x≠"__name__"->mb x=bootBuiltins x
 nolimit:base.NoLimit
structure Cx where
 prog:Program
 w:World
 K:PySem.W.Frag
 mg:Str->Option Value
 base:Heap
 A:Around
 N:List Str
 s₀:Shared
 H₀:Hp
 env:Env
 outer:List Env
 stack:List Env
 ex:List Addr
 fn:Str->Bool
 calm:Bool
 pn:List (Addr×Obj)
 xe:Value->Shared->Prop
def frs(l:List Env):List Addr:=l.filterMap (·.frame)
abbrev Cx.fs(X:Cx):List Addr:=frs X.outer
def Vis(sc:Scope)(x:Str):Prop:=sc.names.lookup x=some .local\/sc.names.lookup x=some .cell\/sc.names.lookup x=some .free
def Loc(sc:Scope)(x:Str):Prop:=sc.names.lookup x=some .local\/sc.names.lookup x=some .cell
def Look(env:Env)(h:Heap)(m:Str->Option Value)(x:Str)(u:Value):Prop:=
 (env.kindOf x=some .local/\m x=some u)\/((env.kindOf x=some .cell\/env.kindOf x=some .free)/\∃c,env.cells.lookup x=some c/\h.IsCell c (some u))
structure Cx.Ok (X:Cx):Prop where
 mod:Mod X.K X.mg X.base
 kind:X.env.scope.kind= .function
 glob:X.env.globals=mainGlobals
 blt:X.env.builtins=builtinsNs
 above:X.s₀.heap.objs.size<=X.env.locals
 inj:∀x y c,X.env.cells.lookup x=some c->X.env.cells.lookup y=some c->x=y
 has:∀x,(X.env.kindOf x=some .cell\/X.env.kindOf x=some .free)->∃c,X.env.cells.lookup x=some c
 cab:∀x c,X.fn x=true->X.env.cells.lookup x=some c->X.s₀.heap.objs.size<=c
 hd:X.calm=true->X.A.handled=none
 frames:X.A.frames=some X.stack
 stk:X.stack=X.outer\/(X.stack=X.env :: X.outer/\X.env.frame=some X.env.locals)
 exf:∀b∈X.ex,b≠X.env.locals/\∀x c,X.env.cells.lookup x=some c->c≠b
 bs:∀b o,X.base.get? b=some o->X.s₀.heap.get? b=some o/\X.H₀ b=none
 bsz:X.base.objs.size<=X.s₀.heap.objs.size
 wB:∀b o,X.base.get? b=some o->b∉X.ex
 yZ:∀b∈X.ex,b∉X.fs
 mD:X.s₀.heap.FunFrames X.base X.outer
 frf:∀b∈X.fs,X.H₀ b=none
structure Inv (X:Cx) (pins:List (Addr×Obj)) (σ:List (Option V)) (H:Hp) (s:Shared):Prop where
 ok:X.Ok
 os:s.os=X.s₀.os
 bare:AllBare s.gens
 base:Un X.fs X.ex X.H₀ H X.s₀.heap s.heap
 loc:∃m,s.heap.Ns X.env.locals m/\∀(i:Nat) (x:Str) (v:V),X.N[i]? =some x->σ[i]? =some (some v)->Vis X.env.scope x->∃u,RelV v u/\Look X.env s.heap m x u
 cell:∀x c,X.env.cells.lookup x=some c->∃v,s.heap.IsCell c v
 free:H X.env.locals=none
 gf:∀x c,X.env.cells.lookup x=some c->H c=none
 pin:∀p∈X.pn++pins,s.heap.get? p.1=some p.2/\H p.1=none/\p.1≠X.env.locals/\p.1∉X.fs/\∀v,p.2.data≠.cell v
 hok:HOk X.prog X.w H s.heap
 len:σ.length=X.N.length
section
variable{X:Cx}{pins:List (Addr×Obj)}{σ:List (Option V)}{H H':Hp}{s:Shared}{h':Heap}
def Cx.Ok.Jr(ok:X.Ok){b:Addr}{o:Obj}(e:X.base.get? b=some o):b∉X.fs:=fun hb=>by
 have:=(ok.mD.mem hb).1
 rw[e]at this;cases this
theorem Inv.bs(I:Inv X pins σ H s):∀b o,X.base.get? b=some o->s.heap.get? b=some o/\H b=none:=fun b o e=>
 ⟨I.base.keep b o (I.ok.bs b o e).1 (I.ok.bs b o e).2 (I.ok.Jr e) (I.ok.wB b o e),I.base.free b o (I.ok.bs b o e).1 (I.ok.bs b o e).2 (I.ok.wB b o e)⟩
def Inv.bk(I:Inv X pins σ H s):∀b o,X.base.get? b=some o->s.heap.get? b=some o:=fun b o e=>(I.bs b o e).1
theorem Inv.mod(I:Inv X pins σ H s):Mod X.K X.mg X.base:=I.ok.mod
def Inv.kIn(I:Inv X pins σ H s):X.K.In s.heap:=I.ok.mod.kin.keeps I.bk
theorem Inv.lt(I:Inv X pins σ H s):X.env.locals < s.heap.objs.size:=let ⟨_,hn,_⟩:=I.loc;hn.lt
def Inv.sz(I:Inv X pins σ H s):X.s₀.heap.objs.size<=s.heap.objs.size:=Nat.le_trans I.ok.above (Nat.le_of_lt I.lt)
def Inv.JH(I:Inv X pins σ H s){a:Addr}(h:s.heap.objs.size<=a):a∉X.fs:=fun hb=>by
 obtain⟨_,o,ho,_⟩:=I.ok.mD.mem hb
 exact absurd (qd_ (Heap.lt_size ho) (Nat.le_trans I.sz h)) (qe_ _)
def Inv.cne(I:Inv X pins σ H s):∀x c,X.env.cells.lookup x=some c->c≠X.env.locals:=fun x c e z=>by
 obtain⟨v,o,ho,hd⟩:=I.cell x c e
 obtain⟨m,⟨o',es,ep,ho',hd',_⟩,_⟩:=I.loc
 rw[z,ho']at ho;cases ho;rw[hd']at hd;cases hd
theorem Inv.mD(I:Inv X pins σ H s):s.heap.FunFrames X.base X.outer:=by
 have all:∀(l:List Env),(∀b∈frs l,b∈X.fs)->X.s₀.heap.FunFrames X.base l->s.heap.FunFrames X.base l:=by
  intro l
  induction l with
  |nil=>intro _ _;trivial
  |cons env r ih=>
   intro hs hl
   obtain⟨hk,⟨L,o,hf,hn,ho,hd⟩,hr⟩:=hl
   have hL:L∈X.fs:=hs L (by unfold frs;rw[List.filterMap_cons,hf];exact qI_)
   obtain⟨sl,e⟩:=I.base.slot L o ho (I.ok.frf L hL) hL fun z=>I.ok.yZ L z hL
   exact⟨hk,⟨L,_,hf,hn,e,hd⟩,ih (fun b hb=>hs b (by unfold frs;rw[List.filterMap_cons,hf];exact qR_ _ hb)) hr⟩
 exact all X.outer (fun _ hb=>hb) I.ok.mD
theorem Inv.stack(I:Inv X pins σ H s):s.heap.FunFrames X.base X.stack:=by
 rcases I.ok.stk with e |⟨e,hf⟩
 · rw[e];exact I.mD
 · rw[e]
   obtain⟨m,hn,_⟩:=I.loc
   refine .cons (by rw[I.ok.kind];decide) hf hn ?_ I.mD
   exact Heap.get?_none_of_le (Nat.le_trans I.ok.bsz I.ok.above)
def Inv.j7(I:Inv X pins σ H s):∀b∈frs X.stack,b∈X.env.locals :: X.fs:=fun b hb=>by
 rcases I.ok.stk with e |⟨e,hf⟩
 · rw[e]at hb;exact qR_ _ hb
 · rw[e]at hb
   unfold frs at hb
   rw[List.filterMap_cons,hf]at hb
   exact hb
def Inv.oF(I:Inv X pins σ H s):∀b∈frs X.stack,H b=none:=fun b hb=>by
 rcases qS_.mp (I.j7 b hb)with e |hb
 · rw[e];exact I.free
 · obtain⟨_,o,ho,_⟩:=I.ok.mD.mem hb
   exact I.base.free b o ho (I.ok.frf b hb) fun z=>I.ok.yZ b z hb
def Inv.step{g':Array GenState}{t':Nat}{d':Drawn}{ch:List Addr}(I:Inv X pins σ H s)
 (hch:∀b∈ch,(b∈X.ex\/X.s₀.heap.objs.size<=b)/\b≠X.env.locals/\(∀x c,X.env.cells.lookup x=some c->c≠b)/\∀p∈X.pn++pins,p.1≠b)
 (keep:∀b o,b≠X.env.locals->b∉X.fs->b∉ch->s.heap.get? b=some o->H b=none->h'.get? b=some o)
 (slot:∀b o,b≠X.env.locals->b∈X.fs->b∉ch->s.heap.get? b=some o->H b=none->∃sl,h'.get? b=some {o with slots:=sl}) (free:∀b o,b∉ch->s.heap.get? b=some o->H b=none->H' b=none)
 (there:∀b o,b∉ch->s.heap.get? b=some o->∃o',h'.get? b=some o')
 (mE:∀b xs,H b=some (.tup xs)->H' b=some (.tup xs)) (nK:∀b o u,H b=some (.frz o u)->H' b=some (.frz o u)) (pv:∀b ps,H b=some (.tbl ps)->∃more,H' b=some (.tbl (ps++more)))
 (ns:∀m,s.heap.Ns X.env.locals m->h'.Ns X.env.locals m) (hok:HOk X.prog X.w H' h') (hg:AllBare g'):
 Inv X pins σ H' {s with heap:=h',gens:=g',drawn:=d',toks:=t'}:=by
 have neL:∀b o,X.s₀.heap.get? b=some o->b≠X.env.locals:=fun b o e=>Nat.ne_of_lt (qd_ (Heap.lt_size e) I.ok.above)
 have neC:∀b o,X.s₀.heap.get? b=some o->b∉X.ex->b∉ch:=fun b o e hx hb=>by
  rcases (hch b hb).1 with z |z
  · exact hx z
  · exact absurd (qd_ (Heap.lt_size e) z) (qe_ _)
 have cellK:∀x c,X.env.cells.lookup x=some c->∀v,s.heap.IsCell c v->h'.IsCell c v:=fun x c e v ⟨o,ho,hd⟩=>by
  have nch:c∉ch:=fun z=>(hch c z).2.2.1 x c e rfl
  by_cases hc:c∈X.fs
  · obtain⟨sl,q⟩:=slot c o (I.cne x c e) hc nch ho (I.gf x c e)
    exact⟨_,q,hd⟩
  · exact⟨o,keep c o (I.cne x c e) hc nch ho (I.gf x c e),hd⟩
 refine⟨I.ok,I.os,hg,⟨fun b o e n hb hx=>?_,fun b o e n hb hx=>?_,fun b o e n hx=>?_,fun b o e hx=>?_,fun b xs e=>mE b xs (I.base.mE b xs e),fun b o xs e=>nK b o xs (I.base.nK b o xs e),fun b ps e=>?_⟩,?_,fun x c e=>?_,?_,fun x c e=>?_,fun p hp=>?_,hok,I.len⟩
 · exact keep b o (neL b o e) hb (neC b o e hx) (I.base.keep b o e n hb hx) (I.base.free b o e n hx)
 · obtain⟨sl,e1⟩:=I.base.slot b o e n hb hx
   obtain⟨sl',e2⟩:=slot b _ (neL b o e) hb (neC b o e hx) e1 (I.base.free b o e n hx)
   exact⟨sl',e2⟩
 · obtain⟨o',e1⟩:=I.base.there b o e hx
   exact free b o' (neC b o e hx) e1 (I.base.free b o e n hx)
 · obtain⟨o',e1⟩:=I.base.there b o e hx
   exact there b o' (neC b o e hx) e1
 · obtain⟨m1,e1⟩:=I.base.pv b ps e
   obtain⟨m2,e2⟩:=pv b _ e1
   exact⟨m1++m2,by rw[e2,Array.append_assoc]⟩
 · obtain⟨m,hn,hl⟩:=I.loc
   refine⟨m,ns m hn,fun i x v e1 e2 e3=>?_⟩
   obtain⟨u,r,l⟩:=hl i x v e1 e2 e3
   refine⟨u,r,?_⟩
   rcases l with l |⟨k,c,e,z⟩
   · exact .inl l
   · exact .inr ⟨k,c,e,cellK x c e _ z⟩
 · obtain⟨v,z⟩:=I.cell x c e
   exact⟨v,cellK x c e v z⟩
 · obtain⟨m,⟨o,_,_,ho,_⟩,_⟩:=I.loc
   exact free _ o (fun z=>(hch _ z).2.1 rfl) ho I.free
 · obtain⟨v,o,ho,hd⟩:=I.cell x c e
   exact free c o (fun z=>(hch c z).2.2.1 x c e rfl) ho (I.gf x c e)
 · obtain⟨e,n,ne,nf,d⟩:=I.pin p hp
   have nch:p.1∉ch:=fun z=>(hch p.1 z).2.2.2 p hp rfl
   exact⟨keep p.1 p.2 ne nf nch e n,free p.1 p.2 nch e n,ne,nf,d⟩
def Inv.un{t':Nat}(I:Inv X pins σ H s)(u:Un X.fs [] H H' s.heap h')(hok:HOk X.prog X.w H' h'):Inv X pins σ H' {s with heap:=h',toks:=t'}:=by
 obtain⟨m,⟨o,es,ep,ho,r⟩,_⟩:=id I.loc
 obtain⟨sl,hL⟩:=u.any ho I.free (by simp)
 exact I.step (g':=s.gens) (d':=s.drawn) (ch:=[]) (fun _ z=>nomatch z) (fun b o _ hb _ e n=>u.keep b o e n hb (by simp)) (fun b o _ hb _ e n=>u.slot b o e n hb (by simp)) (fun b o _ e n=>u.free b o e n (by simp)) (fun b o _ e=>u.there b o e (by simp)) u.mE u.nK u.pv (fun m' hm=>by
  obtain⟨o',es',ep',ho',r'⟩:=hm
  rw[ho]at ho';cases ho'
  exact⟨_,es',ep',hL,r'⟩) hok I.bare
def Inv.call{g':Array GenState}{t':Nat}{d':Drawn}{ch:List Addr}(I:Inv X pins σ H s)(u:Un (frs X.stack) ch H H' s.heap h')(hok:HOk X.prog X.w H' h')(hg:AllBare g')
 (hch:∀b∈ch,(b∈X.ex\/X.s₀.heap.objs.size<=b)/\b≠X.env.locals/\(∀x c,X.env.cells.lookup x=some c->c≠b)/\∀p∈X.pn++pins,p.1≠b):
 Inv X pins σ H' {s with heap:=h',gens:=g',drawn:=d',toks:=t'}:=by
 obtain⟨m,⟨o,es,ep,ho,r⟩,_⟩:=id I.loc
 obtain⟨sl,hL⟩:=u.any ho I.free fun z=>(hch _ z).2.1 rfl
 exact I.step (ch:=ch) hch (fun b o hL hb hc e n=>u.keep b o e n (fun z=>(qS_.mp (I.j7 b z)).elim hL hb) hc) (fun b o _ _ hc e n=>u.any e n hc) (fun b o hc e n=>u.free b o e n hc) (fun b o hc e=>u.there b o e hc) u.mE u.nK u.pv (fun m' hm=>by
  obtain⟨o',es',ep',ho',r'⟩:=hm
  rw[ho]at ho';cases ho'
  exact⟨_,es',ep',hL,r'⟩) hok hg
def Inv.turned{t':Nat}{it:Addr}(I:Inv X pins σ H s)(k:∀b o,b≠it->s.heap.get? b=some o->h'.get? b=some o)(hn:H it=none)(hL:it≠X.env.locals)
 (h1:it∈X.ex\/X.s₀.heap.objs.size<=it) (h2:∀x c,X.env.cells.lookup x=some c->c≠it) (h3:∀p∈X.pn++pins,p.1≠it):Inv X pins σ H {s with heap:=h',toks:=t'}:=by
 have nit:∀b u,H b=some u->b≠it:=fun b u e z=>by rw[z,hn]at e;cases e
 refine I.step (g':=s.gens) (d':=s.drawn) (ch:=[it]) (fun b hb=>?_) (fun b o _ _ hc e _=>k b o (fun z=>hc (by simp [z])) e) (fun b o _ _ hc e _=>⟨o.slots,k b o (fun z=>hc (by simp [z])) e⟩) (fun _ _ _ _ n=>n)
  (fun b o hc e=>⟨o,k b o (fun z=>hc (by simp [z])) e⟩) (fun _ _ e=>e) (fun _ _ _ e=>e) (fun b ps e=>⟨#[],by rw[e];simp⟩) (fun m hm=>?_) (fun b u e=>?_) I.bare
 · have e:b=it:=by simpa using hb
   subst e
   exact⟨h1,hL,h2,h3⟩
 · obtain⟨o,es,ep,ho,r⟩:=hm
   exact⟨o,es,ep,k _ o (Ne.symm hL) ho,r⟩
 · refine(I.hok b u e).jd (fun c v hc q=>k c v ?_ q) (fun _ q=>q) fun _ _ q=>q
   rcases hc with z |z
   · rw[z];exact nit b u e
   · exact nit c _ z
def Inv.tok(I:Inv X pins σ H s)(t:Nat):Inv X pins σ H {s with toks:=t}:=I.un (h':=s.heap) (t':=t) Un.refl I.hok
theorem Inv.kept{t':Nat}(I:Inv X pins σ H s)(k:∀b u,s.heap.get? b=some u->h'.get? b=some u):Inv X pins σ H {s with heap:=h',toks:=t'}:=I.un (Un.kept k) (I.hok.kept k)
theorem Inv.laid{a:Addr}{o:HO}{t':Nat}(I:Inv X pins σ H s)(k:∀b u,s.heap.get? b=some u->h'.get? b=some u)(hp:s.heap.objs.size<=a)(new:bR X.prog X.w (upd H a o) h' a o):
 Inv X pins σ (upd H a o) {s with heap:=h',toks:=t'}:=I.un (Un.laid k hp (I.hok.fresh hp)) (I.hok.laid k hp new)
theorem Inv.write{x e:Addr}{o:HO}{t':Nat}(I:Inv X pins σ H s)(mu:Mut (H x))(he:e=x\/H e=some (.own x))(k:∀b u,b≠e->s.heap.get? b=some u->h'.get? b=some u)(heo:∃u,h'.get? e=some u)
 (new:bR X.prog X.w (upd H x o) h' x o):Inv X pins σ (upd H x o) {s with heap:=h',toks:=t'}:=I.un (Un.write mu he k heo) (I.hok.write mu he k heo new)
def Inv.oO{pins':List (Addr×Obj)}(I:Inv X pins σ H s)(h:∀p∈pins',s.heap.get? p.1=some p.2/\H p.1=none/\p.1≠X.env.locals/\p.1∉X.fs/\∀v,p.2.data≠.cell v):Inv X pins' σ H s:=
 ⟨I.ok,I.os,I.bare,I.base,I.loc,I.cell,I.free,I.gf,fun p hp=>(qG_.mp hp).elim (fun z=>I.pin p (qF_ _ z)) (h p),I.hok,I.len⟩
def vp{N:List Str}(hN:N.Nodup){i j:Nat}{x:Str}(a:N[i]? =some x)(b:N[j]? =some x):i=j:=by
 obtain⟨h1,e1⟩:=qB_.mp a
 obtain⟨h2,e2⟩:=qB_.mp b
 exact(List.getElem_inj hN).mp (e1.trans e2.symm)
def rJ{M:Model}{A:Around}{E:Value->Shared->Prop}{i:Nat}{x:Str}{v:V}{u:Value}{Q:Unit->Shared->Prop}(I:Inv X pins σ H s)(hN:X.N.Nodup)(hi:X.N[i]? =some x)(hx:Loc X.env.scope x)(r:RelV v u)
 (h:∀s',Inv X pins (σ.set i (some v)) H s'->(∃a,Heap.SameBut a s.heap s'.heap/\(a=X.env.locals\/X.env.cells.lookup x=some a))->Q () s') (hf:X.fn x=true\/X.env.scope.names.lookup x=some .local:=by first |exact .inl rfl |exact .inr rfl |assumption):wpAny M A (storeName X.env x u) Q E s:=by
 obtain⟨m,hn,hl⟩:=id I.loc
 have hcls:(X.env.scope.kind== .class||(X.env.scope.kind== .module&&X.env.locals !=X.env.globals))=false:=by rw[I.ok.kind];rfl
 have hiσ:i < σ.length:=by rw[I.len];exact(qB_.mp hi).1
 have cne:=I.cne
 have tracked:∀{a:Addr} {h':Heap},(∃o,s.heap.get? a=some o/\H a=none)->Heap.SameBut a s.heap h'->HOk X.prog X.w H h':=fun {a h'} ha hs b ob e=>by
  obtain⟨_,_,hfree⟩:=ha
  refine(I.hok b ob e).jd (fun c w' hc q=>(hs.2 c ?_).trans q) (fun _ q=>q) fun _ _ q=>q
  rintro rfl
  rcases hc with rfl |hc
  · rw[hfree]at e;cases e
  · rw[hfree]at hc;cases hc
 rcases hx with hk |hk
 · refine wpAny_storeName_local hk hn (fun h' hn' hs=>?_) hcls
   obtain⟨oL,_,_,hoL,_⟩:=id hn
   refine h _ ⟨I.ok,I.os,I.bare,⟨fun b o e n hb hx=>?_,fun b o e n hb hx=>?_,I.base.free,fun b o e hx=>?_,I.base.mE,I.base.nK,I.base.pv⟩,⟨_,hn',fun j y v' e1 e2 e3=>?_⟩,fun y c e=>?_,I.free,I.gf,fun p hp=>?_,tracked ⟨oL,hoL,I.free⟩ hs,by simpa using I.len⟩ ⟨_,hs,.inl rfl⟩
   · exact(hs.2 b (Nat.ne_of_lt (qd_ (Heap.lt_size e) I.ok.above))).trans (I.base.keep b o e n hb hx)
   · obtain⟨sl,e1⟩:=I.base.slot b o e n hb hx
     exact⟨sl,(hs.2 b (Nat.ne_of_lt (qd_ (Heap.lt_size e) I.ok.above))).trans e1⟩
   · obtain⟨o',e1⟩:=I.base.there b o e hx
     exact⟨o',(hs.2 b (Nat.ne_of_lt (qd_ (Heap.lt_size e) I.ok.above))).trans e1⟩
   · by_cases hj:j=i
     · subst hj
       rw[hi]at e1;cases e1
       rw[qU_ hiσ]at e2
       cases e2
       exact⟨u,r,.inl ⟨hk,by simp⟩⟩
     · rw[qV_ (Ne.symm hj)]at e2
       obtain⟨u',r',q⟩:=hl j y v' e1 e2 e3
       refine⟨u',r',?_⟩
       rcases q with ⟨k,e⟩ |⟨k,c,e,z⟩
       · refine .inl ⟨k,?_⟩
         have:y≠x:=fun e=>hj (vp hN e1 (e ▸ hi))
         simp [this,e]
       · exact .inr ⟨k,c,e,z.sameBut hs (cne y c e)⟩
   · obtain⟨w',z⟩:=I.cell y c e
     exact⟨w',z.sameBut hs (cne y c e)⟩
   · obtain⟨e,n,ne,nf,d⟩:=I.pin p hp
     exact⟨(hs.2 p.1 ne).trans e,n,ne,nf,d⟩
 · have hfn:X.fn x=true:=by
    rcases hf with z |z
    · exact z
    · rw[z]at hk;cases hk
   obtain⟨c,hc⟩:=I.ok.has x (.inl hk)
   obtain⟨w',z⟩:=I.cell x c hc
   refine wpAny_storeName_cell I.ok.kind hk hc z (fun h' hc' hs=>?_)
   obtain⟨oc,hoc,hocd⟩:=id z
   refine h {s with heap:=h'} ⟨I.ok,I.os,I.bare,⟨fun b o e n hb hx=>?_,fun b o e n hb hx=>?_,I.base.free,fun b o e hx=>?_,I.base.mE,I.base.nK,I.base.pv⟩,⟨m,hn.sameBut hs (Ne.symm (cne x c hc)),fun j y v' e1 e2 e3=>?_⟩,fun y c' e=>?_,I.free,I.gf,fun p hp=>?_,tracked ⟨oc,hoc,I.gf x c hc⟩ hs,by simpa using I.len⟩ ⟨c,hs,.inr hc⟩
   · exact(hs.2 b (Nat.ne_of_lt (qd_ (Heap.lt_size e) (I.ok.cab x c hfn hc)))).trans (I.base.keep b o e n hb hx)
   · obtain⟨sl,e1⟩:=I.base.slot b o e n hb hx
     exact⟨sl,(hs.2 b (Nat.ne_of_lt (qd_ (Heap.lt_size e) (I.ok.cab x c hfn hc)))).trans e1⟩
   · obtain⟨o',e1⟩:=I.base.there b o e hx
     exact⟨o',(hs.2 b (Nat.ne_of_lt (qd_ (Heap.lt_size e) (I.ok.cab x c hfn hc)))).trans e1⟩
   · by_cases hj:j=i
     · subst hj
       rw[hi]at e1;cases e1
       rw[qU_ hiσ]at e2
       cases e2
       exact⟨u,r,.inr ⟨.inl hk,c,hc,hc'⟩⟩
     · rw[qV_ (Ne.symm hj)]at e2
       obtain⟨u',r',q⟩:=hl j y v' e1 e2 e3
       refine⟨u',r',?_⟩
       rcases q with q |⟨k,c',e,z'⟩
       · exact .inl q
       · refine .inr ⟨k,c',e,z'.sameBut hs ?_⟩
         rintro rfl
         exact hj (vp hN e1 (I.ok.inj _ _ _ e hc ▸ hi))
   · by_cases hcc:c'=c
     · subst hcc;exact⟨_,hc'⟩
     · obtain⟨w2,z2⟩:=I.cell y c' e
       exact⟨w2,z2.sameBut hs hcc⟩
   · obtain⟨e,n,ne,nf,d⟩:=I.pin p hp
     refine⟨(hs.2 p.1 ?_).trans e,n,ne,nf,d⟩
     intro q
     rw[q,hoc]at e
     have q':oc=p.2:=Option.some.inj e
     exact d w' (by rw[<-q'];exact hocd)
def vE{M:Model}{A:Around}{E:Value->Shared->Prop}{i:Nat}{x:Str}{v:V}{u:Value}{Q:Unit->Shared->Prop}(I:Inv X pins σ H s)(hN:X.N.Nodup)(hi:X.N[i]? =some x)(hx:Loc X.env.scope x)(r:RelV v u)
 (h:∀s',Inv X pins (σ.set i (some v)) H s'->Q () s') (hf:X.fn x=true\/X.env.scope.names.lookup x=some .local:=by first |exact .inl rfl |exact .inr rfl |assumption):wpAny M A (storeName X.env x u) Q E s:=
 rJ I hN hi hx r (fun s' I' _=>h s' I') hf
def Inv.zY{s':Shared}{ch:List Addr}(I:Inv X pins σ H s)(ho:s'.os=s.os)(u:Un (frs X.stack) ch H H' s.heap s'.heap)(hok:HOk X.prog X.w H' s'.heap)(hg:AllBare s'.gens)
 (hch:∀b∈ch,(b∈X.ex\/X.s₀.heap.objs.size<=b)/\b≠X.env.locals/\(∀x c,X.env.cells.lookup x=some c->c≠b)/\∀p∈X.pn++pins,p.1≠b):Inv X pins σ H' s':=by
 obtain⟨h',g',d',t',o'⟩:=s'
 have e:o'=s.os:=ho
 subst e
 exact I.call (g':=g') (t':=t') (d':=d') u hok hg hch
end
abbrev XK:=Value->Option Addr->Hp->Prop
abbrev St:=List (Option V)
abbrev VK:=V->Hp->Prop
abbrev TE:=St->Hp->VK->Prop
abbrev TT:=St->Hp->(Bool->Hp->Prop)->Prop
abbrev TA:=St->Hp->(List V->Hp->Prop)->Prop
structure Ends where
 nx:St->Hp->Prop
 rt:VK
 bk:St->Hp->Prop:=fun _ _=>False
 ct:St->Hp->Prop:=fun _ _=>False
abbrev TS:=Ends->St->Hp->Prop
def EP(X:Cx)(pins:List (Addr×Obj))(σ:St)(Q:VK)(u:Value)(s':Shared):Prop:=∃v H',Inv X pins σ H' s'/\RelV v u/\Q v H'
def TP(X:Cx)(pins:List (Addr×Obj))(σ:St)(Q:Bool->Hp->Prop)(b:Bool)(s':Shared):Prop:=∃H',Inv X pins σ H' s'/\Q b H'
def AP(X:Cx)(pins:List (Addr×Obj))(σ:St)(Q:List V->Hp->Prop)(us:List Value)(s':Shared):Prop:=∃vs H',Inv X pins σ H' s'/\Vals vs us/\Q vs H'
def SP(X:Cx)(pins:List (Addr×Obj))(D:Ends)(f:Flow)(s':Shared):Prop:=
 match f with
 | .next=>∃σ' H',Inv X pins σ' H' s'/\D.nx σ' H'
 | .brk=>∃σ' H',Inv X pins σ' H' s'/\D.bk σ' H'
 | .cont=>∃σ' H',Inv X pins σ' H' s'/\D.ct σ' H'
 | .ret u=>∃v σ' H',Inv X pins σ' H' s'/\RelV v u/\D.rt v H'
def PE(X:Cx)(e:Expr)(t:TE):Prop:=
 ∀(pins:List (Addr×Obj)) (s:Shared) (σ:St) (H:Hp) (Q:VK),Inv X pins σ H s->t σ H Q->wpAny (model X.prog X.w) X.A (eval e X.env) (EP X pins σ Q) X.xe s
def PT(X:Cx)(e:Expr)(t:TT):Prop:=
 ∀(pins:List (Addr×Obj)) (s:Shared) (σ:St) (H:Hp) (Q:Bool->Hp->Prop),Inv X pins σ H s->t σ H Q->wpAny (model X.prog X.w) X.A (isTrue e X.env (eval e X.env)) (TP X pins σ Q) X.xe s
def PW(X:Cx)(e:Expr)(t:TT):Prop:=
 ∀(whole:Sem Value) (pins:List (Addr×Obj)) (s:Shared) (σ:St) (H:Hp) (Q:Bool->Hp->Prop),Inv X pins σ H s->t σ H Q->wpAny (model X.prog X.w) X.A (isTrue e X.env whole) (TP X pins σ Q) X.xe s
def PW.pt{X:Cx}{e:Expr}{t:TT}(h:PW X e t):PT X e t:=h _
def PA(X:Cx)(es:List Expr)(t:TA):Prop:=
 ∀(pos:Pos) (pins:List (Addr×Obj)) (s:Shared) (σ:St) (H:Hp) (Q:List V->Hp->Prop),Inv X pins σ H s->t σ H Q->wpAny (model X.prog X.w) X.A (spliced (backTo pos (starEach es X.env))) (AP X pins σ Q) X.xe s
def PS(X:Cx)(st:Stmt)(t:TS):Prop:=
 ∀(pins:List (Addr×Obj)) (s:Shared) (σ:St) (H:Hp) (D:Ends),Inv X pins σ H s->t D σ H->wpAny (model X.prog X.w) X.A (exec st X.env) (SP X pins D) X.xe s
def PSs(X:Cx)(st:List Stmt)(t:TS):Prop:=
 ∀(pins:List (Addr×Obj)) (s:Shared) (σ:St) (H:Hp) (D:Ends),Inv X pins σ H s->t D σ H->wpAny (model X.prog X.w) X.A (execs st X.env) (SP X pins D) X.xe s
def thn{α:Type}{t:Sem α}{Q Q':α->Shared->Prop}{M:Model}{A:Around}{E:Value->Shared->Prop}{s:Shared}(h:wpAny M A t Q E s)(hQ:∀a s,Q a s->Q' a s):wpAny M A t Q' E s:=wpAny_mono h hQ fun _ _ x=>x
section
variable{X:Cx}
def JS(i:Nat):TE:=fun σ H Q=>∃v,σ[i]? =some (some v)/\Q v H
def tC(v:V):TE:=fun _ H Q=>Q v H
def EH{i:Nat}{x:Str}{pos:Pos}(hN:X.N[i]? =some x)(hv:Vis X.env.scope x)(hd:(x==("__debug__":Str))=false:=by decide)(hcd:(x==("__classdict__":Str))=false:=by decide):PE X (.Name x pos) (JS i):=by
 intro pins s σ H Q I h
 obtain⟨v,e,h⟩:=h
 obtain⟨m,hn,hl⟩:=I.loc
 obtain⟨u,r,l⟩:=hl i x v hN e hv
 have fin:EP X pins σ Q u s:=⟨v,H,I,r,h⟩
 rcases l with ⟨hk,hm⟩ |⟨hk,c,hc,hcell⟩
 · exact wpAny_Name (wpAny_loadName_local I.ok.kind hk hn hm fin) hd
 · rcases hk with hk |hk
   · exact wpAny_Name (wpAny_loadName_cell I.ok.kind hk hc hcell fin) hd
   · exact wpAny_Name (wpAny_loadName_free I.ok.kind hk hc hcell fin hcd) hd
def EZ{i j pos}:PE X (.Constant (.int i) j pos) (tC (.int i)):=fun _ _ _ H _ I h=>wpAny_Constant_int ⟨.int i,H,I.tok _,⟨_,rfl⟩,h⟩
def IS{b j pos}:PE X (.Constant (.bool b) j pos) (tC (.bl b)):=fun _ _ _ H _ I h=>Constant_bool ⟨.bl b,H,I,rfl,h⟩
def Ft{j pos}:PE X (.Constant .none j pos) (tC .non):=fun _ _ _ H _ I h=>Constant_none ⟨.non,H,I,rfl,h⟩
def Gy{x j pos}:PE X (.Constant (.str x) j pos) (tC (.str x)):=fun _ _ _ H _ I h=>Calls.Constant_str ⟨.str x,H,I.tok _,⟨_,rfl⟩,h⟩
def Gl(X:Cx)(x:Str):Prop:=X.env.kindOf x=some .globalImplicit
def kJ{E:Value->Shared->Prop}{pins:List (Addr×Obj)}{s:Shared}{σ:St}{H:Hp}{x:Str}{u:Value}{pos:Pos}{Q:Value->Shared->Prop}(I:Inv X pins σ H s)(hg:Gl X x)(hm:X.mg x=some u)(h:Q u s)
 (hd:(x==("__debug__":Str))=false:=by decide):wpAny (model X.prog X.w) X.A (eval (.Name x pos) X.env) Q E s:=
 Calls.Name_function_global I.ok.kind hg (Calls.loadGlobal_global (by rw[I.ok.glob];exact I.mod.glob.keeps I.bk) hm h) hd
def nL{E:Value->Shared->Prop}{pins:List (Addr×Obj)}{s:Shared}{σ:St}{H:Hp}{x:Str}{u:Value}{pos:Pos}{Q:Value->Shared->Prop}(I:Inv X pins σ H s)(hg:Gl X x)(hm:X.mg x=none)(hv:bootBuiltins x=some u)(h:Q u s)
 (hn:x≠"__name__":=by decide) (hd:(x==("__debug__":Str))=false:=by decide):wpAny (model X.prog X.w) X.A (eval (.Name x pos) X.env) Q E s:=by
 obtain⟨mb,h1,h2⟩:=I.mod.blt
 exact Calls.Name_function_global I.ok.kind hg (Calls.loadGlobal_builtin (by rw[I.ok.glob];exact I.mod.glob.keeps I.bk) hm (by rw[I.ok.blt];exact h1.keeps I.bk) ((h2 x hn).trans hv) h) hd
def Cd{x:Str}{v:V}{u:Value}{pos:Pos}(hg:Gl X x)(hm:X.mg x=some u)(r:RelV v u)(hd:(x==("__debug__":Str))=false:=by decide):PE X (.Name x pos) (tC v):=
 fun _ _ _ H _ I h=>kJ I hg hm ⟨v,H,I,r,h⟩ hd
def tq{x:Str}{v:V}{u:Value}{pos:Pos}(hg:Gl X x)(hm:X.mg x=none)(hv:bootBuiltins x=some u)(r:RelV v u)(hn:x≠"__name__":=by decide)(hd:(x==("__debug__":Str))=false:=by decide):PE X (.Name x pos) (tC v):=
 fun _ _ _ H _ I h=>nL I hg hm hv ⟨v,H,I,r,h⟩ hn hd
variable{a b:Expr}{ta tb:TE}{pos:Pos}
def PC(X:Cx)(op:CmpOp)(a b:Expr)(t:TE):Prop:=
 ∀(pins:List (Addr×Obj)) (s:Shared) (σ:St) (H:Hp) (Q:VK),Inv X pins σ H s->t σ H Q->
  wpAny (model X.prog X.w) X.A (eval a X.env) (fun v s₁=>wpAny (model X.prog X.w) X.A (eval b X.env) (fun u s₂=>wpAny (model X.prog X.w) X.A (compareOp op v u) (EP X pins σ Q) X.xe s₂) X.xe s₁) X.xe s
def uv(b:Expr){op:CmpOp}(h:op≠.In)(h2:op≠.NotIn):behindInMarks op b=false:=by
 have e1:(op==CmpOp.In)=false:=by cases op <;> first |rfl |exact absurd rfl h
 have e2:(op==CmpOp.NotIn)=false:=by cases op <;> first |rfl |exact absurd rfl h2
 cases b <;> simp [behindInMarks,e1,e2]
def Js(ta:TE):TE:=fun σ H Q=>ta σ H fun x H1=>Q (.bl (decide (x= .non))) H1
def HS(ta:TE):TE:=fun σ H Q=>ta σ H fun x H1=>Q (.bl (!decide (x= .non))) H1
def RelV.uQ{x:V}{v:Value}(r:RelV x v):(v==Value.none)=decide (x= .non):=by
 cases x with
 |non=>cases r;rfl
 |bl _=>cases r;rfl
 |int _=>obtain⟨t,rfl⟩:=r;rfl
 |str _=>obtain⟨t,rfl⟩:=r;rfl
 |byt _=>obtain⟨t,rfl⟩:=r;rfl
 |flt _=>obtain⟨t,rfl⟩:=r;rfl
 |ref _=>cases r;rfl
 |ty _=>cases r;rfl
def AL{j pos'}(ha:PE X a ta):PC X .Is a (.Constant .none j pos') (Js ta):=by
 intro pins s σ H Q I h
 refine thn (ha pins s σ H _ I h) fun v s1 ⟨x,H1,I1,r1,q1⟩=>?_
 exact Constant_none (is_none_gen ⟨.bl _,H1,I1,by rw[r1.uQ];rfl,q1⟩)
def Dw{j pos'}(ha:PE X a ta):PC X .IsNot a (.Constant .none j pos') (HS ta):=by
 intro pins s σ H Q I h
 refine thn (ha pins s σ H _ I h) fun v s1 ⟨x,H1,I1,r1,q1⟩=>?_
 exact Constant_none (isnot_none_gen ⟨.bl _,H1,I1,by rw[r1.uQ];rfl,q1⟩)
def tB(t:TE):TT:=fun σ H Q=>t σ H fun x H1=>∃c,x= .bl c/\Q c H1
def FR{op:CmpOp}{t:TE}(h:PC X op a b t)(h1:behindInMarks op b=false:=by first |exact uv _ (by decide) (by decide) |rfl):PE X (.Compare a [op] [b] pos) t:=fun pins s σ H Q I hw=>wpAny_Compare1 (h pins s σ H Q I hw) h1
def zB{op:CmpOp}{t:TE}(h:PC X op a b t)(h1:behindInMarks op b=false:=by first |exact uv _ (by decide) (by decide) |rfl):PT X (.Compare a [op] [b] pos) (tB t):=by
 intro pins s σ H Q I hw
 refine wpAny_isTrue_Compare1 (thn (h pins s σ H _ I hw) fun v s1 h1=>thn h1 fun u s2 h2=>thn h2 fun c s3 ⟨x,H1,I1,r1,q1⟩=>?_) h1
 obtain⟨d,rfl,q⟩:=q1
 cases r1
 exact wpAny_truthy_bool ⟨H1,I1,q⟩
variable{tA tB':TT}{rest:List Expr}
def nA(t u:TT):TT:=fun σ H Q=>t σ H fun c H1=>if c=true then u σ H1 Q else Q false H1
def tOr(t u:TT):TT:=fun σ H Q=>t σ H fun c H1=>if c=true then Q true H1 else u σ H1 Q
def eT(t:TT):TT:=fun σ H Q=>t σ H fun c H1=>Q (!c) H1
def B6(ha:PT X a tA):PW X (.BoolOp .And [a] pos) tA:=by
 intro wh pins s σ H Q I h
 refine isTrue_and (thn (ha pins s σ H Q I h) fun c s1 e=>?_)
 cases c with
 |true=>exact isTrue_and_nil e
 |false=>exact e
def Gz(ha:PT X a tA):PW X (.BoolOp .Or [a] pos) tA:=by
 intro wh pins s σ H Q I h
 refine isTrue_or (thn (ha pins s σ H Q I h) fun c s1 e=>?_)
 cases c with
 |false=>exact isTrue_or_nil e
 |true=>exact e
def EB(ha:PT X a tA)(hb:PW X (.BoolOp .And (b :: rest) pos) tB'):PW X (.BoolOp .And (a :: b :: rest) pos) (nA tA tB'):=by
 intro wh pins s σ H Q I h
 refine isTrue_and (thn (ha pins s σ H _ I h) fun c s1 ⟨H1,I1,q1⟩=>?_)
 cases c with
 |true=>exact hb wh pins s1 σ H1 Q I1 q1
 |false=>exact⟨H1,I1,q1⟩
def Ie(ha:PT X a tA)(hb:PW X (.BoolOp .Or (b :: rest) pos) tB'):PW X (.BoolOp .Or (a :: b :: rest) pos) (tOr tA tB'):=by
 intro wh pins s σ H Q I h
 refine isTrue_or (thn (ha pins s σ H _ I h) fun c s1 ⟨H1,I1,q1⟩=>?_)
 cases c with
 |true=>exact⟨H1,I1,q1⟩
 |false=>exact hb wh pins s1 σ H1 Q I1 q1
def Gu(ha:PT X a tA):PT X (.UnaryOp .Not a pos) (eT tA):=by
 intro pins s σ H Q I h
 exact isTrue_not (ha pins s σ H (fun c H1=>Q (!c) H1) I h)
def HB(ta tb:TE):TE:=fun σ H Q=>ta σ H fun x H1=>∃c,x= .bl c/\if c=true then tb σ H1 Q else Q (.bl false) H1
def JY(ta tb:TE):TE:=fun σ H Q=>ta σ H fun x H1=>∃c,x= .bl c/\if c=true then Q (.bl true) H1 else tb σ H1 Q
def Hz(ta:TE):TE:=fun σ H Q=>ta σ H fun x H1=>∃c,x= .bl c/\Q (.bl (!c)) H1
def FP{op}{t:TE}(h:PE X a t):PE X (.BoolOp op [a] pos) t:=fun pins s σ H Q I hw=>BoolOp_one (h pins s σ H Q I hw)
def He(ha:PE X a ta)(hb:PE X (.BoolOp .And (b :: rest) pos) tb):PE X (.BoolOp .And (a :: b :: rest) pos) (HB ta tb):=by
 intro pins s σ H Q I h
 refine BoolOp_and (thn (ha pins s σ H _ I h) fun v s1 ⟨x,H1,I1,r1,q1⟩=>?_)
 obtain⟨c,rfl,q1⟩:=q1
 cases r1
 refine wpAny_truthy_bool ?_
 cases c with
 |true=>exact hb pins s1 σ H1 Q I1 q1
 |false=>exact⟨.bl false,H1,I1,rfl,q1⟩
def HJ(ha:PE X a ta)(hb:PE X (.BoolOp .Or (b :: rest) pos) tb):PE X (.BoolOp .Or (a :: b :: rest) pos) (JY ta tb):=by
 intro pins s σ H Q I h
 refine BoolOp_or (thn (ha pins s σ H _ I h) fun v s1 ⟨x,H1,I1,r1,q1⟩=>?_)
 obtain⟨c,rfl,q1⟩:=q1
 cases r1
 refine wpAny_truthy_bool ?_
 cases c with
 |false=>exact hb pins s1 σ H1 Q I1 q1
 |true=>exact⟨.bl true,H1,I1,rfl,q1⟩
def Ez(ha:PE X a ta):PE X (.UnaryOp .Not a pos) (Hz ta):=by
 intro pins s σ H Q I h
 refine UnaryOp_ (thn (ha pins s σ H _ I h) fun v s1 ⟨x,H1,I1,r1,q1⟩=>?_)
 obtain⟨c,rfl,q1⟩:=q1
 cases r1
 exact not_of (wpAny_truthy_bool ⟨.bl (!c),H1,I1,rfl,q1⟩)
def tIf(t:TT)(ta tb:TE):TE:=fun σ H Q=>t σ H fun c H1=>if c=true then ta σ H1 Q else tb σ H1 Q
def zA{c:Expr}(hc:PT X c tA)(ha:PE X a ta)(hb:PE X b tb):PE X (.IfExp c a b pos) (tIf tA ta tb):=by
 intro pins s σ H Q I h
 refine wpAny_IfExp (thn (hc pins s σ H _ I h) fun d s1 ⟨H1,I1,q1⟩=>?_)
 cases d with
 |true=>exact ha pins s1 σ H1 Q I1 q1
 |false=>exact hb pins s1 σ H1 Q I1 q1
end
def SqL(K:PySem.W.Frag)(H:Hp)(a:Addr)(xs:List V):Prop:=
 Rd H a (.lst xs)\/
  ∃(o:Obj) (its:Array Value) (n:Nat),K.lookup a=some o/\o.cls= .type "list"/\o.dict=none/\o.data= .seq its n/\its.size<=sizeLine/\Vals xs its.toList
def SqT(K:PySem.W.Frag)(H:Hp)(a:Addr)(xs:List V):Prop:=
 Rd H a (.tup xs)\/
  ∃(o:Obj) (its:Array Value) (n:Nat),K.lookup a=some o/\o.cls= .type "tuple"/\o.data= .seq its n/\its.size<=sizeLine/\Vals xs its.toList
def JV:Value->Option V
 | .none=>some .non
 | .bool b=>some (.bl b)
 | .int i _=>some (.int i)
 | .str x _=>some (.str x)
 | .bytes b _=>some (.byt b)
 | .float b _=>some (.flt b)
 | .ref a=>some (.ref a)
 | .type n=>some (.ty n)
 |_=>none
def RelV.abs{x:V}{u:Value}(r:RelV x u):JV u=some x:=by
 cases x with
 |non=>cases r;rfl
 |bl _=>cases r;rfl
 |int _=>obtain⟨t,rfl⟩:=r;rfl
 |str _=>obtain⟨t,rfl⟩:=r;rfl
 |byt _=>obtain⟨t,rfl⟩:=r;rfl
 |flt _=>obtain⟨t,rfl⟩:=r;rfl
 |ref _=>cases r;rfl
 |ty _=>cases r;rfl
theorem RelV.inj{x y:V}{u:Value}(r:RelV x u)(q:RelV y u):x=y:=Option.some.inj (r.abs.symm.trans q.abs)
theorem Vals.inj:∀{xs ys:List V} {us:List Value},Vals xs us->Vals ys us->xs=ys
 |_,_,_,.nil,.nil=>rfl
 |_,_,_,.cons r t,.cons r' t'=>by rw[r.inj r',Vals.inj t t']
section
variable{X:Cx}{pins:List (Addr×Obj)}{σ:St}{H:Hp}{s:Shared}{a:Addr}{xs ys:List V}
def SqL.of{K:PySem.W.Frag}(h:H a=some (.lst xs)):SqL K H a xs:= .inl (.inl h)
def SqT.of{K:PySem.W.Frag}(h:H a=some (.tup xs)):SqT K H a xs:= .inl (.inl h)
def Inv.list(I:Inv X pins σ H s)(h:SqL X.K H a xs):∃its:List Value,Vals xs its/\PlainL s.heap a its.toArray/\xs.length<=sizeLine:=by
 rcases h with h |⟨o,its,n,hk,hc,hd,hs,hz,r⟩
 · obtain⟨z,its,n,r,e⟩:=h.ok I.hok
   exact⟨its,r,⟨_,n,e,rfl,rfl,rfl⟩,z⟩
 · refine⟨its.toList,r,⟨o,n,I.kIn a o hk,hc,hd,by simpa using hs⟩,?_⟩
   have e:=r.length
   simp only[Array.length_toList]at e
   omega
def Inv.tuple(I:Inv X pins σ H s)(h:SqT X.K H a xs):∃its:List Value,Vals xs its/\IsTup s.heap a its.toArray/\xs.length<=sizeLine:=by
 rcases h with h |⟨o,its,n,hk,hc,hs,hz,r⟩
 · obtain⟨z,its,r,p⟩:=h.ok I.hok
   exact⟨its,r,p,z⟩
 · refine⟨its.toList,r,⟨o,I.kIn a o hk,hc,n,by simpa using hs⟩,?_⟩
   have e:=r.length
   simp only[Array.length_toList]at e
   omega
def Inv.kh(I:Inv X pins σ H s)(h:SqL X.K H a xs)(h':SqL X.K H a ys):xs=ys:=by
 obtain⟨its,r,⟨o,n,e,_,_,d⟩,_⟩:=I.list h
 obtain⟨its',r',⟨o',n',e',_,_,d'⟩,_⟩:=I.list h'
 rw[e]at e';cases e'
 rw[d]at d'
 injection d' with d1 _
 have:its=its':=by simpa using congrArg Array.toList d1
 subst this
 exact r.inj r'
def Inv.kX(I:Inv X pins σ H s)(h:SqT X.K H a xs)(h':SqT X.K H a ys):xs=ys:=by
 obtain⟨its,r,⟨o,e,_,n,d⟩,_⟩:=I.tuple h
 obtain⟨its',r',⟨o',e',_,n',d'⟩,_⟩:=I.tuple h'
 rw[e]at e';cases e'
 rw[d]at d'
 injection d' with d1 _
 have:its=its':=by simpa using congrArg Array.toList d1
 subst this
 exact r.inj r'
end
abbrev Cx.ph(X:Cx)(E:Value->Shared->Prop):Cx:={X with xe:=E}
abbrev Cx.nox(X:Cx):Cx:=X.ph fun _ _=>False
theorem Cx.Ok.ph{X:Cx}(ok:X.Ok)(E:Value->Shared->Prop):(X.ph E).Ok:=
 ⟨ok.mod,ok.kind,ok.glob,ok.blt,ok.above,ok.inj,ok.has,ok.cab,ok.hd,ok.frames,ok.stk,ok.exf,ok.bs,ok.bsz,ok.wB,ok.yZ,ok.mD,ok.frf⟩
def Cx.Ok.gC{X:Cx}{E:Value->Shared->Prop}(ok:(X.ph E).Ok):X.Ok:=
 ⟨ok.mod,ok.kind,ok.glob,ok.blt,ok.above,ok.inj,ok.has,ok.cab,ok.hd,ok.frames,ok.stk,ok.exf,ok.bs,ok.bsz,ok.wB,ok.yZ,ok.mD,ok.frf⟩
section
variable{X:Cx}{pins:List (Addr×Obj)}{σ:St}{H:Hp}{s:Shared}{E:Value->Shared->Prop}
theorem Inv.ph(I:Inv X pins σ H s)(E:Value->Shared->Prop):Inv (X.ph E) pins σ H s:=⟨I.ok.ph E,I.os,I.bare,I.base,I.loc,I.cell,I.free,I.gf,I.pin,I.hok,I.len⟩
theorem Inv.gC(I:Inv (X.ph E) pins σ H s):Inv X pins σ H s:=⟨I.ok.gC,I.os,I.bare,I.base,I.loc,I.cell,I.free,I.gf,I.pin,I.hok,I.len⟩
theorem SP.gC{D:Ends}{f:Flow}{s':Shared}(h:SP (X.ph E) pins D f s'):SP X pins D f s':=by
 cases f with
 |next=>obtain⟨σ',H',I,q⟩:=h;exact⟨σ',H',I.gC,q⟩
 |brk=>obtain⟨σ',H',I,q⟩:=h;exact⟨σ',H',I.gC,q⟩
 |cont=>obtain⟨σ',H',I,q⟩:=h;exact⟨σ',H',I.gC,q⟩
 |ret u=>obtain⟨v,σ',H',I,r,q⟩:=h;exact⟨v,σ',H',I.gC,r,q⟩
theorem PSs.nox{st:List Stmt}{t:TS}(h:PSs X.nox st t):PSs X st t:=fun pins s σ H D I hw=>
 wpAny_mono (h pins s σ H D (I.ph _) hw) (fun _ _ q=>q.gC) fun _ _ z=>False.elim z
end
section
variable{X:Cx}{st:Stmt}{rest:List Stmt}{t u:TS}{e:Expr}{te:TE}{pos:Pos}
def Iy:TS:=fun D σ H=>D.nx σ H
def J2(t u:TS):TS:=fun D σ H=>t {D with nx:=u D} σ H
def CP:PSs X [] Iy:=fun _ _ σ H _ I h=>wpAny_execs_nil ⟨σ,H,I,h⟩
def AD(h1:PS X st t)(h2:PSs X rest u):PSs X (st :: rest) (J2 t u):=by
 intro pins s σ H D I h
 refine wpAny_execs_cons (thn (h1 pins s σ H {D with nx:=u D} I h) fun f s1 q=>?_)
 cases f with
 |next=>
  obtain⟨σ',H',I',q⟩:=q
  exact h2 pins s1 σ' H' D I' q
 |ret v=>exact q
 |brk=>exact q
 |cont=>exact q
def CG(h1:PS X st t):PSs X [st] t:=by
 intro pins s σ H D I h
 refine wpAny_execs_cons (thn (h1 pins s σ H D I h) fun f s1 q=>?_)
 cases f with
 |next=>exact wpAny_execs_nil q
 |ret v=>exact q
 |brk=>exact q
 |cont=>exact q
def Inv.quiet{pins:List (Addr×Obj)}{σ:St}{H:Hp}{s:Shared}(I:Inv X pins σ H s):interactive X.env=false:=by simp [interactive,I.ok.kind]
def Hw(te:TE):TS:=fun D σ H=>te σ H fun _ H1=>D.nx σ H1
def Cw(he:PE X e te)(hs:swapsWith e none pos.line X.env=pure false:=by rfl):PS X (.Expr e pos) (Hw te):=by
 intro pins s σ H D I h
 exact wpAny_Expr_any (thn (he pins s σ H _ I h) fun v s1 ⟨x,H1,I1,r1,q1⟩=>⟨σ,H1,I1,q1⟩) I.quiet hs
def JT(te:TE):TS:=fun D σ H=>te σ H D.rt
def GX(he:PE X e te):PS X (.Return (some e) pos) (JT te):=by
 intro pins s σ H D I h
 exact wpAny_Return_some (thn (he pins s σ H _ I h) fun v s1 ⟨x,H1,I1,r1,q1⟩=>⟨x,σ,H1,I1,r1,q1⟩)
def JU(c:TT)(t u:TS):TS:=fun D σ H=>c σ H fun b H1=>if b=true then t D σ H1 else u D σ H1
def IX{c:Expr}{a b:List Stmt}{tc:TT}(hc:PT X c tc)(ha:PSs X a t)(hb:PSs X b u):PS X (.If c a b pos) (JU tc t u):=by
 intro pins s σ H D I h
 refine wpAny_If (thn (hc pins s σ H _ I h) fun d s1 ⟨H1,I1,q1⟩=>?_)
 cases d with
 |true=>exact ha pins s1 σ H1 D I1 q1
 |false=>exact hb pins s1 σ H1 D I1 q1
end
abbrev TG:=V->St->Hp->(St->Hp->Prop)->Prop
abbrev TGs:=List V->St->Hp->(St->Hp->Prop)->Prop
def PG(X:Cx)(target:Expr)(t:TG):Prop:=
 ∀(pins:List (Addr×Obj)) (s:Shared) (σ:St) (H:Hp) (v:V) (u:Value) (Q:St->Hp->Prop),Inv X pins σ H s->RelV v u->t v σ H Q->
  wpAny (model X.prog X.w) X.A (assign target X.env u) (fun _ s'=>∃σ' H',Inv X pins σ' H' s'/\Q σ' H') X.xe s
def PGs(X:Cx)(ts:List Expr)(t:TGs):Prop:=
 ∀(pins:List (Addr×Obj)) (s:Shared) (σ:St) (H:Hp) (vs:List V) (us:List Value) (Q:St->Hp->Prop),Inv X pins σ H s->Vals vs us->t vs σ H Q->
  wpAny (model X.prog X.w) X.A (assignInOrder ((assignEach ts X.env).map (·.2)) us) (fun _ s'=>∃σ' H',Inv X pins σ' H' s'/\Q σ' H') X.xe s
abbrev CM:=V->V->V->Hp->(Hp->Prop)->Prop
def uW(X:Cx)(t:CM):Prop:=
 ∀(pins:List (Addr×Obj)) (s:Shared) (σ:St) (H:Hp) (o i v:V) (ov iv u:Value) (Q:Hp->Prop),Inv X pins σ H s->RelV o ov->RelV i iv->RelV v u->t o i v H Q->
  wpAny (model X.prog X.w) X.A (setItem ov iv u) (fun _ s'=>∃H',Inv X pins σ H' s'/\Q H') X.xe s
section
variable{X:Cx}{pos:Pos}
def Ew(i:Nat):TG:=fun v σ H Q=>Q (σ.set i (some v)) H
def sD{i:Nat}{x:Str}(hN:X.N.Nodup)(hi:X.N[i]? =some x)(hx:Loc X.env.scope x)(hf:X.fn x=true\/X.env.scope.names.lookup x=some .local:=by first |exact .inl rfl |exact .inr rfl |assumption):PG X (.Name x pos) (Ew i):=by
 intro pins s σ H v u Q I r h
 exact wpAny_assign_Name (vE I hN hi hx r (fun s' I'=>⟨_,H,I',h⟩) hf)
def JK:TGs:=fun vs σ H Q=>vs=[]/\Q σ H
def Jn(t:TG)(u:TGs):TGs:=fun vs σ H Q=>∃v r,vs=v :: r/\t v σ H fun σ' H'=>u r σ' H' Q
def CZ:PGs X [] JK:=by
 intro pins s σ H vs us Q I r h
 obtain⟨e,h⟩:=h
 subst e
 cases r
 exact assignInOrder_nil ⟨σ,H,I,h⟩
def Bu{e:Expr}{es:List Expr}{t:TG}{u:TGs}(h1:PG X e t)(h2:PGs X es u)
 (hs:(assignEach (e :: es) X.env).map (·.2)=assign e X.env :: (assignEach es X.env).map (·.2):=by rfl):PGs X (e :: es) (Jn t u):=by
 intro pins s σ H vs us Q I r h
 obtain⟨v,vr,e1,h⟩:=h
 subst e1
 cases r with
 |cons r rr=>
  rw[hs]
  refine assignInOrder_cons (thn (h1 pins s σ H _ _ _ I r h) fun _ s1 ⟨σ1,H1,I1,q1⟩=>?_)
  exact h2 pins s1 σ1 H1 _ _ Q I1 rr q1
def JF(K:PySem.W.Frag)(n:Nat)(t:TGs):TG:=fun v σ H Q=>∃a xs,v= .ref a/\SqT K H a xs/\xs.length=n/\t xs σ H Q
def Hn{es:List Expr}{k:Nat}{t:TGs}{n:Nat}(hc:X.calm=true)(h:PGs X es t)
 (hn:(assignEach es X.env).length=n:=by rfl) (hst:(assignEach es X.env).findIdx? (·.1)=none:=by rfl):PG X (.Tuple es k pos) (JF X.K n t):=by
 intro pins s σ H v u Q I r hw
 obtain⟨a,xs,e1,hq,hl,hw⟩:=hw
 subst e1
 cases r
 obtain⟨its,rv,ht,hz⟩:=I.tuple hq
 refine assign_Tuple_tuple (I.ok.hd hc) ht (by simp [hn,<-hl,rv.length]) hst fun h' hx=>?_
 have I1:Inv X pins σ H {s with heap:=h'}:=I.kept (t':=s.toks) fun b o e=>hx b o (Nat.ne_of_lt (Heap.lt_size e)) e
 exact h pins _ σ H xs _ Q I1 (by simpa using rv) hw
def JZ(to ti:TE)(t:CM):TG:=fun v σ H Q=>to σ H fun o H1=>ti σ H1 fun i H2=>t o i v H2 fun H3=>Q σ H3
def Fm{o i:Expr}{to ti:TE}{t:CM}(ho:PE X o to)(hi:PE X i ti)(hs:uW X t)
 (ha:∀v,assign (.Subscript o i pos) X.env v=(do
   let ov <-holding [v] (eval o X.env)
   let iv <-holding [v,ov] (eval i X.env)
   standAt pos
   holding [v,ov,iv] (setItem ov iv v)
   release [v,ov,iv] []):=by intro _;rfl):PG X (.Subscript o i pos) (JZ to ti t):=by
 intro pins s σ H v u Q I r h
 rw[ha]
 refine wpAny_bind (wpAny_holding (thn (ho pins s σ H _ I h) fun ov s1 ⟨x,H1,I1,r1,q1⟩=>?_))
 refine wpAny_bind (wpAny_holding (thn (hi pins s1 σ H1 _ I1 q1) fun iv s2 ⟨y,H2,I2,r2,q2⟩=>?_))
 refine wpAny_bind (wpAny_standAt (wpAny_bind (wpAny_holding (thn (hs pins s2 σ H2 x y v ov iv u _ I2 r1 r2 r q2) fun _ s3 ⟨H3,I3,q3⟩=>?_))))
 exact wpAny_release ⟨σ,H3,I3,q3⟩
def Je(te:TE)(g:TG):TS:=fun D σ H=>te σ H fun x H1=>g x σ H1 D.nx
def BI{tg e:Expr}{te:TE}{g:TG}(he:PE X e te)(hg:PG X tg g)(hs:swapsWithSole [tg] e pos.line X.env=pure false:=by rfl)(hw:swappedStores [tg] e X.env=pure none:=by rfl)
 (h1:(assignEach [tg] X.env).map (·.2)=[assign tg X.env]:=by rfl):PS X (.Assign [tg] e pos) (Je te g):=by
 intro pins s σ H D I h
 refine wpAny_Assign_stores (thn (he pins s σ H _ I h) fun v s1 ⟨x,H1,I1,r1,q1⟩=>?_) hs hw
 rw[h1]
 exact thn (hg pins s1 σ H1 x v _ I1 r1 q1) fun _ s2 q=>q
def FD{i:Nat}{x:Str}{e:Expr}{te:TE}{pos':Pos}(hN:X.N.Nodup)(hi:X.N[i]? =some x)(hx:Loc X.env.scope x)(he:PE X e te)(hs:swapsWith e (some (.Name x pos')) pos.line X.env=pure false:=by rfl)(hf:X.fn x=true\/X.env.scope.names.lookup x=some .local:=by first |exact .inl rfl |exact .inr rfl |assumption):
 PS X (.Assign [.Name x pos'] e pos) (Je te (Ew i)):=by
 intro pins s σ H D I h
 refine wpAny_Assign_Name (thn (he pins s σ H _ I h) fun v s1 ⟨y,H1,I1,r1,q1⟩=>?_) hs
 exact vE I1 hN hi hx r1 (fun s2 I2=>⟨_,H1,I2,q1⟩) hf
def Hi(c:TT)(tb:TS):TS:=fun D σ H=>∃W:Nat->St->Hp->Prop,(∃m,W m σ H)/\∀m σ H,W m σ H->
 c σ H fun b H1=>if b=true then ∃N:St->Hp->Prop,(∀σ' H',N σ' H'->∃m',m' < m/\W m' σ' H')/\tb {D with nx:=N,ct:=N,bk:=D.nx} σ H1 else D.nx σ H1
def Bq{c:Expr}{body:List Stmt}{tc:TT}{tb:TS}(hp:PassesOwn (model X.prog X.w) X.A X.env X.xe)(hc:PT X c tc)(hb:PSs X body tb):PS X (.While c body [] pos) (Hi tc tb):=by
 intro pins s σ H D I h
 obtain⟨W,⟨m0,w0⟩,turn⟩:=h
 refine wpAny_While (codeAny_whileLoop (fun n s'=>∃σ' H',Inv X pins σ' H' s'/\W n σ' H') ?_ m0 ⟨σ,H,I,w0⟩)
 rintro n s1 ⟨σ1,H1,I1,w1⟩
 refine wpAny_passesOwn hp (thn (hc pins s1 σ1 H1 _ I1 (turn n σ1 H1 w1)) fun b s2 ⟨H2,I2,q2⟩=>?_)
 cases b with
 |true=>
  obtain⟨N,hN,q2⟩:=q2
  rw[if_pos rfl]
  refine wpAny_passesOwn hp (thn (hb pins s2 σ1 H2 _ I2 q2) fun f s3 q3=>?_)
  cases f with
  |next=>
   obtain⟨σ3,H3,I3,n3⟩:=q3
   obtain⟨m',hm,w3⟩:=hN σ3 H3 n3
   exact⟨m',hm,σ3,H3,I3,w3⟩
  |cont=>
   obtain⟨σ3,H3,I3,n3⟩:=q3
   obtain⟨m',hm,w3⟩:=hN σ3 H3 n3
   exact⟨m',hm,σ3,H3,I3,w3⟩
  |brk=>exact q3
  |ret v=>exact q3
 |false=>
  rw[if_neg qC_]
  exact wpAny_execs_nil ⟨σ1,H2,I2,q2⟩
end
structure It where
 go:Nat->Hp->Prop
 yld:Nat->Hp->V->Hp->Prop
 stop:Nat->Hp->Prop
def nz(X:Cx)(pins:List (Addr×Obj))(H:Hp)(b:Addr):Prop:=
 H b=none/\b≠X.env.locals/\b∉X.fs/\(b∈X.ex\/X.s₀.heap.objs.size<=b)/\(∀x c,X.env.cells.lookup x=some c->c≠b)/\∀p∈X.pn++pins,p.1≠b
def Inv.Ap{X:Cx}{pins:List (Addr×Obj)}{σ:St}{H H':Hp}{s:Shared}{b:Addr}(I:Inv X pins σ H s)(hb:s.heap.objs.size<=b)(hn:H' b=none):nz X pins H' b:=by
 refine⟨hn,Nat.ne_of_gt (qd_ I.lt hb),I.JH hb,.inr (Nat.le_trans I.sz hb),fun x c e z=>?_,fun p hp z=>?_⟩
 · obtain⟨v,q⟩:=I.cell x c e
   exact absurd (qd_ q.lt (by rw[z];exact hb)) (qe_ _)
 · exact absurd (qd_ (Heap.lt_size (I.pin p hp).1) (by rw[z];exact hb)) (qe_ _)
structure Turn (P:Program) (w:World) (K:PySem.W.Frag) (tg:Expr) (J:It) (fp:List Addr) (it:Addr) (tn:Nat->Heap->Prop):Prop where
 mem:it∈fp
 obj:∀i h,tn i h->∀b∈fp,∃o,h.get? b=some o/\∀v,o.data≠.cell v
 keep:∀i h h',tn i h->(∀b∈fp,∀o,h.get? b=some o->h'.get? b=some o)->tn i h'
 item:∀(X:Cx),X.prog=P->X.w=w->X.K=K->X.calm=true->∀(i:Nat) (pins:List (Addr×Obj)) (s:Shared) (σ:St) (H:Hp) (E:Value->Shared->Prop),Inv X pins σ H s->(∀b∈fp,nz X pins H b)->tn i s.heap->J.go i H->
  wpAny (model P w) X.A (pyNext (.ref it)) (fun r s1=>∃u,r=some u/\
   wpAny (model P w) X.A (letOwnedTupleGo tg (.ref it) u) (fun _ s2=>∃x H',Inv X pins σ H' s2/\RelV x u/\J.yld i H x H'/\tn (i+1) s2.heap/\∀b∈fp,H' b=none) E s1) E s
 done:∀(X:Cx),X.prog=P->X.w=w->X.K=K->X.calm=true->∀(i:Nat) (pins:List (Addr×Obj)) (s:Shared) (σ:St) (H:Hp) (E:Value->Shared->Prop),Inv X pins σ H s->(∀b∈fp,nz X pins H b)->tn i s.heap->J.stop i H->
  wpAny (model P w) X.A (pyNext (.ref it)) (fun r s1=>r=none/\Inv X pins σ H s1) E s
 self:∀(A:Around) (i:Nat) (s:Shared) (Q:Value->Shared->Prop) (E:Value->Shared->Prop),tn i s.heap->Q (.ref it) s->wpAny (model P w) A (pyIter (.ref it)) Q E s
abbrev TI:=St->Hp->(It->Hp->Prop)->Prop
def PIE(X:Cx)(pins:List (Addr×Obj))(σ:St)(tg:Expr)(R:It->Hp->Prop)(itv:Value)(s2:Shared):Prop:=
 ∃(it:Addr) (fp:List Addr) (tn:Nat->Heap->Prop) (J:It) (H':Hp),itv= .ref it/\Inv X pins σ H' s2/\Turn X.prog X.w X.K tg J fp it tn/\tn 0 s2.heap/\(∀b∈fp,nz X pins H' b)/\R J H'
def PI(X:Cx)(tg iter:Expr)(wi:TI):Prop:=
 ∀(pins:List (Addr×Obj)) (s:Shared) (σ:St) (H:Hp) (R:It->Hp->Prop),Inv X pins σ H s->wi σ H R->
  wpAny (model X.prog X.w) X.A (eval iter X.env) (fun v s1=>wpAny (model X.prog X.w) X.A (pyIter v) (PIE X pins σ tg R) X.xe s1) X.xe s
def Bh{M:Model}{A:Around}{E:Value->Shared->Prop}{s:Shared}{tg:Expr}{it:Addr}{u:Value}{o:Obj}{n:String}{vs:Array Value}{Q:Unit->Shared->Prop}(ho:s.heap.get? it=some o)(hc:o.cls= .type n)(hd:o.data= .fields vs)
 (hn:["enumerate","zip","dict_itemiterator","dict_reverseitemiterator","odict_iterator","itertools.zip_longest","itertools.pairwise"].contains n=false) (hQ:Q () s):wpAny M A (letOwnedTupleGo tg (.ref it) u) Q E s:=by
 unfold letOwnedTupleGo
 cases tg <;> first
  |exact wpAny_pure hQ
  |(cases u <;> first
     |exact wpAny_pure hQ
     |(refine wpAny_bind (wpAny_load ho ?_)
       rw[hc,hd]
       show wpAny M A (if (["enumerate","zip","dict_itemiterator","dict_reverseitemiterator","odict_iterator","itertools.zip_longest","itertools.pairwise"].contains n&&vs[0]? ==some (rawInt _))=true then _ else _) Q E s
       rw[if_neg (by intro h;rw[hn,Bool.false_and]at h;cases h)]
       exact wpAny_pure hQ))
def Itl(K:PySem.W.Frag)(a:Addr):It:=
 ⟨fun i H=>∃xs x,SqL K H a xs/\xs[i]? =some x,fun i H x H'=>H'=H/\∀xs,SqL K H a xs->xs[i]? =some x,fun i H=>∃xs,SqL K H a xs/\xs.length<=i⟩
def Itt(K:PySem.W.Frag)(a:Addr):It:=
 ⟨fun i H=>∃xs x,SqT K H a xs/\xs[i]? =some x,fun i H x H'=>H'=H/\∀xs,SqT K H a xs->xs[i]? =some x,fun i H=>∃xs,SqT K H a xs/\xs.length<=i⟩
def Itr(lo:Int)(n:Nat):It:=⟨fun i _=>i < n,fun i H x H'=>H'=H/\x= .int (lo+i),fun i _=>n<=i⟩
def zc{P:Program}{w:World}{K:PySem.W.Frag}{tg:Expr}(a it:Addr):Turn P w K tg (Itl K a) [it] it (fun i h=>h.IsListIter it a i) where
 mem:=by simp
 obj:=fun i h st b hb=>by
  have e:b=it:=by simpa using hb
  subst e
  obtain⟨o,e,c,d⟩:=st
  exact⟨o,e,fun v z=>by rw[d]at z;cases z⟩
 keep:=fun i h h' st k=>st.at fun o e=>k it (by simp) o e
 item:=by
  intro X hP hw hK hc i pins s σ H E I hf st hg
  subst hP hw hK
  obtain⟨xs,x,hq,hx⟩:=hg
  obtain⟨its,rv,p,hz⟩:=I.list hq
  obtain⟨u,hu,ru⟩:=rv.get hx
  obtain⟨f0,f1,f2,f3,f4,f5⟩:=hf it (by simp)
  refine wpAny_pyNext_list_item st p.isList (x:=u) (by simpa using hu) fun h' st' sb=>?_
  have I1:Inv X pins σ H {s with heap:=h'}:=I.turned (t':=s.toks) (fun b o hb e=>(sb.2 b hb).trans e) f0 f1 f3 f4 f5
  obtain⟨o,e,c,d⟩:=id st'
  exact⟨u,rfl,Bh (s:={s with heap:=h'}) e c d (by decide) ⟨x,H,I1,ru,⟨rfl,fun ys hy=>by rw[I.kh hy hq];exact hx⟩,st',fun b hb=>(hf b hb).1⟩⟩
 done:=by
  intro X hP hw hK hc i pins s σ H E I hf st hg
  subst hP hw hK
  obtain⟨xs,hq,hx⟩:=hg
  obtain⟨its,rv,p,hz⟩:=I.list hq
  obtain⟨f0,f1,f2,f3,f4,f5⟩:=hf it (by simp)
  have hl:=rv.length
  exact wpAny_pyNext_list_end (I.ok.hd hc) st p.isList (by simp;omega) fun h' eb=>⟨rfl,I.turned (t':=s.toks) (fun b o hb e=>eb b o hb e) f0 f1 f3 f4 f5⟩
 self:=fun _ _ _ _ _ st h=>wpAny_pyIter_listiter st h
def wx{P:Program}{w:World}{K:PySem.W.Frag}{tg:Expr}(a it:Addr):Turn P w K tg (Itt K a) [it] it (fun i h=>h.IsTupleIter it a i) where
 mem:=by simp
 obj:=fun i h st b hb=>by
  have e:b=it:=by simpa using hb
  subst e
  obtain⟨o,e,c,d⟩:=st
  exact⟨o,e,fun v z=>by rw[d]at z;cases z⟩
 keep:=fun i h h' st k=>st.at fun o e=>k it (by simp) o e
 item:=by
  intro X hP hw hK hc i pins s σ H E I hf st hg
  subst hP hw hK
  obtain⟨xs,x,hq,hx⟩:=hg
  obtain⟨its,rv,p,hz⟩:=I.tuple hq
  obtain⟨u,hu,ru⟩:=rv.get hx
  obtain⟨f0,f1,f2,f3,f4,f5⟩:=hf it (by simp)
  refine wpAny_pyNext_tuple_item st (show s.heap.IsTuple a its.toArray from p) (x:=u) (by simpa using hu) fun h' st' sb=>?_
  have I1:Inv X pins σ H {s with heap:=h'}:=I.turned (t':=s.toks) (fun b o hb e=>(sb.2 b hb).trans e) f0 f1 f3 f4 f5
  obtain⟨o,e,c,d⟩:=id st'
  exact⟨u,rfl,Bh (s:={s with heap:=h'}) e c d (by decide) ⟨x,H,I1,ru,⟨rfl,fun ys hy=>by rw[I.kX hy hq];exact hx⟩,st',fun b hb=>(hf b hb).1⟩⟩
 done:=by
  intro X hP hw hK hc i pins s σ H E I hf st hg
  subst hP hw hK
  obtain⟨xs,hq,hx⟩:=hg
  obtain⟨its,rv,p,hz⟩:=I.tuple hq
  obtain⟨f0,f1,f2,f3,f4,f5⟩:=hf it (by simp)
  have hl:=rv.length
  exact wpAny_pyNext_tuple_end (I.ok.hd hc) st (show s.heap.IsTuple a its.toArray from p) (by simp;omega) fun h' eb=>⟨rfl,I.turned (t':=s.toks) (fun b o hb e=>eb b o hb e) f0 f1 f3 f4 f5⟩
 self:=fun _ _ _ _ _ st h=>wpAny_pyIter_tupleiter st h
def v7{P:Program}{w:World}{K:PySem.W.Frag}{tg:Expr}(it:Addr)(lo:Int)(n:Nat):Turn P w K tg (Itr lo n) [it] it (fun i h=>IsRangeIter h it (lo+(i:Nat)*1) ((n:Int) - (i:Nat)) 1) where
 mem:=by simp
 obj:=fun i h st b hb=>by
  have e:b=it:=by simpa using hb
  subst e
  exact⟨_,st,fun v z=>by
   have z':Data.fields _=Data.cell v:=z
   cases z'⟩
 keep:=fun i h h' st k=>k it (by simp) _ st
 item:=by
  intro X hP hw hK hc i pins s σ H E I hf st hg
  subst hP hw hK
  obtain⟨f0,f1,f2,f3,f4,f5⟩:=hf it (by simp)
  have W:=Walks.range (prog:=X.prog) (w:=X.w) (I.ok.hd hc) it lo 1 n
  refine W.item i s _ _ hg st fun v h' tk hv st' kk=>?_
  obtain⟨t,rfl⟩:=hv
  have I1:Inv X pins σ H {s with heap:=h',toks:=tk}:=I.turned (fun b o hb e=>kk b o (by simpa using hb) e) f0 f1 f3 f4 f5
  refine⟨_,rfl,Bh (s:={s with heap:=h',toks:=tk}) (n:="range_iterator") st' rfl rfl (by decide) ⟨.int (lo+i),H,I1,⟨t,?_⟩,⟨rfl,rfl⟩,st',fun b hb=>(hf b hb).1⟩⟩
  rw[Int.mul_one]
 done:=by
  intro X hP hw hK hc i pins s σ H E I hf st hg
  subst hP hw hK
  obtain⟨f0,f1,f2,f3,f4,f5⟩:=hf it (by simp)
  exact wpAny_pyNext_range_end (I.ok.hd hc) st (by have:n<=i:=hg;omega) fun h' eb=>⟨rfl,I.turned (t':=s.toks) (fun b o hb e=>eb b o hb e) f0 f1 f3 f4 f5⟩
 self:=fun _ _ _ _ _ st h=>wpAny_pyIter_rangeiter st h
section
variable{X:Cx}{tg:Expr}
def zm{pins:List (Addr×Obj)}{σ:St}{H:Hp}{s:Shared}{R:It->Hp->Prop}{E:Value->Shared->Prop}{lo hi:Int}{t u v:Tok}{tk:Nat}(I:Inv X pins σ H s)(h1:-(2 ^ 62)<=lo)(h2:lo < 2 ^ 62)(h3:-(2 ^ 62)<=hi)(h4:hi < 2 ^ 62)
 (q:R (Itr lo (hi - lo).toNat) H):wpAny (model X.prog X.w) X.A (pyIter (.ref s.heap.objs.size)) (PIE X pins σ tg R) E {s with heap:=s.heap.push {cls:= .type "range",data:= .fields #[.int lo t,.int hi u,.int 1 v]},toks:=tk}:=by
 refine wpAny_pyIter_range (IsRange.new ..) (small_one h1 h2 h3 h4) ?_
 have I1:Inv X pins σ H {s with heap:=s.heap.push {cls:= .type "range",data:= .fields #[.int lo t,.int hi u,.int 1 v]},toks:=tk}:=I.kept fun b o e=>Heap.get?_push_of_some _ e
 refine⟨(s.heap.push {cls:= .type "range",data:= .fields #[.int lo t,.int hi u,.int 1 v]}).objs.size,[(s.heap.push {cls:= .type "range",data:= .fields #[.int lo t,.int hi u,.int 1 v]}).objs.size],_,_,H,rfl,
  I1.kept (t':=tk) fun b o e=>Heap.get?_push_of_some _ e,v7 _ lo (hi - lo).toNat,?_,fun b hb=>?_,q⟩
 · have e1:lo+((0:Nat):Int)*1=lo:=by simp
   have e2:(((hi - lo).toNat:Nat):Int) - ((0:Nat):Int)=Builtin.Range.rangeSize lo hi 1:=by rw[rangeSize_one];split <;> omega
   show IsRangeIter _ _ (lo+((0:Nat):Int)*1) ((((hi - lo).toNat:Nat):Int) - ((0:Nat):Int)) 1
   rw[e1,e2]
   exact Heap.get?_push_size _ rfl
 · have e:b=(s.heap.push {cls:= .type "range",data:= .fields #[.int lo t,.int hi u,.int 1 v]}).objs.size:=by simpa using hb
   subst e
   exact I1.Ap (qO_ _) (I1.hok.fresh (qO_ _))
def gc(ta:TA):TI:=fun σ H R=>ta σ H fun vs H1=>∃j:Int,vs=[.int j]/\-(2 ^ 62)<=j/\j < 2 ^ 62/\R (Itr 0 j.toNat) H1
def yM{a:Expr}{ta:TA}{p pos:Pos}(hg:Gl X "range")(hm:X.mg "range"=none)(ha:PA X [a] ta)(hs:starEach [a] X.env=[(false,eval a X.env)]:=by rfl):PI X tg (.Call (.Name "range" p) [a] [] pos) (gc ta):=by
 intro pins s σ H R I h
 refine Call_ (nL I hg hm boot_range (PyProof.Rows.callWith_type1 (thn (ha pos pins s σ H _ I h) fun us s1 ⟨vs,H1,I1,r1,q1⟩=>?_) hs rfl))
 obtain⟨j,e,q1,q2,q⟩:=q1
 subst e
 cases r1 with
 |cons r rr=>
  cases rr
  obtain⟨t,rfl⟩:=r
  exact call_range_1 (zm I1 (by omega) (by omega) q1 q2 (by simpa using q))
def JI(wi:TI)(g:TG)(tb:TS):TS:=fun D σ H=>wi σ H fun J H1=>∃W:Nat->Nat->St->Hp->Prop,(∃m,W 0 m σ H1)/\∀i m σ H,W i m σ H->
 (J.stop i H/\D.nx σ H)\/(J.go i H/\∃N:St->Hp->Prop,(∀σ' H',N σ' H'->∃m',m' < m/\W (i+1) m' σ' H')/\∀x H',J.yld i H x H'->g x σ H' fun σ2 H2=>tb {D with nx:=N,ct:=N,bk:=D.nx} σ2 H2)
def pI(fp:List Addr)(h:Heap):List (Addr×Obj):=fp.filterMap fun b=>(h.get? b).map fun o=>(b,o)
def jx{fp:List Addr}{h:Heap}{b:Addr}{o:Obj}(hb:b∈fp)(e:h.get? b=some o):(b,o)∈pI fp h:=List.mem_filterMap.mpr ⟨b,hb,by rw[e];rfl⟩
def yx{fp:List Addr}{h:Heap}{p:Addr×Obj}(hp:p∈pI fp h):p.1∈fp/\h.get? p.1=some p.2:=by
 obtain⟨b,hb,e⟩:=List.mem_filterMap.mp hp
 cases q:h.get? b with
 |none=>rw[q]at e;cases e
 |some o=>
  rw[q]at e
  have e':(b,o)=p:=Option.some.inj e
  subst e'
  exact⟨hb,q⟩
def Inv.pinned{pins:List (Addr×Obj)}{σ:St}{H:Hp}{s:Shared}{fp:List Addr}(I:Inv X pins σ H s)(hf:∀b∈fp,nz X pins H b)(ho:∀b∈fp,∃o,s.heap.get? b=some o/\∀v,o.data≠.cell v):Inv X (pins++pI fp s.heap) σ H s:=
 I.oO fun p hp=>(qG_.mp hp).elim (fun z=>I.pin p (qE_ _ z)) fun z=>by
   obtain⟨hb,e⟩:=yx z
   obtain⟨f0,f1,f2,_⟩:=hf p.1 hb
   obtain⟨o,e',d⟩:=ho p.1 hb
   rw[e]at e';cases e'
   exact⟨e,f0,f1,f2,d⟩
def Inv.kF{pins pl:List (Addr×Obj)}{σ:St}{H:Hp}{s:Shared}(I:Inv X (pins++pl) σ H s):Inv X pins σ H s:=I.oO fun p hp=>I.pin p (qE_ _ (qF_ _ hp))
def AB{iter:Expr}{body:List Stmt}{wi:TI}{g:TG}{tb:TS}{pos:Pos}(hp:PassesOwn (model X.prog X.w) X.A X.env X.xe)(hc:X.calm=true)(hi:PI X tg iter wi)(hg:PG X tg g)(hb:PSs X body tb)
 (hs:∀x,foldedSetIterable iter X.env x=pure x:=by intro _;rfl):PS X (.For tg iter body [] pos) (JI wi g tb):=by
 intro pins s σ H D I h
 refine wpAny_For (thn (hi pins s σ H _ I h) fun v s1 h1=>thn h1 fun itv s2 h2=>?_) hs
 obtain⟨it,fp,tn,J,H2,e,I2,T,st2,f2,W,⟨m0,w0⟩,turn⟩:=h2
 subst e
 have stat:∀{H':Hp},(∀b∈fp,H' b=none)->∀b∈fp,nz X pins H' b:=fun hn b hb=>⟨hn b hb,(f2 b hb).2⟩
 refine codeAny_forLoop_any (fun n s'=>∃i σ' H',Inv X pins σ' H' s'/\tn i s'.heap/\(∀b∈fp,H' b=none)/\W i n σ' H') ?_ m0 ⟨0,σ,H2,I2,st2,fun b hb=>(f2 b hb).1,w0⟩
 rintro n s3 ⟨i,σ3,H3,I3,st3,fr3,w3⟩
 rcases turn i n σ3 H3 w3 with ⟨stop,qn⟩ |⟨go,N,hN,step⟩
 · refine wpAny_passesOwn hp (thn (T.done X rfl rfl rfl hc i pins s3 σ3 H3 X.xe I3 (stat fr3) st3 stop) fun r s4 ⟨hr,I4⟩=>?_)
   subst hr
   exact wpAny_execs_nil ⟨σ3,H3,I4,qn⟩
 · refine wpAny_passesOwn hp (thn (T.item X rfl rfl rfl hc i pins s3 σ3 H3 X.xe I3 (stat fr3) st3 go) fun r s4 ⟨u,hr,h4⟩=>?_)
   subst hr
   refine wpAny_passesOwn hp (thn h4 fun _ s5 ⟨x,H5,I5,r5,y5,st5,fr5⟩=>?_)
   have I5':=I5.pinned (stat fr5) (T.obj _ _ st5)
   refine wpAny_passesOwn hp (thn (hg _ s5 σ3 H5 x u _ I5' r5 (step x H5 y5)) fun _ s6 ⟨σ6,H6,I6,q6⟩=>?_)
   refine wpAny_passesOwn hp (thn (hb _ s6 σ6 H6 _ I6 q6) fun f s7 q7=>?_)
   have again:∀{σ7:St} {H7:Hp},Inv X (pins++pI fp s5.heap) σ7 H7 s7->N σ7 H7->∃m,m < n/\∃i σ' H',Inv X pins σ' H' s7/\tn i s7.heap/\(∀b∈fp,H' b=none)/\W i m σ' H':=fun {σ7 H7} I7 n7=>by
    obtain⟨m',hm,w7⟩:=hN σ7 H7 n7
    refine⟨m',hm,i+1,σ7,H7,I7.kF,T.keep _ _ _ st5 fun b hb o e=>(I7.pin (b,o) (qE_ _ (qE_ _ (jx hb e)))).1,fun b hb=>?_,w7⟩
    obtain⟨o,e,d⟩:=T.obj _ _ st5 b hb
    exact(I7.pin (b,o) (qE_ _ (qE_ _ (jx hb e)))).2.1
   cases f with
   |next=>obtain⟨σ7,H7,I7,n7⟩:=q7;exact again I7 n7
   |cont=>obtain⟨σ7,H7,I7,n7⟩:=q7;exact again I7 n7
   |brk=>obtain⟨σ7,H7,I7,q7⟩:=q7;exact⟨σ7,H7,I7.kF,q7⟩
   |ret v=>obtain⟨x7,σ7,H7,I7,r7,q7⟩:=q7;exact⟨x7,σ7,H7,I7.kF,r7,q7⟩
end
abbrev R2:=V->V->Hp->VK->Prop
def OpR(X:Cx)(f:Value->Value->Sem Value)(r:R2):Prop:=
 ∀(pins:List (Addr×Obj)) (s:Shared) (σ:St) (H:Hp) (x y:V) (v u:Value) (Q:VK),Inv X pins σ H s->RelV x v->RelV y u->r x y H Q->
  wpAny (model X.prog X.w) X.A (f v u) (EP X pins σ Q) X.xe s
def UnR(X:Cx)(f:Value->Sem Value)(r:V->Hp->VK->Prop):Prop:=
 ∀(pins:List (Addr×Obj)) (s:Shared) (σ:St) (H:Hp) (x:V) (v:Value) (Q:VK),Inv X pins σ H s->RelV x v->r x H Q->
  wpAny (model X.prog X.w) X.A (f v) (EP X pins σ Q) X.xe s
def fw(X:Cx)(f:Value)(r:List V->Hp->VK->Prop):Prop:=
 ∀(pins:List (Addr×Obj)) (s:Shared) (σ:St) (H:Hp) (xs:List V) (us:List Value) (Q:VK),Inv X pins σ H s->Vals xs us->r xs H Q->
  wpAny (model X.prog X.w) X.A (call f us) (EP X pins σ Q) X.xe s
def J3(X:Cx)(r:V->Hp->(Bool->Hp->Prop)->Prop):Prop:=
 ∀(pins:List (Addr×Obj)) (s:Shared) (σ:St) (H:Hp) (x:V) (v:Value) (Q:Bool->Hp->Prop),Inv X pins σ H s->RelV x v->r x H Q->
  wpAny (model X.prog X.w) X.A (truthy v) (TP X pins σ Q) X.xe s
def tOp(r:R2)(ta tb:TE):TE:=fun σ H Q=>ta σ H fun x H1=>tb σ H1 fun y H2=>r x y H2 Q
def tUn(r:V->Hp->VK->Prop)(ta:TE):TE:=fun σ H Q=>ta σ H fun x H1=>r x H1 Q
def rI(C:Int->Int->Prop)(g:Int->Int->V):R2:=fun x y H Q=>∃i j,x= .int i/\y= .int j/\C i j/\Q (g i j) H
def rI0(g:Int->Int->V):R2:=fun x y H Q=>∃i j,x= .int i/\y= .int j/\Q (g i j) H
def rU(g:Int->V):V->Hp->VK->Prop:=fun x H Q=>∃i,x= .int i/\Q (g i) H
section
variable{X:Cx}{a b c:Expr}{ta tb tc:TE}{pos:Pos}
def Gx(ha:PE X a ta)(hb:PE X b tb){pins:List (Addr×Obj)}{s:Shared}{σ:St}{H:Hp}{R:V->V->Hp->Prop}(I:Inv X pins σ H s)
 (h:ta σ H fun x H1=>tb σ H1 fun y H2=>R x y H2) {Q:Value->Shared->Prop} {f:Value->Value->Sem Value}
 (hf:∀v u s2 x y H2,Inv X pins σ H2 s2->RelV x v->RelV y u->R x y H2->wpAny (model X.prog X.w) X.A (f v u) Q X.xe s2):
 wpAny (model X.prog X.w) X.A (eval a X.env) (fun v s₁=>wpAny (model X.prog X.w) X.A (eval b X.env) (fun u s₂=>wpAny (model X.prog X.w) X.A (f v u) Q X.xe s₂) X.xe s₁) X.xe s:=by
 refine thn (ha pins s σ H _ I h) fun v s1 ⟨x,H1,I1,r1,q1⟩=>?_
 refine thn (hb pins s1 σ H1 _ I1 q1) fun u s2 ⟨y,H2,I2,r2,q2⟩=>?_
 exact hf v u s2 x y H2 I2 r1 r2 q2
def Hr{op:Operator}{r:R2}(ho:OpR X (binaryOp op) r)(ha:PE X a ta)(hb:PE X b tb):PE X (.BinOp a op b pos) (tOp r ta tb):=by
 intro pins s σ H Q I h
 exact wpAny_BinOp (Gx ha hb I h fun v u s2 x y H2 I2 rx ry q=>ho pins s2 σ H2 x y v u Q I2 rx ry q)
def HV{op:UnaryOp}{r:V->Hp->VK->Prop}(ho:UnR X (unaryOp op) r)(ha:PE X a ta):PE X (.UnaryOp op a pos) (tUn r ta):=by
 intro pins s σ H Q I h
 exact UnaryOp_ (thn (ha pins s σ H _ I h) fun v s1 ⟨x,H1,I1,r1,q1⟩=>ho pins s1 σ H1 x v Q I1 r1 q1)
def opI{f:Value->Value->Sem Value}{C:Int->Int->Prop}{g:Int->Int->Int}
 (rule:∀(i j:Int) (t u:Tok) (s:Shared) (Q:Value->Shared->Prop) (E:Value->Shared->Prop),C i j->Q (.int (g i j) s.toks) {s with toks:=s.toks+1}->wpAny (model X.prog X.w) X.A (f (.int i t) (.int j u)) Q E s):
 OpR X f (rI C fun i j=>.int (g i j)):=by
 intro pins s σ H x y v u Q I rx ry h
 obtain⟨i,j,rfl,rfl,hc,q⟩:=h
 obtain⟨t,rfl⟩:=rx
 obtain⟨t',rfl⟩:=ry
 exact rule i j t t' s _ _ hc ⟨.int (g i j),H,I.tok _,⟨_,rfl⟩,q⟩
def Hx{f:Value->Value->Sem Value}{g:Int->Int->Int}
 (rule:∀(i j:Int) (t u:Tok) (s:Shared) (Q:Value->Shared->Prop) (E:Value->Shared->Prop),Q (.int (g i j) s.toks) {s with toks:=s.toks+1}->wpAny (model X.prog X.w) X.A (f (.int i t) (.int j u)) Q E s):
 OpR X f (rI0 fun i j=>.int (g i j)):=by
 intro pins s σ H x y v u Q I rx ry h
 obtain⟨i,j,rfl,rfl,q⟩:=h
 obtain⟨t,rfl⟩:=rx
 obtain⟨t',rfl⟩:=ry
 exact rule i j t t' s _ _ ⟨.int (g i j),H,I.tok _,⟨_,rfl⟩,q⟩
def FO{f:Value->Value->Sem Value}{g:Int->Int->Bool}
 (rule:∀(i j:Int) (t u:Tok) (s:Shared) (Q:Value->Shared->Prop) (E:Value->Shared->Prop),Q (.bool (g i j)) s->wpAny (model X.prog X.w) X.A (f (.int i t) (.int j u)) Q E s):
 OpR X f (rI0 fun i j=>.bl (g i j)):=by
 intro pins s σ H x y v u Q I rx ry h
 obtain⟨i,j,rfl,rfl,q⟩:=h
 obtain⟨t,rfl⟩:=rx
 obtain⟨t',rfl⟩:=ry
 exact rule i j t t' s _ _ ⟨.bl (g i j),H,I,rfl,q⟩
def ES(i j:Int):Prop:=0 < j/\j < 1073741824
def DI(i j:Int):Prop:=(-(2 ^ 64) < i/\i < 2 ^ 64)\/(-(2 ^ 64) < j/\j < 2 ^ 64)
def DI.ok{i j:Int}(h:DI i j):IntMulOk i j:=by
 rcases h with ⟨h1,h2⟩ |⟨h1,h2⟩
 · exact .of_left (intBits_le_64 h1 h2)
 · exact .of_right (intBits_le_64 h1 h2)
def Gf:OpR X (binaryOp .Add) (rI0 fun i j=>.int (i+j)):=Hx fun _ _ _ _ _ _ _ q=>add_int q
def GC:OpR X (binaryOp .Sub) (rI0 fun i j=>.int (i - j)):=Hx fun _ _ _ _ _ _ _ q=>sub_int q
def Fq:OpR X (binaryOp .Mult) (rI DI fun i j=>.int (i*j)):=opI fun _ _ _ _ _ _ _ hc q=>mul_int q hc.ok
def Cm:OpR X (binaryOp .FloorDiv) (rI ES fun i j=>.int (i / j)):=opI fun i j _ _ _ _ _ hc q=>by
 have h1:(0:Int) < j:=hc.1
 have h2:j < 1073741824:=hc.2
 exact floordiv_int (by omega) (by rw[Int.fdiv_eq_ediv_of_nonneg i (by omega)];exact q) (.inl (PyProof.noPylong_small (by omega)))
def EA:OpR X (binaryOp .Mod) (rI (fun _ j=>0 < j) fun i j=>.int (i % j)):=opI fun i j _ _ _ _ _ hc q=>by
 have h1:(0:Int) < j:=hc
 exact mod_int' (by omega) (by rw[Int.fmod_eq_emod_of_nonneg i (by omega)];exact q)
def unI{f:Value->Sem Value}{g:Int->Int}
 (rule:∀(i:Int) (t:Tok) (s:Shared) (Q:Value->Shared->Prop) (E:Value->Shared->Prop),Q (.int (g i) s.toks) {s with toks:=s.toks+1}->wpAny (model X.prog X.w) X.A (f (.int i t)) Q E s):
 UnR X f (rU fun i=>.int (g i)):=by
 intro pins s σ H x v Q I rx h
 obtain⟨i,rfl,q⟩:=h
 obtain⟨t,rfl⟩:=rx
 exact rule i t s _ _ ⟨.int (g i),H,I.tok _,⟨_,rfl⟩,q⟩
def Fb:UnR X (unaryOp .USub) (rU fun i=>.int (-i)):=unI fun _ _ _ _ _ q=>neg_int q
def IU:OpR X (compareOp .Lt) (rI0 fun i j=>.bl (decide (i < j))):=FO fun _ _ _ _ _ _ _ q=>lt_int q
def HD:OpR X (compareOp .Gt) (rI0 fun i j=>.bl (decide (j < i))):=FO fun _ _ _ _ _ _ _ q=>gt_int q
def Il:OpR X (compareOp .GtE) (rI0 fun i j=>.bl (decide (j<=i))):=FO fun _ _ _ _ _ _ _ q=>ge_int q
def OpR.or{f:Value->Value->Sem Value}{r r':R2}(h:OpR X f r)(h':OpR X f r'):OpR X f (fun x y H Q=>r x y H Q\/r' x y H Q):=by
 intro pins s σ H x y v u Q I rx ry q
 rcases q with q |q
 · exact h pins s σ H x y v u Q I rx ry q
 · exact h' pins s σ H x y v u Q I rx ry q
def lK(b:Expr){op:CmpOp}(h:op≠.In:=by decide)(h2:op≠.NotIn:=by decide):behindInMarks op b=false:=by
 have e1:(op==CmpOp.In)=false:=by cases op <;> first |rfl |exact absurd rfl h
 have e2:(op==CmpOp.NotIn)=false:=by cases op <;> first |rfl |exact absurd rfl h2
 cases b <;> simp [behindInMarks,e1,e2]
def DM{op:CmpOp}{r:R2}(ho:OpR X (compareOp op) r)(ha:PE X a ta)(hb:PE X b tb)(hm:behindInMarks op b=false):PE X (.Compare a [op] [b] pos) (tOp r ta tb):=by
 intro pins s σ H Q I h
 exact wpAny_Compare1 (Gx ha hb I h fun v u s2 x y H2 I2 rx ry q=>ho pins s2 σ H2 x y v u Q I2 rx ry q) hm
def D4(t:TE):TT:=fun σ H Q=>t σ H fun x H'=>∃k,x= .bl k/\Q k H'
def DK{op:CmpOp}{r:R2}(ho:OpR X (compareOp op) r)(ha:PE X a ta)(hb:PE X b tb)(hm:behindInMarks op b=false):PT X (.Compare a [op] [b] pos) (D4 (tOp r ta tb)):=by
 intro pins s σ H Q I h
 refine wpAny_isTrue_Compare1 (thn (ha pins s σ H _ I h) fun v s1 ⟨x,H1,I1,r1,q1⟩=>thn (hb pins s1 σ H1 _ I1 q1) fun u s2 ⟨y,H2,I2,r2,q2⟩=>
  thn (ho pins s2 σ H2 x y v u _ I2 r1 r2 q2) fun c s3 ⟨z,H3,I3,r3,k,e,q3⟩=>?_) hm
 subst e
 cases r3
 exact wpAny_truthy_bool ⟨H3,I3,q3⟩
def Gn(K:PySem.W.Frag)(x:V)(H:Hp)(k:Bool):Prop:=
 match x with
 | .non=>k=false
 | .bl b=>k=b
 | .int i=>k=(i !=0)
 | .str y=>y.length<=sizeLine/\k=((y.length:Int)!=0)
 | .byt y=>y.size<=sizeLine/\k=((y.size:Int)!=0)
 | .ref p=>(∃xs,SqL K H p xs/\k= !xs.isEmpty)\/(∃xs,SqT K H p xs/\k= !xs.isEmpty)\/∃kvs,H p=some (.dK kvs)/\k= !kvs.isEmpty
 |_=>False
def vJ{κ:Type}{kvs:List (κ×V)}{vs:List (κ×Value)}(r:KV kvs vs):(!vs.isEmpty)= !kvs.isEmpty:=by
 cases r <;> rfl
def qt{xs:List V}{its:List Value}(r:Vals xs its):(!its.toArray.isEmpty)= !xs.isEmpty:=by
 cases r <;> simp
def pJ:(sizeLine:Nat) < 2 ^ 63:=by rw[sizeLine_eq];decide
def GO:J3 X (fun x H Q=>∃k,Gn X.K x H k/\Q k H):=by
 intro pins s σ H x v Q I rx h
 obtain⟨k,e,q⟩:=h
 have hl:=pJ
 have hs:sizeLine=16777216:=sizeLine_eq
 cases x with
 |non=>
  cases rx
  have e':k=false:=e
  subst e'
  exact truthy_none ⟨H,I,q⟩
 |bl b=>
  cases rx
  have e':k=b:=e
  subst e'
  exact wpAny_truthy_bool ⟨H,I,q⟩
 |int i=>
  obtain⟨t,rfl⟩:=rx
  have e':k=(i !=0):=e
  subst e'
  exact PySem.P.truthy_int ⟨H,I,q⟩
 |str y=>
  obtain⟨t,rfl⟩:=rx
  obtain⟨hy,e'⟩:y.length<=sizeLine/\k=((y.length:Int)!=0):=e
  subst e'
  exact PySem.P.truthy_str (by omega) ⟨H,I.tok _,q⟩
 |byt y=>
  obtain⟨t,rfl⟩:=rx
  obtain⟨hy,e'⟩:y.size<=sizeLine/\k=((y.size:Int)!=0):=e
  subst e'
  exact PySem.W.truthy_bytes (by omega) ⟨H,I.tok _,q⟩
 |ref p=>
  cases rx
  have e':(∃xs,SqL X.K H p xs/\k= !xs.isEmpty)\/(∃xs,SqT X.K H p xs/\k= !xs.isEmpty)\/∃kvs,H p=some (.dK kvs)/\k= !kvs.isEmpty:=e
  rcases e' with ⟨xs,hx,e'⟩ |⟨xs,hx,e'⟩ |⟨kvs,hx,e'⟩
  · subst e'
    obtain⟨its,r,pl,hz⟩:=I.list hx
    have hlen:=r.length
    exact wpAny_truthy_list pl.isList (by simp only[qW_];omega) ⟨H,I.tok _,by rw[qt r];exact q⟩
  · subst e'
    obtain⟨its,r,pl,hz⟩:=I.tuple hx
    have hlen:=r.length
    exact truthy_tuple pl (by simp only[qW_];omega) ⟨H,I.tok _,by rw[qt r];exact q⟩
  · subst e'
    obtain⟨hz,hS,vs,r,m⟩:kvs.length<=sizeLine/\(p==sysModules)=false/\∃vs,KV kvs vs/\s.heap.DictOf (bW X.prog X.w) p vs:=I.hok p _ hx
    have hlen:kvs.length=vs.length:=Paired.length r
    exact wpAny_truthy_dict hS m (by omega) ⟨H,I.tok _,by rw[vJ r];exact q⟩
 |_=>exact(show False from e).elim
def AG(ha:PE X a ta)(he:∀whole,isTrue a X.env whole=(do let v <-whole;standAt a.pos;holding [v] (truthy v))):
 PT X a (fun σ H Q=>ta σ H fun x H'=>∃k,Gn X.K x H' k/\Q k H'):=by
 intro pins s σ H Q I h
 exact isTrue_plain (thn (ha pins s σ H _ I h) fun v s1 ⟨x,H1,I1,r1,q1⟩=>GO pins s1 σ H1 x v Q I1 r1 q1) (he _)
def wy:OpR X (binaryOp .Add) (fun x y H Q=>∃i j,x= .str i/\y= .str j/\i.length+j.length<=sizeLine/\Q (.str (i++j)) H):=by
 intro pins s σ H x y v u Q I rx ry h
 obtain⟨i,j,rfl,rfl,hz,q⟩:=h
 obtain⟨t,rfl⟩:=rx
 obtain⟨t',rfl⟩:=ry
 exact add_str (fun t' tk=>⟨.str (i++j),H,I.tok _,⟨_,rfl⟩,q⟩) hz
def vals1{x:V}{us:List Value}(r:Vals [x] us):∃u,us=[u]/\RelV x u:=by
 cases r with
 |cons r1 r2=>cases r2;exact⟨_,rfl,r1⟩
def vals2{x y:V}{us:List Value}(r:Vals [x,y] us):∃u w',us=[u,w']/\RelV x u/\RelV y w':=by
 cases r with
 |cons r1 r2=>
  cases r2 with
  |cons r3 r4=>cases r4;exact⟨_,_,rfl,r1,r3⟩
def yw(hc:X.calm=true):fw X (.builtin "max") (fun xs H Q=>∃i j,xs=[.int i,.int j]/\Q (.int (if j > i then j else i)) H):=by
 intro pins s σ H xs us Q I r h
 obtain⟨i,j,rfl,q⟩:=h
 obtain⟨u,w',rfl,⟨t,rfl⟩,⟨t',rfl⟩⟩:=vals2 r
 refine max_two_ints (I.ok.hd hc) fun h' tk k=>⟨_,H,I.kept k,?_,q⟩
 by_cases hj:j > i
 · rw[if_pos hj,if_pos hj];exact⟨_,rfl⟩
 · rw[if_neg hj,if_neg hj];exact⟨_,rfl⟩
def yO:fw X (.type "int") (fun xs H Q=>(∃i,xs=[.int i]/\Q (.int i) H)\/∃k,xs=[.bl k]/\Q (.int (if k then 1 else 0)) H):=by
 intro pins s σ H xs us Q I r h
 rcases h with ⟨i,rfl,q⟩ |⟨k,rfl,q⟩
 · obtain⟨u,rfl,t,rfl⟩:=vals1 r
   exact call_int_int ⟨.int i,H,I,⟨_,rfl⟩,q⟩
 · obtain⟨u,rfl,r1⟩:=vals1 r
   cases r1
   exact call_int_bool ⟨.int (if k then 1 else 0),H,I.tok _,⟨_,rfl⟩,q⟩
def HK(K:PySem.W.Frag)(x:V)(H:Hp)(n:Nat):Prop:=
 match x with
 | .str y=>y.length<=sizeLine/\n=y.length
 | .byt y=>y.size<=sizeLine/\n=y.size
 | .ref p=>(∃xs,SqL K H p xs/\n=xs.length)\/∃xs,SqT K H p xs/\n=xs.length
 |_=>False
def AK:fw X (.builtin "len") (fun xs H Q=>∃x n,xs=[x]/\HK X.K x H n/\Q (.int n) H):=by
 intro pins s σ H xs us Q I r h
 obtain⟨x,n,rfl,e,q⟩:=h
 obtain⟨u,rfl,rx⟩:=vals1 r
 have hl:=pJ
 have hs:sizeLine=16777216:=sizeLine_eq
 cases x with
 |str y=>
  obtain⟨t,rfl⟩:=rx
  obtain⟨hy,e'⟩:y.length<=sizeLine/\n=y.length:=e
  subst e'
  exact len_str (by omega) ⟨.int _,H,I.tok _,⟨_,rfl⟩,q⟩
 |byt y=>
  obtain⟨t,rfl⟩:=rx
  obtain⟨hy,e'⟩:y.size<=sizeLine/\n=y.size:=e
  subst e'
  exact PySem.W.len_bytes (by omega) ⟨.int _,H,I.tok _,⟨_,rfl⟩,q⟩
 |ref p=>
  cases rx
  have e':(∃xs,SqL X.K H p xs/\n=xs.length)\/∃xs,SqT X.K H p xs/\n=xs.length:=e
  rcases e' with ⟨xs,hx,e'⟩ |⟨xs,hx,e'⟩
  · subst e'
    obtain⟨its,r',pl,hz⟩:=I.list hx
    have hlen:=r'.length
    exact Calls.call_len_list pl.isList (by simp only[qW_];omega) ⟨.int xs.length,H,I.tok _,⟨_,by simp only[qW_];rw[hlen]⟩,q⟩
  · subst e'
    obtain⟨its,r',pl,hz⟩:=I.tuple hx
    have hlen:=r'.length
    exact len_tuple pl (by simp only[qW_];omega) ⟨.int xs.length,H,I.tok _,⟨_,by simp only[qW_];rw[hlen]⟩,q⟩
 |_=>exact(show False from e).elim
end
structure vR (h:Heap) (x dx C:Addr) (mA:Str->Option Value):Prop where
 obj:h.get? x=some (PySem.W.instObj C dx)
 ns:h.Ns1 dx mA
 ne:dx≠x
def y6{h:Heap}{dx:Addr}{mA:Str->Option Value}(n:h.Ns1 dx mA):∃od,h.get? dx=some od/\∀name,PySem.W.lookIn name od=some (mA name):=by
 obtain⟨o,es,ep,ho,hd,hk,_,hm⟩:=n
 refine⟨o,ho,fun name=>?_⟩
 have e:=hm name
 unfold nsFind findBy at e
 rw[<-Array.find?_toList]at e
 unfold PySem.W.lookIn
 rw[hd]
 dsimp only
 split
 · rename_i y q
   rw[q]at e
   exact congrArg some e
 · rename_i q
   rw[q]at e
   have a:es.toList.any (·.refKey)=false:=by
    rw[List.any_eq_false]
    intro y hy
    obtain⟨z,t,hkey⟩:=hk y (Array.mem_toList_iff.mp hy)
    simp [DictEntry.refKey,hkey]
   have a':¬es.toList.any (·.refKey)=true:=by rw[a];exact qC_
   rw[if_neg a']
   exact congrArg some e
def vR.look{h:Heap}{x dx C:Addr}{mA:Str->Option Value}(I:vR h x dx C mA):∃od,PySem.W.InstAt h x (PySem.W.instObj C dx) C (some od)/\∀name,PySem.W.lookIn name od=some (mA name):=
 let ⟨od,ho,hl⟩:=y6 I.ns
 ⟨od,⟨I.obj,rfl,rfl,ho⟩,hl⟩
section
variable{prog:Program}{w:World}{A:Around}{E:Value->Shared->Prop}{s:Shared}{K:PySem.W.Frag}{x dx C f:Addr}{mA:Str->Option Value}{name:Str}{v:Value}
def get_map{expr:Bool}{Q:Value->Shared->Prop}(X:K.In s.heap)(I:vR s.heap x dx C mA)(hg:PySem.W.plainGet K C name=true)(hh:PySem.W.hasDictIn K C=true)
 (ha:PySem.W.findIn K (.ref C) name=some none) (hv:mA name=some v) (hv':PySem.W.handedIn v=true) (h:Q v {s with toks:=s.toks+1}):
 wpAny (model prog w) A (getAttr (.ref x) name expr) Q E s:=by
 obtain⟨od,J,hl⟩:=I.look
 exact PySem.W.get_value X J (PySem.W.plainGet_of hg).1 (PySem.W.findObj_own hh ha rfl (by rw[hl,hv])) hv' h
def Bn{pl:Sem Bool}{Q:Value×List Value->Shared->Prop}(X:K.In s.heap)(I:vR s.heap x dx C mA)(hg:PySem.W.plainGet K C name=true)
 (hf:PySem.W.findIn K (.ref C) name=some (some (.ref f))) (ht:PySem.W.isFn K (.ref f)=true) (hv:mA name=none) (h:Q (.ref f,[.ref x]) s):
 wpAny (model prog w) A (getMethod (.ref x) name pl) Q E s:=by
 obtain⟨od,J,hl⟩:=I.look
 exact PySem.W.method_fn X J (PySem.W.plainGet_of hg).1 (PySem.W.plainGet_of hg).2 hf (beq_iff_eq.mp ht) (by show (PySem.W.lookIn name od).map (·.isSome)=some false;rw[hl,hv];rfl) h
def Cg{ns:List Str}{Q:Unit->Shared->Prop}(X:K.In s.heap)(I:vR s.heap x dx C mA)
 (hs:PySem.W.findIn K (.ref C) "__setattr__"=some (some (.builtin "object.__setattr__"))) (hp:PySem.W.plainOver K C=true) (ht:PySem.W.takerIn K C name=some none) (hh:PySem.W.hasDictIn K C=true)
 (hw:PySem.Within mA ns) (hsz:ns.length<=sizeLine)
 (h:∀h',vR h' x dx C (fun y=>if y=name then some v else mA y)->Heap.SameBut dx s.heap h'->Q () {s with heap:=h',toks:=s.toks+2}):
 wpAny (model prog w) A (setAttr (.ref x) name v) Q E s:=by
 obtain⟨od,J,hl⟩:=I.look
 refine PySem.W.set_plain X J hs (PySem.W.osa_open (s:={s with toks:=s.toks+1}) (r:=none) X J hp ht fun b=>?_)
 obtain⟨cd,hc,hd'⟩:=PySem.W.any_some hh
 have hx:s.heap.get? x=some ⟨.ref C,some dx,.plain,#[]⟩:=I.obj
 refine wpAny_bind (wpAny_pure (wpAny_bind (wpAny_bind (wpAny_loadPart hx (wpAny_bind (PySem.W.Looks.here (s:={s with toks:=s.toks+1}) (PySem.W.looks_clsIn X hc) ?_))))))
 rw[hd']
 refine wpAny_pure (a:=some dx) (wpAny_bind (wpAny_pure (wpAny_bind ?_)))
 refine wpAny_nsSet1 (s:={s with toks:=s.toks+1}) I.ns fun h' hn2 hs2=>?_
 obtain⟨oD,esD,epD,hoD,hdD,hcD⟩:=hn2.count (PySem.Within.cons name v hw)
 refine wpAny_bind (wpAny_lookBehind hoD (by rw[hdD];exact pastItsLine_dict (Nat.le_trans hcD (by rw[List.length_cons];omega))) ?_)
 exact wpAny_pure (h _ ⟨(hs2.2 _ (Ne.symm I.ne)).trans I.obj,hn2,I.ne⟩ hs2)
def BP{R:Result->Shared->Prop}{vs:List Value}{kw:List (Str×Value)}(X:K.In s.heap)(hm:PySem.W.makesIn K C=true)
 (hi:PySem.W.findIn K (.ref C) "__init__"=some (some (.ref f))) (hf:PySem.W.typeIn K (.ref f)=some (.type "function"))
 (h:codeAny (model prog w) (A.under (.builtin "type.__call__" ⟨.ref C :: vs,kw⟩)) (.call (.ref f) ⟨.ref (s.heap.objs.size+1) :: vs,kw⟩) (PySem.W.InitBack (s.heap.objs.size+1) R)
   {s with heap:=(s.heap.push PySem.W.emptyDict).push (PySem.W.instObj C s.heap.objs.size)}):
 codeAny (model prog w) A (.call (.ref C) ⟨vs,kw⟩) R s:=by
 obtain⟨hh,g,d,t,os⟩:=s
 exact PySem.W.make_core (PySem.W.makes_of X hm) (PySem.W.looks_findIn X hi) (fun self=>PySem.W.bind_fn X self hf) (.inl rfl) h
end
def iy(f:Str)(v:V):List (Str×V)->List (Str×V)
 | []=>[(f,v)]
 |(g,x) :: r=>if g=f then (g,v) :: r else (g,x) :: iy f v r
theorem nT(f g:Str)(v:V):∀fs:List (Str×V),(iy f v fs).lookup g=if g=f then some v else fs.lookup g
 | []=>by
   show List.lookup g [(f,v)]=_
   by_cases h:g=f
   · have hb:(g==f)=true:=beq_iff_eq.mpr h
     simp only[List.lookup,hb,if_pos h]
   · have hb:(g==f)=false:=beq_eq_false_iff_ne.mpr h
     simp only[List.lookup,hb,if_neg h]
 |(k,x) :: r=>by
  have ih:=nT f g v r
  rw[show iy f v ((k,x) :: r)=(if k=f then (k,v) :: r else (k,x) :: iy f v r)from rfl]
  by_cases hk:k=f
  · rw[if_pos hk]
    by_cases h:g=k
    · have hb:(g==k)=true:=beq_iff_eq.mpr h
      simp only[List.lookup,hb,if_pos (h.trans hk)]
    · have hb:(g==k)=false:=beq_eq_false_iff_ne.mpr h
      simp only[List.lookup,hb,if_neg (fun e:g=f=>h (e.trans hk.symm))]
  · rw[if_neg hk]
    by_cases h:g=k
    · have hb:(g==k)=true:=beq_iff_eq.mpr h
      simp only[List.lookup,hb,if_neg (fun e:g=f=>hk (h.symm.trans e))]
    · have hb:(g==k)=false:=beq_eq_false_iff_ne.mpr h
      simp only[List.lookup,hb]
      exact ih
theorem nu(f:Str)(v:V):∀fs:List (Str×V),f∈(iy f v fs).map (·.1)/\∀g,g∈fs.map (·.1)->g∈(iy f v fs).map (·.1)
 | []=>⟨by simp [iy],fun g h=>by simp at h⟩
 |(k,x) :: r=>by
  obtain⟨i1,i2⟩:=nu f v r
  rw[show iy f v ((k,x) :: r)=(if k=f then (k,v) :: r else (k,x) :: iy f v r)from rfl]
  by_cases hk:k=f
  · rw[if_pos hk]
    subst hk
    exact⟨by simp,fun g h=>by simpa using h⟩
  · rw[if_neg hk]
    refine⟨?_,fun g h=>?_⟩
    · rw[List.map_cons]
      exact qR_ _ i1
    · rw[List.map_cons]at h ⊢
      rcases qS_.mp h with e |e
      · exact qS_.mpr (.inl e)
      · exact qR_ _ (i2 g e)
theorem ol(f:Str)(v:V):∀fs:List (Str×V),(iy f v fs).length<=fs.length+1
 | []=>by simp [iy]
 |(k,x) :: r=>by
  have ih:=ol f v r
  rw[show iy f v ((k,x) :: r)=(if k=f then (k,v) :: r else (k,x) :: iy f v r)from rfl]
  by_cases hk:k=f
  · rw[if_pos hk,List.length_cons,List.length_cons];omega
  · rw[if_neg hk,List.length_cons,List.length_cons];omega
def lC.some_of{v:V}{o:Option Value}(r:lC (some v) o):∃u,o=some u/\RelV v u:=by
 cases o with
 |none=>exact(show False from r).elim
 |some u=>exact⟨u,rfl,r⟩
def lC.none_of{o:Option Value}(r:lC none o):o=none:=by
 cases o with
 |none=>rfl
 |some u=>exact(show False from r).elim
def yi{v:V}{u:Value}(r:RelV v u):PySem.W.handedIn u=true:=by
 cases v with
 |non=>cases (show u=Value.none from r);rfl
 |bl b=>cases (show u=Value.bool b from r);rfl
 |int i=>obtain⟨t,e⟩:=(show ∃t,u=Value.int i t from r);cases e;rfl
 |str x=>obtain⟨t,e⟩:=(show ∃t,u=Value.str x t from r);cases e;rfl
 |byt b=>obtain⟨t,e⟩:=(show ∃t,u=Value.bytes b t from r);cases e;rfl
 |flt b=>obtain⟨t,e⟩:=(show ∃t,u=Value.float b t from r);cases e;rfl
 |ref a=>cases (show u=Value.ref a from r);rfl
 |ty n=>cases (show u=Value.type n from r);rfl
section
variable{P:Program}{w:World}{H H':Hp}{h h':Heap}{a C dx:Addr}{fs fs':List (Str×V)}
def sy(hok:HOk P w H h)(e:H a=some (.ins C dx fs)):∃mA,vR h a dx C mA/\(∀f,lC (fs.lookup f) (mA f))/\PySem.Within mA (fs.map (·.1))/\fs.length<=1000/\H dx=some (.own a):=by
 obtain⟨d,z,ne,ob,mA,n,r,q⟩:=(show bR P w H h a (.ins C dx fs)from hok a _ e)
 exact⟨mA,⟨ob,n,ne⟩,r,q,z,d⟩
end
structure Cls (K:PySem.W.Frag) (C:Addr):Prop where
 pg:PySem.W.plainGet K C Str.empty=true
 hd:PySem.W.hasDictIn K C=true
 po:PySem.W.plainOver K C=true
 sa:PySem.W.findIn K (.ref C) "__setattr__"=some (some (.builtin "object.__setattr__"))
def Cls.get{K:PySem.W.Frag}{C:Addr}(c:Cls K C)(f:Str):PySem.W.plainGet K C f=true:=c.pg
def jg(K:PySem.W.Frag)(C:Addr)(f:Str):Prop:=PySem.W.findIn K (.ref C) f=some none
def jg.IY{K:PySem.W.Frag}{C:Addr}{f:Str}(n:jg K C f):PySem.W.takerIn K C f=some none:=by
 unfold PySem.W.takerIn
 rw[show PySem.W.findIn K (.ref C) f=some none from n]
 rfl
structure Meth (K:PySem.W.Frag) (C:Addr) (m:Str) (f:Addr):Prop where
 at_:PySem.W.findIn K (.ref C) m=some (some (.ref f))
 fn:PySem.W.isFn K (.ref f)=true
 kp:PySem.W.keepIn K (.ref f)=true
section
variable{X:Cx}{pins:List (Addr×Obj)}{σ:St}{H:Hp}{s:Shared}{a C dx:Addr}{fs:List (Str×V)}{f:Str}{v:V}{A:Around}{E:Value->Shared->Prop}
def vL{b:Bool}{Q:Value->Shared->Prop}(I:Inv X pins σ H s)(e:H a=some (.ins C dx fs))(c:Cls X.K C)(n:jg X.K C f)(l:fs.lookup f=some v)
 (h:∀u s',Inv X pins σ H s'->RelV v u->Q u s'):wpAny (model X.prog X.w) A (getAttr (.ref a) f b) Q E s:=by
 obtain⟨mA,O,r,_,_,_⟩:=sy I.hok e
 obtain⟨u,hu,ru⟩:=lC.some_of (v:=v) (o:=mA f) (by rw[<-l];exact r f)
 exact get_map I.kIn O (c.get f) c.hd n hu (yi ru) (h u _ (I.tok _) ru)
def lQ{m:Str}{g:Addr}{pl:Sem Bool}{Q:Value×List Value->Shared->Prop}(I:Inv X pins σ H s)(e:H a=some (.ins C dx fs))(c:Cls X.K C)(k:Meth X.K C m g)(l:fs.lookup m=none)
 (h:Q (.ref g,[.ref a]) s):wpAny (model X.prog X.w) A (getMethod (.ref a) m pl) Q E s:=by
 obtain⟨mA,O,r,_,_,_⟩:=sy I.hok e
 have hn:mA m=none:=lC.none_of (by rw[<-l];exact r m)
 exact Bn I.kIn O (c.get m) k.at_ k.fn hn h
def wM{y:V}{u:Value}{Q:Unit->Shared->Prop}(I:Inv X pins σ H s)(e:H a=some (.ins C dx fs))(c:Cls X.K C)(n:jg X.K C f)(hl:fs.length < 1000)(ry:RelV y u)
 (h:∀s',Inv X pins σ (upd H a (.ins C dx (iy f y fs))) s'->Q () s'):wpAny (model X.prog X.w) A (setAttr (.ref a) f u) Q E s:=by
 obtain⟨mA,O,r,wi,_,ho⟩:=sy I.hok e
 have hz:(fs.map (·.1)).length<=sizeLine:=by rw[qM_,sizeLine_eq];omega
 refine Cg I.kIn O c.sa c.po n.IY c.hd wi hz fun h' O' sb=>h _ ?_
 have hd:∃o,h'.get? dx=some o:=let ⟨o,_,_,e',_⟩:=O'.ns;⟨o,e'⟩
 refine I.write (x:=a) (e:=dx) (by rw[e];exact True.intro) (.inr ho) (fun b q hb z=>(sb.2 b hb).trans z) hd ?_
 refine⟨by rw[aJ O.ne];exact ho,?_,O.ne,O'.obj,_,O'.ns,fun g=>?_,fun g hg=>?_⟩
 · have:=ol f y fs;omega
 · show lC ((iy f y fs).lookup g) (if g=f then some u else mA g)
   rw[nT]
   by_cases q:g=f
   · rw[if_pos q,if_pos q];exact ry
   · rw[if_neg q,if_neg q];exact r g
 · by_cases q:g=f
   · rw[q];exact(nu f y fs).1
   · refine(nu f y fs).2 g (wi g fun z=>hg ?_)
     show (if g=f then some u else mA g)=none
     rw[if_neg q];exact z
def Inv.made(I:Inv X pins σ H s):Inv X pins σ (upd (upd H s.heap.objs.size (.own (s.heap.objs.size+1))) (s.heap.objs.size+1) (.ins C s.heap.objs.size []))
 {s with heap:=(s.heap.push PySem.W.emptyDict).push (PySem.W.instObj C s.heap.objs.size)}:=by
 have e1:(s.heap.push PySem.W.emptyDict).get? s.heap.objs.size=some PySem.W.emptyDict:=Heap.get?_push_size s.heap rfl
 have e2:((s.heap.push PySem.W.emptyDict).push (PySem.W.instObj C s.heap.objs.size)).get? (s.heap.objs.size+1)=some (PySem.W.instObj C s.heap.objs.size):=by
  have:=Heap.get?_push_size (s.heap.push PySem.W.emptyDict) (o:=PySem.W.instObj C s.heap.objs.size) rfl
  rwa [Heap.size_push]at this
 have e3:(s.heap.push PySem.W.emptyDict).Ns s.heap.objs.size (fun _=>none):=⟨PySem.W.emptyDict,#[],_,e1,rfl,(fun e he=>absurd he (by simp)),fun _=>rfl⟩
 have I1:=I.laid (a:=s.heap.objs.size) (o:= .own (s.heap.objs.size+1)) (h':=s.heap.push PySem.W.emptyDict) (t':=s.toks) (fun b u q=>Heap.get?_push_of_some _ q) (qO_ _) ⟨_,e1⟩
 refine I1.laid (a:=s.heap.objs.size+1) (o:= .ins C s.heap.objs.size []) (t':=s.toks) (fun b u q=>Heap.get?_push_of_some _ q) (Nat.le_of_eq (Heap.size_push _ _)) ?_
 have ne:s.heap.objs.size≠s.heap.objs.size+1:=Nat.ne_of_lt (Nat.lt_succ_self _)
 refine⟨by rw[aJ ne,aO],qf_ _,ne,e2,fun _=>none,(Heap.Ns1.of_empty e3).at fun o q=>Heap.get?_push_of_some _ q,fun _=>True.intro,fun y hy=>absurd rfl hy⟩
def B3{prog:Program}{w:World}{env:Env}{e:Expr}{f:Str}{pos:Pos}{s:Shared}{Q:Value->Shared->Prop}(hb:attributeBase e f env (eval e env)=eval e env)
 (h:wpAny (model prog w) A (eval e env) (fun o s₁=>wpAny (model prog w) A (getAttr o f true) Q E s₁) E s):wpAny (model prog w) A (eval (.Attribute e f pos) env) Q E s:=
 Attribute_any_ h (by rw[arm_eval_Attribute,hb])
end
def JA(K:PySem.W.Frag)(ta:TE)(f:Str):TE:=fun σ H Q=>ta σ H fun x H1=>∃a C dx fs v,x= .ref a/\H1 a=some (.ins C dx fs)/\Cls K C/\jg K C f/\fs.lookup f=some v/\Q v H1
def JX(K:PySem.W.Frag)(ta tv:TE)(f:Str):TS:=fun D σ H=>tv σ H fun y H1=>ta σ H1 fun x H2=>∃a C dx fs,x= .ref a/\H2 a=some (.ins C dx fs)/\Cls K C/\jg K C f/\fs.length < 1000/\
 D.nx σ (upd H2 a (.ins C dx (iy f y fs)))
section
variable{X:Cx}{o e value:Expr}{f:Str}{pos pos' tpos:Pos}{ta tv:TE}
def Ha(he:PE X e ta)(hb:attributeBase e f X.env (eval e X.env)=eval e X.env):PE X (.Attribute e f pos) (JA X.K ta f):=by
 intro pins s σ H Q I h
 refine B3 hb (thn (he pins s σ H _ I h) fun u s1 ⟨x,H1,I1,rx,a,C,dx,fs,v,ex,ea,c,n,l,q⟩=>?_)
 subst ex
 obtain rfl:u=Value.ref a:=rx
 exact vL I1 ea c n l fun u' s2 I2 ru=>⟨v,H1,I2,ru,q⟩
def GI(ha:PE X o ta)(hv:PE X value tv)(hs:swapsWith value (some (.Attribute o f pos')) pos.line X.env=pure false):PS X (.Assign [.Attribute o f pos'] value pos) (JX X.K ta tv f):=by
 intro pins s σ H D I h
 refine plainObj_wpAny_Assign_Attribute (thn (hv pins s σ H _ I h) fun u s1 ⟨y,H1,I1,ry,q⟩=>thn (ha pins s1 σ H1 _ I1 q) fun ov s2 ⟨x,H2,I2,rx,a,C,dx,fs,ex,ea,c,n,l,q2⟩=>?_) hs
 subst ex
 obtain rfl:ov=Value.ref a:=rx
 exact wM I2 ea c n l ry fun s3 I3=>⟨σ,_,I3,q2⟩
end
structure dC (k:Nat) (A:Around):Prop where
 hd:A.handled=none
 dp:A.depth+3*k+5 < recursionLimit
 un:A.units+16*k+200 < cLine
def dC.mono{j k:Nat}{A:Around}(r:dC k A)(h:j<=k):dC j A:=⟨r.hd,by have:=r.dp;omega,by have:=r.un;omega⟩
theorem dC.deeper{k:Nat}{A:Around}(r:dC (k+1) A)(env:Env):dC k (A.deeper env):=
 ⟨r.hd,by have:=r.dp;show A.depth+1+3*k+5 < _;omega,by have:=r.un;show A.units+3+16*k+200 < _;omega⟩
def wI{A:Around}{C:Addr}{us:List Value}{kw:List (Str×Value)}:(A.under (.builtin "type.__call__" ⟨.ref C :: us,kw⟩)).depth=A.depth+1:=by
 first |rfl |simp [Around.under,Code.weight,Code.isCreation,Code.isGuard,Code.isCaller,Code.frames,Code.isFrame,guardIds]
def xb{A:Around}{C:Addr}{us:List Value}{kw:List (Str×Value)}:(A.under (.builtin "type.__call__" ⟨.ref C :: us,kw⟩)).units=A.units+1:=by
 first |rfl |simp [Around.under,Code.cUnits,Code.frames,Code.isFrame]
def dC.make{k:Nat}{A:Around}(r:dC (k+1) A)(C:Addr)(us:List Value)(kw:List (Str×Value)):dC k (A.under (.builtin "type.__call__" ⟨.ref C :: us,kw⟩)):=
 ⟨r.hd,by have:=r.dp;rw[wI];omega,by have:=r.un;rw[xb];omega⟩
theorem dC.depth{k:Nat}{A:Around}(r:dC k A):A.depth < recursionLimit:=by have:=r.dp;omega
theorem dC.units{k:Nat}{A:Around}(r:dC k A):A.units+64 < cLine:=by have:=r.un;omega
def Gp:TA:=fun _ H Q=>Q [] H
def HF(ta:TE)(tr:TA):TA:=fun σ H Q=>ta σ H fun x H1=>tr σ H1 fun xs H2=>Q (x :: xs) H2
section
variable{X:Cx}{e:Expr}{es:List Expr}{te:TE}{t:TA}{pos:Pos}
def jA:PA X [] Gp:=fun _ _ _ _ H Q I h=>Calls.spliced_nil ⟨[],H,I,.nil,h⟩
def dU(ha:PE X e te)(hr:PA X es t)(hs:starEach (e :: es) X.env=(false,eval e X.env) :: starEach es X.env:=by rfl):PA X (e :: es) (HF te t):=by
 intro pos pins s σ H Q I h
 rw[hs]
 show wpAny _ _ (spliced ((false,eval e X.env) :: backTo pos (starEach es X.env))) _ _ s
 refine Calls.spliced_cons (thn (ha pins s σ H _ I h) fun u s1 ⟨x,H1,I1,r1,q1⟩=>?_)
 exact thn (hr pos pins s1 σ H1 _ I1 q1) fun us s2 ⟨xs,H2,I2,r2,q2⟩=>⟨x :: xs,H2,I2,.cons r1 r2,q2⟩
def JG(t:TA):TE:=fun σ H Q=>t σ H fun xs H1=>xs.length<=sizeLine/\∀p,H1 p=none->Q (.ref p) (upd H1 p (.tup xs))
def Jz(t:TA):TE:=fun σ H Q=>t σ H fun xs H1=>xs.length<=sizeLine/\∀p,H1 p=none->Q (.ref p) (upd H1 p (.lst xs))
def Ak{x1}(h:PA X es t):PE X (.Tuple es x1 pos) (JG t):=by
 intro pins s σ H Q I hq
 refine wpAny_Tuple_spliced (thn (h pos pins s σ H _ I hq) fun us s1 ⟨xs,H1,I1,r,z,q⟩=>⟨by rw[<-r.length];exact z,?_⟩)
 have hf:H1 s1.heap.objs.size=none:=I1.hok.fresh (qO_ _)
 refine⟨.ref s1.heap.objs.size,upd H1 s1.heap.objs.size (.tup xs),I1.laid (t':=s1.toks) (fun b u e=>Heap.get?_push_of_some _ e) (qO_ _) ?_,rfl,q _ hf⟩
 exact⟨z,us,r,⟨_,Heap.get?_push_size _ rfl,rfl,_,rfl⟩⟩
def Fp(h:PA X es t):PE X (.List es pos) (Jz t):=by
 intro pins s σ H Q I hq
 refine wpAny_List_spliced (thn (h pos pins s σ H _ I hq) fun us s1 ⟨xs,H1,I1,r,z,q⟩=>⟨by rw[<-r.length];exact z,?_⟩)
 have hf:H1 s1.heap.objs.size=none:=I1.hok.fresh (qO_ _)
 refine⟨.ref s1.heap.objs.size,upd H1 s1.heap.objs.size (.lst xs),I1.laid (t':=s1.toks) (fun b u e=>Heap.get?_push_of_some _ e) (qO_ _) ?_,rfl,q _ hf⟩
 exact⟨z,us,0,r,Heap.get?_push_size _ rfl⟩
end
abbrev Sp:=List V->Hp->VK->XK->Prop
abbrev CXT:=List Env->Hp->Shared->XK->Value->Shared->Prop
structure vN (P:Program) (w:World) (K:PySem.W.Frag) (mg:Str->Option Value) (base:Heap) (A:Around) (outer:List Env) (s:Shared) (H:Hp):Prop where
 frames:A.frames=some outer
 mod:Mod K mg base
 bs:∀b o,base.get? b=some o->s.heap.get? b=some o/\H b=none
 bsz:base.objs.size<=s.heap.objs.size
 mD:s.heap.FunFrames base outer
 frf:∀b∈frs outer,H b=none
 hok:HOk P w H s.heap
 bare:AllBare s.gens
def CE(outer:List Env)(P:Program)(w:World)(H:Hp)(s:Shared)(Q:VK)(u:Value)(s':Shared):Prop:=
 ∃v H',s'.os=s.os/\AllBare s'.gens/\Un (frs outer) [] H H' s.heap s'.heap/\HOk P w H' s'.heap/\RelV v u/\Q v H'
def CR(CX:CXT)(outer:List Env)(P:Program)(w:World)(H:Hp)(s:Shared)(Q:VK)(E:XK)(r:Result)(s':Shared):Prop:=
 match r with
 | .ok (.ret u)=>CE outer P w H s Q u s'
 | .ok _=>False
 | .error e=>CX outer H s E e s'
structure aQ (P:Program) (w:World) (K:PySem.W.Frag) (mg:Str->Option Value) (base:Heap) (CX:CXT) (k:Nat) (f:Addr) (fd:FuncData) (ps:List Str) (sp:Sp):Prop where
 len:∀vs H Q E,sp vs H Q E->vs.length=ps.length
 run:∀(A:Around) (outer:List Env) (s:Shared) (H:Hp) (args:Args) (us:List Value) (vs:List V) (Q:VK) (E:XK),dC k A->vN P w K mg base A outer s H->BindsTo s fd args (ps.zip us)->Vals vs us->sp vs H Q E->
  codeAny (model P w) A (.call (.ref f) args) (CR CX outer P w H s Q E) s
def aQ.imp{P:Program}{w:World}{K:PySem.W.Frag}{mg:Str->Option Value}{base:Heap}{CX:CXT}{k:Nat}{f:Addr}{fd:FuncData}{ps:List Str}{sp sp':Sp}(F:aQ P w K mg base CX k f fd ps sp)
 (h:∀vs H Q E,sp' vs H Q E->sp vs H Q E):aQ P w K mg base CX k f fd ps sp':=
 ⟨fun vs H Q E q=>F.len vs H Q E (h _ _ _ _ q),fun A outer s H args us vs Q E hr he hb hv hs=>F.run A outer s H args us vs Q E hr he hb hv (h _ _ _ _ hs)⟩
def vN.make{P:Program}{w:World}{K:PySem.W.Frag}{mg:Str->Option Value}{base:Heap}{A:Around}{outer:List Env}{s:Shared}{H:Hp}(e:vN P w K mg base A outer s H)(C:Addr)(us:List Value)(kw:List (Str×Value)):
 vN P w K mg base (A.under (.builtin "type.__call__" ⟨.ref C :: us,kw⟩)) outer s H:=⟨by first |exact e.frames |(simpa [Around.under,Code.envs,Code.isFrame,pushEnvs] using e.frames),e.mod,e.bs,e.bsz,e.mD,e.frf,e.hok,e.bare⟩
section
variable{X:Cx}{pins:List (Addr×Obj)}{σ:St}{H:Hp}{s s':Shared}
def Inv.FA(I:Inv X pins σ H s):vN X.prog X.w X.K X.mg X.base X.A X.stack s H:=
 ⟨I.ok.frames,I.ok.mod,I.bs,Nat.le_trans I.ok.bsz I.sz,I.stack,I.oF,I.hok,I.bare⟩
def Inv.after{Q:VK}{u:Value}(I:Inv X pins σ H s)(h:CE X.stack X.prog X.w H s Q u s'):EP X pins σ Q u s':=by
 obtain⟨v,H',os,bare,un,hok,r,q⟩:=h
 obtain⟨hh,g,d,t,os'⟩:=s'
 obtain rfl:os'=s.os:=os
 exact⟨v,H',I.call (h':=hh) (g':=g) (d':=d) (t':=t) (ch:=[]) un hok bare (fun b z=>absurd z (by simp)),r,q⟩
end
def IZ(sp:Sp)(dvs:List V)(E:XK)(t:TA):TE:=fun σ H Q=>t σ H fun vs H1=>sp (vs++dvs) H1 Q E
def BL(C:Addr)(m:Str)(sp:Sp)(dvs:List V)(E:XK)(ta:TE)(t:TA):TE:=fun σ H Q=>ta σ H fun x H1=>∃a dx fs,x= .ref a/\H1 a=some (.ins C dx fs)/\fs.lookup m=none/\
 t σ H1 fun vs H2=>sp (x :: (vs++dvs)) H2 Q E
def Eb(C:Addr)(sp:Sp)(dvs:List V)(E:XK)(t:TA):TE:=fun σ H Q=>t σ H fun vs H1=>∀x dx,H1 x=none->H1 dx=none->dx≠x->
 sp (.ref x :: (vs++dvs)) (upd (upd H1 dx (.own x)) x (.ins C dx [])) (fun v H2=>v= .non/\Q (.ref x) H2) E
def Binds(K:PySem.W.Frag)(fd:FuncData)(ps:List Str)(ds:List Value):Prop:=
 ∀(s:Shared) (us:List Value),K.In s.heap->(us++ds).length=ps.length->BindsTo s fd ⟨us,[]⟩ (ps.zip (us++ds))
def Binds.all{K:PySem.W.Frag}{fd:FuncData}{ps:List Str}(h:∀us:List Value,us.length=ps.length->bindArgs fd ⟨us,[]⟩=pure (ps.zip us)):Binds K fd ps []:=fun s us _ hl=>by
 rw[qY_]at hl ⊢
 exact .of_eq (h us hl)
def fm(CX:CXT)(X:Cx)(E:XK):Prop:=∀(pins:List (Addr×Obj)) (σ:St) (H:Hp) (s:Shared) (e:Value) (s':Shared),Inv X pins σ H s->CX X.stack H s E e s'->X.xe e s'
section
variable{X:Cx}{CX:CXT}{k:Nat}{f C:Addr}{fd:FuncData}{ps:List Str}{sp:Sp}{dvs:List V}{ds:List Value}{E:XK}{x m:Str}{p pos apos:Pos}{e o:Expr}{es:List Expr}{ta:TE}{t:TA}
def wK{pins:List (Addr×Obj)}{σ:St}{H:Hp}{s:Shared}{Q:VK}{us:List Value}{vs:List V}(F:aQ X.prog X.w X.K X.mg X.base CX k f fd ps sp)(hr:dC k X.A)(hb:Binds X.K fd ps ds)(hd:Vals dvs ds)(hx:fm CX X E)
 (I:Inv X pins σ H s) (r:Vals vs us) (h:sp (vs++dvs) H Q E):wpAny (model X.prog X.w) X.A (call (.ref f) us) (EP X pins σ Q) X.xe s:=by
 have r2:Vals (vs++dvs) (us++ds):=r.append hd
 have hl:(us++ds).length=ps.length:=by rw[<-r2.length];exact F.len _ _ _ _ h
 refine wpAny_call (codeAny_mono (F.run X.A X.stack s H ⟨us,[]⟩ (us++ds) (vs++dvs) Q E hr I.FA (hb s us I.kIn hl) r2 h) fun r s' hq=>?_)
 cases r with
 |error e=>exact hx pins σ H s e s' I hq
 |ok fl=>
  cases fl with
  |ret u=>exact I.after hq
  |next=>exact False.elim hq
  |brk=>exact False.elim hq
  |cont=>exact False.elim hq
def DU(F:aQ X.prog X.w X.K X.mg X.base CX k f fd ps sp)(hr:dC k X.A)(hg:Gl X x)(hm:X.mg x=some (.ref f))(hk:PySem.W.keepIn X.K (.ref f)=true)(hb:Binds X.K fd ps ds)(hd:Vals dvs ds)(hx:fm CX X E)
 (ha:PA X (e :: es) t) (hdb:(x==("__debug__":Str))=false:=by decide) (he:starEach (e :: es) X.env=(false,eval e X.env) :: starEach es X.env:=by rfl) (hpl:(backTo pos (starEach es X.env)).any (·.1)=false:=by rfl):
 PE X (.Call (.Name x p) (e :: es) [] pos) (IZ sp dvs E t):=by
 intro pins s σ H Q I h
 refine wpAny_Call_Name_kw (kJ I hg hm ?_ hdb)
 refine PySem.W.callWith_K (h₀:=X.base) I.ok.mod.kin hk (thn (ha pos pins s σ H _ I h) fun us s1 ⟨vs,H1,I1,r,q⟩=>⟨I1.kIn,?_⟩) he hpl
 exact wK F hr hb hd hx I1 r q
def CB{pl:Sem Bool}(he:PE X o ta)(c:Cls X.K C)(hm:Meth X.K C m f)(F:aQ X.prog X.w X.K X.mg X.base CX k f fd ps sp)(hr:dC k X.A)(hb:Binds X.K fd ps ds)(hd:Vals dvs ds)(hx:fm CX X E)(ha:PA X (e :: es) t)
 (hst:starEach (e :: es) X.env=(false,eval e X.env) :: starEach es X.env:=by rfl) (hpl:(backTo pos (starEach es X.env)).any (·.1)=false:=by rfl)
 (ht:eval (.Call (.Attribute o m apos) (e :: es) [] pos) X.env=(do
   let ov <-eval o X.env
   standAt apos.atName
   let (f,first) <-holding [ov] (getMethod ov m pl)
   callWith pos f first (backTo pos (starEach (e :: es) X.env)) (backToKw pos (keywordEach [] X.env))):=by rfl):
 PE X (.Call (.Attribute o m apos) (e :: es) [] pos) (BL C m sp dvs E ta t):=by
 intro pins s σ H Q I h
 refine PySem.W.methodCall_KW (pl:=pl) (thn (he pins s σ H _ I h) fun u s1 ⟨x,H1,I1,rx,a,dx,fs,ex,ea,l,q⟩=>?_) ht
 subst ex
 obtain rfl:u=Value.ref a:=rx
 refine lQ I1 ea c hm l ?_
 refine PySem.W.callWith_K (first:=[.ref a]) (h₀:=X.base) I.ok.mod.kin hm.kp (thn (ha pos pins s1 σ H1 _ I1 q) fun us s2 ⟨vs,H2,I2,r,q2⟩=>⟨I2.kIn,?_⟩) hst hpl
 exact wK (us:= .ref a :: us) (vs:= .ref a :: vs) F hr hb hd hx I2 (.cons rfl r) q2
def BW{pl:Sem Bool}(he:PE X o ta)(c:Cls X.K C)(hm:Meth X.K C m f)(F:aQ X.prog X.w X.K X.mg X.base CX k f fd ps sp)(hr:dC k X.A)(hb:Binds X.K fd ps ds)(hd:Vals dvs ds)(hx:fm CX X E)
 (ht:eval (.Call (.Attribute o m apos) [] [] pos) X.env=(do
   let ov <-eval o X.env
   standAt apos.atName
   let (f,first) <-holding [ov] (getMethod ov m pl)
   callWith pos f first (backTo pos (starEach [] X.env)) (backToKw pos (keywordEach [] X.env))):=by rfl):
 PE X (.Call (.Attribute o m apos) [] [] pos) (BL C m sp dvs E ta Gp):=by
 intro pins s σ H Q I h
 refine PySem.W.methodCall_KW (pl:=pl) (thn (he pins s σ H _ I h) fun u s1 ⟨x,H1,I1,rx,a,dx,fs,ex,ea,l,q⟩=>?_) ht
 subst ex
 obtain rfl:u=Value.ref a:=rx
 refine lQ I1 ea c hm l ?_
 exact PySem.W.callWith_K0 (first:=[.ref a]) I1.kIn hm.kp (wK (us:=[.ref a]) (vs:=[.ref a]) F hr hb hd hx I1 (.cons rfl .nil) q)
structure Mk (K:PySem.W.Frag) (C f:Addr):Prop where
 makes:PySem.W.makesIn K C=true
 init:PySem.W.findIn K (.ref C) "__init__"=some (some (.ref f))
 fn:PySem.W.isFn K (.ref f)=true
 kp:PySem.W.keepIn K (.ref C)=true
def uO{pins:List (Addr×Obj)}{σ:St}{H:Hp}{s:Shared}{Q:VK}{us:List Value}{vs:List V}(M:Mk X.K C f)(F:aQ X.prog X.w X.K X.mg X.base CX k f fd ps sp)(hr:dC (k+1) X.A)(hb:Binds X.K fd ps ds)(hd:Vals dvs ds)
 (hx:fm CX X E) (I:Inv X pins σ H s) (r:Vals vs us)
 (h:∀x dx,H x=none->H dx=none->dx≠x->sp (.ref x :: (vs++dvs)) (upd (upd H dx (.own x)) x (.ins C dx [])) (fun v H2=>v= .non/\Q (.ref x) H2) E):
 wpAny (model X.prog X.w) X.A (call (.ref C) us) (EP X pins σ Q) X.xe s:=by
 have hq:=h (s.heap.objs.size+1) s.heap.objs.size (I.hok.fresh (Nat.le_succ _)) (I.hok.fresh (qO_ _)) (Nat.ne_of_lt (Nat.lt_succ_self _))
 have I2:=Inv.made (C:=C) I
 have r2:Vals (V.ref (s.heap.objs.size+1) :: (vs++dvs)) (Value.ref (s.heap.objs.size+1) :: (us++ds)):= .cons rfl (r.append hd)
 have hl:(Value.ref (s.heap.objs.size+1) :: us++ds).length=ps.length:=by
  have e:=r2.length
  rw[F.len _ _ _ _ hq]at e
  exact e.symm
 refine wpAny_call (BP (f:=f) I.kIn M.makes M.init (beq_iff_eq.mp M.fn) (codeAny_mono (F.run _ X.stack _ _ ⟨Value.ref (s.heap.objs.size+1) :: us,[]⟩ (Value.ref (s.heap.objs.size+1) :: (us++ds)) _ _ E (hr.make C us [])
  (I2.FA.make C us []) (hb _ (Value.ref (s.heap.objs.size+1) :: us) I2.kIn hl) r2 hq) fun r s' hq'=>?_))
 cases r with
 |error e=>exact hx pins σ _ _ e s' I2 hq'
 |ok fl=>
  cases fl with
  |ret u=>
   obtain⟨v,H',I3,rv,ev,q3⟩:=I2.after hq'
   subst ev
   exact⟨rv,⟨V.ref (s.heap.objs.size+1),H',I3,rfl,q3⟩⟩
  |next=>exact False.elim hq'
  |brk=>exact False.elim hq'
  |cont=>exact False.elim hq'
def CW(M:Mk X.K C f)(F:aQ X.prog X.w X.K X.mg X.base CX k f fd ps sp)(hr:dC (k+1) X.A)(hg:Gl X x)(hm:X.mg x=some (.ref C))(hb:Binds X.K fd ps ds)(hd:Vals dvs ds)(hx:fm CX X E)
 (ha:PA X (e :: es) t) (hdb:(x==("__debug__":Str))=false:=by decide) (he:starEach (e :: es) X.env=(false,eval e X.env) :: starEach es X.env:=by rfl) (hpl:(backTo pos (starEach es X.env)).any (·.1)=false:=by rfl):
 PE X (.Call (.Name x p) (e :: es) [] pos) (Eb C sp dvs E t):=by
 intro pins s σ H Q I h
 refine wpAny_Call_Name_kw (kJ I hg hm ?_ hdb)
 refine PySem.W.callWith_K (h₀:=X.base) I.ok.mod.kin M.kp (thn (ha pos pins s σ H _ I h) fun us s1 ⟨vs,H1,I1,r,q⟩=>⟨I1.kIn,?_⟩) he hpl
 exact uO M F hr hb hd hx I1 r q
def zE(M:Mk X.K C f)(F:aQ X.prog X.w X.K X.mg X.base CX k f fd ps sp)(hr:dC (k+1) X.A)(hg:Gl X x)(hm:X.mg x=some (.ref C))(hb:Binds X.K fd ps ds)(hd:Vals dvs ds)(hx:fm CX X E)
 (hdb:(x==("__debug__":Str))=false:=by decide):PE X (.Call (.Name x p) [] [] pos) (Eb C sp dvs E Gp):=by
 intro pins s σ H Q I h
 refine wpAny_Call_Name_kw (kJ I hg hm ?_ hdb)
 exact PySem.W.callWith_K0 I.kIn M.kp (uO (us:=[]) M F hr hb hd hx I .nil h)
end
structure aq (N P:List Str) (sc:Scope):Prop where
 kind:sc.kind= .function
 co:sc.isCoroutine=false
 gen:sc.isGenerator=false
 nd:N.Nodup
 pre:N.take P.length=P
 par:∀x∈P,sc.names.lookup x=some .local\/sc.names.lookup x=some .cell
 FZ:∀y∈sc.names,y.2≠.free
theorem qY{kindOf:Str->Option NameKind}{x:Str}:∀{binds:List (Str×Value)} {m:Str->Option Value},(∀v,(x,v)∉binds)->bindL kindOf binds m x=m x
 | [],_,_=>rfl
 |(n,v) :: r,m,h=>by
  unfold bindL
  rw[qY fun w hw=>h w (qR_ _ hw)]
  split
  · have:x≠n:=by rintro rfl;exact h v qI_
    simp [this]
  · rfl
theorem rh{kindOf:Str->Option NameKind}{x:Str}:∀{binds:List (Str×Value)} {m:Str->Option Value},(∀v,(x,v)∉binds)->bindC kindOf binds m x=m x
 | [],_,_=>rfl
 |(n,v) :: r,m,h=>by
  unfold bindC
  rw[rh fun w hw=>h w (qR_ _ hw)]
  split
  · rfl
  · have:x≠n:=by rintro rfl;exact h v qI_
    simp [this]
theorem qU{kindOf:Str->Option NameKind}{x:Str}{v:Value}:∀{P:List Str} {vs:List Value} {i:Nat} {m:Str->Option Value},P.Nodup->P[i]? =some x->vs[i]? =some v->kindOf x=some .local->
 bindL kindOf (P.zip vs) m x=some v
 | [],_,_,_,_,h,_,_=>by simp at h
 |_ :: _,[],_,_,_,_,h,_=>by simp at h
 |p :: P,w :: vs,0,m,nd,h1,h2,hk=>by
  simp at h1 h2;subst h1;subst h2
  show bindL kindOf ((p,w) :: P.zip vs) m p=_
  unfold bindL
  rw[qY fun v hv=>(List.nodup_cons.mp nd).1 (List.of_mem_zip hv).1,if_pos hk]
  simp
 |p :: P,w :: vs,i+1,m,nd,h1,h2,hk=>by
  show bindL kindOf ((p,w) :: P.zip vs) m x=_
  unfold bindL
  exact qU (i:=i) (List.nodup_cons.mp nd).2 (by simpa using h1) (by simpa using h2) hk
theorem rG{kindOf:Str->Option NameKind}{x:Str}{v:Value}:∀{P:List Str} {vs:List Value} {i:Nat} {m:Str->Option Value},P.Nodup->P[i]? =some x->vs[i]? =some v->kindOf x≠some .local->
 bindC kindOf (P.zip vs) m x=some v
 | [],_,_,_,_,h,_,_=>by simp at h
 |_ :: _,[],_,_,_,_,h,_=>by simp at h
 |p :: P,w :: vs,0,m,nd,h1,h2,hk=>by
  simp at h1 h2;subst h1;subst h2
  show bindC kindOf ((p,w) :: P.zip vs) m p=_
  unfold bindC
  rw[rh fun v hv=>(List.nodup_cons.mp nd).1 (List.of_mem_zip hv).1,if_neg hk]
  simp
 |p :: P,w :: vs,i+1,m,nd,h1,h2,hk=>by
  show bindC kindOf ((p,w) :: P.zip vs) m x=_
  unfold bindC
  exact rG (i:=i) (List.nodup_cons.mp nd).2 (by simpa using h1) (by simpa using h2) hk
def start(N:List Str)(vs:List V):St:=vs.map some++List.replicate (N.length - vs.length) none
def lA(CX:CXT)(P:Program)(w:World)(K:PySem.W.Frag)(mg:Str->Option Value)(base:Heap)(N:List Str)(qual:Str)(scope:Scope)(f:Addr)(cd:Value)(A:Around)(outer:List Env)(s:Shared)(H:Hp)(E:XK):Cx where
 prog:=P
 w:=w
 K:=K
 mg:=mg
 base:=base
 A:=A.deeper (envOfC qual scope s.heap.objs.size f cd)
 N:=N
 s₀:=s
 H₀:=H
 env:=envOfC qual scope s.heap.objs.size f cd
 outer:=outer
 stack:=envOfC qual scope s.heap.objs.size f cd :: outer
 ex:=[]
 calm:=true
 fn:=fun _=>true
 pn:=[]
 xe:=fun e s'=>wpAny (model P w) (A.deeper (envOfC qual scope s.heap.objs.size f cd)) (leaving (envOfC qual scope s.heap.objs.size f cd) e) (fun _ s''=>CX outer H s E e s'') (fun e' s''=>CX outer H s E e' s'') s'
def vD{sc:Scope}{n:Nat}{x:Str}(h:sc.names.lookup x=some .cell):∃c,(cellsFrom n sc.names []).lookup x=some c:=by
 have q:=PySem.W.cellsFrom_some sc.names n [] (.inl h)
 exact Option.isSome_iff_exists.mp q
def y8{CX:CXT}{P:Program}{w:World}{K:PySem.W.Frag}{mg:Str->Option Value}{base:Heap}{N ps:List Str}{qual:Str}{scope:Scope}{f:Addr}{cd:Value}{A:Around}{outer:List Env}{s s1:Shared}{H:Hp}{E:XK}{us:List Value}{vs:List V}
 (S:aq N ps scope) (hd:A.handled=none) (e0:vN P w K mg base A outer s H) (hl:vs.length=ps.length) (r:Vals vs us)
 (x:InCallC s s.heap.objs.size (bindL (envOfC qual scope s.heap.objs.size f cd).kindOf (ps.zip us) fun _=>none) (cellsFrom (s.heap.objs.size+1) scope.names []) (bindC (envOfC qual scope s.heap.objs.size f cd).kindOf (ps.zip us) fun _=>none) s1):
 Inv (lA CX P w K mg base N qual scope f cd A outer s H E) [] (start N vs) H s1:=by
 have hpl:ps.length<=N.length:=by have:=congrArg List.length S.pre;rw[List.length_take]at this;omega
 obtain⟨h1,tk,rfl,hk⟩:=x.done
 have noA:∀b:Addr,b∉(lA CX P w K mg base N qual scope f cd A outer s H E).ex:=fun b z=>absurd (show b∈([]:List Addr)from z) (by simp)
 refine⟨⟨e0.mod,S.kind,rfl,rfl,qO_ _,fun y z c h1 h2=>?_,fun y hy=>?_,fun y c _ h=>?_,fun _=>hd,Around.frames_deeper e0.frames,.inr ⟨rfl,rfl⟩,fun b z=>absurd z (noA b),e0.bs,e0.bsz,fun b _ _=>noA b,fun b z=>absurd z (noA b),e0.mD,e0.frf⟩,
  rfl,e0.bare,Un.kept hk,⟨_,x.toInCall.ns,fun i y v h1 h2 h3=>?_⟩,fun y c h=>⟨_,x.cell y c h⟩,e0.hok.fresh (qO_ _),fun y c h=>?_,fun p hp=>absurd (show p∈([]:List (Addr×Obj))from hp) (by simp),e0.hok.kept hk,?_⟩
 · exact name_of_addr x.apart (PySem.mem_of_lookup h1) (PySem.mem_of_lookup h2)
 · have hy:scope.names.lookup y=some .cell\/scope.names.lookup y=some .free:=hy
   rcases hy with hy |hy
   · exact vD hy
   · exact absurd rfl (S.FZ _ (PySem.mem_of_lookup hy))
 · exact Nat.le_of_lt (x.above y c (PySem.mem_of_lookup h))
 · have hi:i < vs.length:=by
    unfold start at h2
    by_cases hi:i < vs.length
    · exact hi
    · rw[qL_ (by simpa using hi)]at h2
      rw[List.getElem?_replicate]at h2
      split at h2 <;> cases h2
   have ha:vs[i]? =some v:=by
    unfold start at h2
    rw[qK_ (by simpa using hi),qQ_]at h2
    cases e:vs[i]? with
    |none=>rw[e]at h2;cases h2
    |some a=>rw[e]at h2;cases h2;rfl
   obtain⟨u,hu,rv⟩:=r.get ha
   have hp:ps[i]? =some y:=by
    rw[<-S.pre,List.getElem?_take_of_lt (by omega)];exact h1
   have ndP:ps.Nodup:=by rw[<-S.pre];exact S.nd.sublist (List.take_sublist _ _)
   refine⟨u,rv,?_⟩
   rcases S.par y (qD_ hp)with k |k
   · exact .inl ⟨k,qU ndP hp hu k⟩
   · obtain⟨c,e⟩:=vD (n:=s.heap.objs.size+1) k
     refine .inr ⟨.inl k,c,e,?_⟩
     have q:=x.cell y c e
     rw[rG ndP hp hu (by show scope.names.lookup y≠_;rw[k];decide)]at q
     exact q
 · exact e0.hok.fresh (Nat.le_of_lt (x.above y c (PySem.mem_of_lookup h)))
 · unfold start
   show _=N.length
   rw[qN_,qM_,List.length_replicate]
   omega
def Ep{CX:CXT}{P:Program}{w:World}{K:PySem.W.Frag}{mg:Str->Option Value}{base:Heap}{k:Nat}{f:Addr}{name qual:Str}{params:Arguments}{body:List Stmt}{scope:Scope}{dV kV doc pm cdv ct oc:Value}{an od:Option Addr}
 {osl:Array (Option Value)} {N ps:List Str} {sp:Sp} (lk:K.lookup f=some ⟨oc,od,.func (PySem.W.fnOf name qual params body scope dV kV doc pm an cdv ct),osl⟩) (hcd:PySem.W.codeIn K cdv qual=true) (S:aq N ps scope)
 (len:∀vs H Q E,sp vs H Q E->vs.length=ps.length)
 (hbody:∀(A:Around) (outer:List Env) (s:Shared) (H:Hp) (vs:List V) (Q:VK) (E:XK),dC k (A.deeper (envOfC qual scope s.heap.objs.size f cdv))->sp vs H Q E->
   ∃t,PSs (lA CX P w K mg base N qual scope f cdv A outer s H E) body t/\t {nx:=fun _ H'=>Q .non H',rt:=Q} (start N vs) H):
 aQ P w K mg base CX (k+1) f (PySem.W.fnOf name qual params body scope dV kV doc pm an cdv ct) ps sp:=by
 refine⟨len,fun A outer s H args us vs Q E hr e0 hb r hsp=>?_⟩
 have hl:=len _ _ _ _ hsp
 have KX:K.In s.heap:=e0.mod.kin.keeps fun b o e=>(e0.bs b o e).1
 have lim:s.heap.NoLimit:=e0.mod.nolimit.keeps fun b o e=>(e0.bs b o e).1
 have hkind:∀y∈ps.zip us,scope.names.lookup y.1=some .local\/(scope.names.lookup y.1=some .cell/\((cellsFrom (s.heap.objs.size+1) scope.names []).lookup y.1).isSome=true):=fun⟨n,v⟩ hy=>by
  rcases S.par n (List.of_mem_zip hy).1 with q |q
  · exact .inl q
  · exact .inr ⟨q,PySem.W.cellsFrom_some _ _ _ (.inl q)⟩
 refine codeAny_call_function hr.depth (KX _ _ lk) rfl S.co S.gen rfl (PySem.W.codeRec_of KX hcd) (hb _ _ _ _ ?_)
 refine wpAny_newFunctionEnv_cells S.kind hkind fun env he s1 x=>?_
 subst he
 refine⟨lim.keeps x.toInCall.keep,codeAny_func ?_⟩
 obtain⟨t,ht,hq⟩:=hbody A outer s H vs Q E (hr.deeper _) hsp
 have I:Inv (lA CX P w K mg base N qual scope f cdv A outer s H E) [] (start N vs) H s1:=y8 S hr.hd e0 hl r x
 refine wpAny_mono (ht [] s1 (start N vs) H _ I hq) (fun fl s' hs=>?_) fun e s' hs=>hs
 have fin:∀{σ':St} {H':Hp} {v:V} {u:Value},Inv (lA CX P w K mg base N qual scope f cdv A outer s H E) [] σ' H' s'->RelV v u->Q v H'->CE outer P w H s Q u s':=
  fun {σ' H' v u} J rv q=>⟨v,H',J.os,J.bare,J.base,J.hok,rv,q⟩
 cases fl with
 |ret u=>
  obtain⟨v,σ',H',J,rv,q⟩:=hs
  exact fin J rv q
 |next=>
  obtain⟨σ',H',J,q⟩:=hs
  exact fin (v:=V.non) (u:=Value.none) J rfl q
 |brk=>
  obtain⟨_,_,_,q⟩:=hs
  exact False.elim q
 |cont=>
  obtain⟨_,_,_,q⟩:=hs
  exact False.elim q
section
variable{X:Cx}{x:Str}{p pos:Pos}{e:Expr}{es:List Expr}{t:TA}{id T:String}{r:List V->Hp->VK->Prop}
def tCB(r:List V->Hp->VK->Prop)(t:TA):TE:=fun σ H Q=>t σ H fun vs H1=>r vs H1 Q
def oZ(hc:fw X (.builtin id) r)(hg:Gl X x)(hm:X.mg x=none)(hv:bootBuiltins x=some (.builtin id))(ha:PA X (e :: es) t)(hn:x≠"__name__":=by decide)(hdb:(x==("__debug__":Str))=false:=by decide)
 (he:starEach (e :: es) X.env=(false,eval e X.env) :: starEach es X.env:=by rfl) (hpl:(backTo pos (starEach es X.env)).any (·.1)=false:=by rfl):PE X (.Call (.Name x p) (e :: es) [] pos) (tCB r t):=by
 intro pins s σ H Q I h
 refine wpAny_Call_Name_kw (nL I hg hm hv ?_ hn hdb)
 exact PyProof.Rows.callWith_builtin1 (thn (ha pos pins s σ H _ I h) fun us s1 ⟨vs,H1,I1,r1,q1⟩=>hc pins s1 σ H1 vs us Q I1 r1 q1) he hpl
def yH(hc:fw X (.type T) r)(hg:Gl X x)(hm:X.mg x=none)(hv:bootBuiltins x=some (.type T))(ha:PA X (e :: es) t)(hn:x≠"__name__":=by decide)(hdb:(x==("__debug__":Str))=false:=by decide)
 (he:starEach (e :: es) X.env=(false,eval e X.env) :: starEach es X.env:=by rfl) (hpl:(backTo pos (starEach es X.env)).any (·.1)=false:=by rfl):PE X (.Call (.Name x p) (e :: es) [] pos) (tCB r t):=by
 intro pins s σ H Q I h
 refine wpAny_Call_Name_kw (nL I hg hm hv ?_ hn hdb)
 exact PyProof.Rows.callWith_type1 (thn (ha pos pins s σ H _ I h) fun us s1 ⟨vs,H1,I1,r1,q1⟩=>hc pins s1 σ H1 vs us Q I1 r1 q1) he hpl
end
end L2
namespace HT
open PySem PyProof.Rows
def lexLt:List Int->List Int->Bool
 | [],[]=>false
 | [],_ :: _=>true
 |_ :: _,[]=>false
 |x :: xs,y :: ys=>if x=y then lexLt xs ys else decide (x < y)
def oS(x y:Int)(xs ys:List Int):lexLt (x :: xs) (y :: ys)=if x=y then lexLt xs ys else decide (x < y):=rfl
def lG:lexLt [] []=false:=rfl
def jP(y:Int)(ys:List Int):lexLt [] (y :: ys)=true:=rfl
def ki(x:Int)(xs:List Int):lexLt (x :: xs) []=false:=rfl
def oX(A:Around)(s:Shared)(a:Int)(t:Tok)(c:Int)(u:Tok):∃e,SeqAt.EqAt A s (.int a t) (.int c u) e/\(e=true↔a=c):=
 ⟨(a==c),SeqAt.EqAt.int_int a t c u,by simp⟩
def Bp(A:Around)(s:Shared)(a:Int)(t:Tok)(c:Int)(u:Tok)(prog:Program)(w:World)(E:Value->Shared->Prop)(Q:Value->Shared->Prop)(h:Q (.bool (decide (a < c))) s):
 wpAny (model prog w) A (richCompare .Lt (.int a t) (.int c u)) Q E s:=
 (PyProof.Rows.lt_int h:wpAny (model prog w) A (compareOp .Lt (.int a t) (.int c u)) Q E s)
section
open PySem.SeqAt
open PySem.AutoSeq1 (wpAny_loadPart')
open PySem.MeetsSeq PySem.MeetsSeq2 PySem.MeetsSeq3
def qG(l b:Addr)(items items2:Array Value)(n n2:Nat)(dd dd2:Option Addr)(sl sl2:Array (Option Value))(ns ms:List Int)(hi:IntsAre items.toList ns)(hj:IntsAre items2.toList ms):
 Meets (Builtin.«tuple.__lt__» ⟨[.ref l,.ref b],[]⟩)
  (fun _ R s=>s.heap.get? l=some {cls:= .type "tuple",dict:=dd,data:= .seq items n,slots:=sl}/\s.heap.get? b=some {cls:= .type "tuple",dict:=dd2,data:= .seq items2 n2,slots:=sl2}/\
    R (.ok (.ret (.bool (lexLt ns ms)))) s):=
 .of_wp fun prog w A R s h=>by
  obtain⟨hp,g,d,tk,os⟩:=s;obtain⟨hl,hb,h⟩:=h
  have f2:=AutoSeq1.sub_tuple_tuple
  have z1:items.size=ns.length:=by rw[<-hi.length];simp
  have z2:items2.size=ms.length:=by rw[<-hj.length];simp
  wp_walk using wpAny_loadPart' hl,wpAny_loadPart' hb,wpAny_forIn_list _ (fun rest b s'=>b.1=none/\s'=⟨hp,g,d,tk,os⟩/\∃(vs ws:List Value) (ns' ms':List Int),rest=vs.zip ws/\
   IntsAre vs ns'/\IntsAre ws ms'/\ns'.length+items2.size=ms'.length+items.size/\R (.ok (.ret (.bool (lexLt ns' ms')))) ⟨hp,g,d,tk,os⟩) _
  case turn=>
   rintro⟨y,x⟩ rest b s' ⟨hb',rfl,vs,ws,ns',ms',hz,hvi,hwi,hlen,hR⟩
   cases hvi with
   |nil=>rw[List.zip_nil_left]at hz;cases hz
   |cons a t hvi'=>
    cases hwi with
    |nil=>rw[List.zip_nil_right]at hz;cases hz
    |cons c u hwi'=>
     rw[List.zip_cons_cons]at hz
     injection hz with hyx hrest
     injection hyx with hy hx
     subst hy hx
     rw[oS]at hR
     simp only[List.length_cons]at hlen
     obtain⟨e,he,hiff⟩:=oX A.in1 ⟨hp,g,d,tk,os⟩ a t c u
     refine wpAny_bind (he prog w _ _ ?_)
     cases e with
     |true=>
      rw[if_pos (hiff.mp rfl)]at hR
      wp_walk
      exact⟨rfl,rfl,_,_,_,_,hrest,hvi',hwi',by omega,hR⟩
     |false=>
      rw[if_neg (fun q=>absurd (hiff.mpr q) qC_)]at hR
      have hri:=Bp A.in1 ⟨hp,g,d,tk,os⟩ a t c u prog w
      wp_walk using hri
      exact⟨_,rfl,by simpa using hR⟩
  case fin=>
   rintro⟨b1,b2⟩ s' ⟨hb',rfl,vs,ws,ns',ms',hz,hvi,hwi,hlen,hR⟩
   simp only at hb'
   subst hb'
   have hv:lexLt ns' ms'=decide (items.size < items2.size):=by
    cases hvi with
    |nil=>
     cases hwi with
     |nil=>
      simp only[List.length_nil]at hlen
      rw[lG]
      exact(qa_ (by omega)).symm
     |cons c u hw=>
      simp only[List.length_nil,List.length_cons]at hlen
      rw[jP]
      exact(qZ_ (by omega)).symm
    |cons a t hv=>
     cases hwi with
     |nil=>
      simp only[List.length_nil,List.length_cons]at hlen
      rw[ki]
      exact(qa_ (by omega)).symm
     |cons c u hw=>
      rw[List.zip_cons_cons]at hz
      cases hz
   rw[hv]at hR
   wp_walk
   exact⟨_,rfl,by simpa [Builtin.Tuple.tupleCompareSizes] using hR⟩
  case h=>
   exact⟨rfl,rfl,items.toList,items2.toList,ns,ms,rfl,hi,hj,by omega,h⟩
end
section
variable{prog:Program}{w:World}{A:Around}{E:Value->Shared->Prop}{s:Shared}
def wZ{l b:Addr}{items items2:Array Value}{ns ms:List Int}{Q:Value->Shared->Prop}(hl:IsTup s.heap l items)(hb:IsTup s.heap b items2)(hi:IntsAre items.toList ns)(hj:IntsAre items2.toList ms)
 (hu:A.units < cLine) (h:Q (.bool (lexLt ns ms)) s):wpAny (model prog w) A (compareOp .Lt (.ref l) (.ref b)) Q E s:=by
 obtain⟨⟨cls,dd,data,sl⟩,ho,hc,n,hd⟩:=id hl
 obtain⟨⟨cls2,dd2,data2,sl2⟩,ho2,hc2,n2,hd2⟩:=id hb
 simp only at hc hd hc2 hd2
 subst hc hd hc2 hd2
 exact richCompare_meets_room (op:= .Lt) ⟨_,ho,rfl⟩ ⟨_,ho2,rfl⟩ PySem.F.slot_tuple_lt PySem.F.entry_tuple_lt (PySem.F.args_tuple_lt_2 _ _) (qG l b items items2 n n2 dd dd2 sl sl2 ns ms hi hj)
  ⟨ho,ho2,show Value.bool (lexLt ns ms)≠Value.notImplemented/\Q (.bool (lexLt ns ms)) s from⟨(fun x=>nomatch x),h⟩⟩ hu
def Dt{t b:Addr}{vs ws:List Value}{Q:Value->Shared->Prop}(ht:IsTup s.heap t vs.toArray)(hb:IsTup s.heap b ws.toArray)(hv:vs≠ [])
 (h1:ws=[]->Q (.ref t) s) (h2:ws≠ []->Q (.ref s.heap.objs.size) {s with heap:=s.heap.push {cls:= .type "tuple",data:= .seq (vs++ws).toArray}})
 (hsz:vs.length+ws.length<=sizeLine):wpAny (model prog w) A (binaryOp .Add (.ref t) (.ref b)) Q E s:=by
 obtain⟨⟨cls,dd,data,sl⟩,ho,hc,n,hd⟩:=id ht
 obtain⟨⟨cls2,dd2,data2,sl2⟩,ho2,hc2,n2,hd2⟩:=id hb
 simp only at hc hd hc2 hd2
 subst hc hd hc2 hd2
 have e:vs.toArray++ws.toArray=(vs++ws).toArray:=by simp
 by_cases hw:ws=[]
 · exact concat_meets ⟨_,ho,rfl⟩ ⟨_,ho2,rfl⟩ noFill_tuple_add seq_tuple_add PySem.F.slot_tuple_add PySem.F.entry_tuple_add (PySem.F.args_tuple_add_2 _ _)
    (tuple_addW1 t b vs.toArray ws.toArray n n2 dd dd2 sl sl2 (by simpa using hv) (by simp [hw])) ⟨ho,ho2,h1 hw⟩
 · refine concat_meets ⟨_,ho,rfl⟩ ⟨_,ho2,rfl⟩ noFill_tuple_add seq_tuple_add PySem.F.slot_tuple_add PySem.F.entry_tuple_add (PySem.F.args_tuple_add_2 _ _)
    (tuple_addW2 t b vs.toArray ws.toArray n n2 dd dd2 sl sl2 (by simpa using hv) (by simpa using hw) (by rw[qW_,qW_];exact hsz)) ⟨ho,ho2,?_⟩
   rw[e]
   exact h2 hw
def sIx(n d:Nat):Option Int->Nat
 |none=>d
 |some v=>if v < 0 then (v+(n:Int)).toNat else min v.toNat n
def EG(n d:Nat)(hd:d<=n)(o:Option Int):sIx n d o<=n:=by
 cases o with
 |none=>exact hd
 |some v=>
  show (if v < 0 then (v+(n:Int)).toNat else min v.toNat n)<=n
  by_cases hv:v < 0
  · rw[if_pos hv];omega
  · rw[if_neg hv];exact Nat.min_le_right _ _
def xJ(v:Int)(n d:Nat):(if v < 0 then max (v+(n:Int)) 0 else min v (n:Int))=((sIx n d (some v):Nat):Int):=by
 show (if v < 0 then max (v+(n:Int)) 0 else min v (n:Int))=(((if v < 0 then (v+(n:Int)).toNat else min v.toNat n):Nat):Int)
 by_cases hv:v < 0
 · simp only[if_pos hv];omega
 · simp only[if_neg hv];omega
def v8(lo hi:Option Int)(n:Nat):Builtin.Slice.sliceAdjust lo hi 1 (n:Int)=(((sIx n 0 lo:Nat):Int),((sIx n n hi:Nat):Int)):=by
 have h1:¬((1:Int) < 0):=by omega
 unfold Builtin.Slice.sliceAdjust
 simp only[h1,if_false]
 refine Prod.ext ?_ ?_
 · cases lo with
   |none=>rfl
   |some v=>exact xJ v n 0
 · cases hi with
   |none=>rfl
   |some v=>exact xJ v n n
def vV(i j:Nat):Builtin.Slice.slicePlaces (i:Int) (j:Int) 1=j - i:=by
 unfold Builtin.Slice.slicePlaces
 have h1:(1:Int) > 0:=by omega
 simp only[h1,if_true,Int.ediv_one]
 split <;> omega
def qo{v:Value}{o:Option Int}{Q:Option Int->Shared->Prop}(p:IsPart v o)(h:Q o s):wpAny (model prog w) A (Builtin.Slice.slicePartIndex v) Q E s:=by
 cases p with
 |none=>exact slicePart_none h
 |int i t=>exact slicePart_int h
def m9{sl:Addr}{vl vu:Value}{lo hi:Option Int}{n:Nat}{Q:Int×Int×Nat->Shared->Prop}(hs:s.heap.IsSliceOf sl vl vu .none)(pl:IsPart vl lo)(pu:IsPart vu hi)
 (h:Q (((sIx n 0 lo:Nat):Int),1,sIx n n hi - sIx n 0 lo) s):wpAny (model prog w) A (Builtin.Slice.sliceApplied (.ref sl) (pure (n:Int))) Q E s:=by
 obtain⟨os,hos,hcs,hds⟩:=id hs
 unfold Builtin.Slice.sliceApplied Builtin.Slice.sliceFields
 refine wpAny_bind (wpAny_bind (wpAny_field hos hds (x:=vl) rfl (wpAny_bind (wpAny_field hos hds (x:=vu) rfl (wpAny_bind (wpAny_field hos hds (x:= .none) rfl (wpAny_pure ?_)))))))
 refine wpAny_bind (slicePart_none ?_)
 show wpAny _ _ (if ((1:Int)==0)=true then _ else _) _ _ s
 rw[if_neg (by decide)]
 refine wpAny_bind (qo pl (wpAny_bind (qo pu (wpAny_bind (wpAny_pure ?_)))))
 show wpAny _ _ (match Builtin.Slice.sliceAdjust lo hi 1 (n:Int)with |(lo,hi)=>pure (lo,(1:Int),Builtin.Slice.slicePlaces lo hi 1)) _ _ s
 rw[v8 lo hi n]
 show wpAny _ _ (pure (((sIx n 0 lo:Nat):Int),(1:Int),Builtin.Slice.slicePlaces ((sIx n 0 lo:Nat):Int) ((sIx n n hi:Nat):Int) 1)) _ _ s
 rw[vV]
 exact wpAny_pure h
def A1(xs:Array Value)(i k:Nat):((List.range k).filterMap fun(m:Nat)=>xs[((i:Int)+(m:Int)*1).toNat]?).toArray=((xs.toList.drop i).take k).toArray:=by
 have e:(fun(m:Nat)=>xs[((i:Int)+(m:Int)*1).toNat]?)=fun m=>xs[i+m]?:=by
  funext m
  have:((i:Int)+(m:Int)*1).toNat=i+m:=by omega
  rw[this]
 rw[e]
 have:=pick_run xs i k
 rw[List.filterMap_map]at this
 have e2:((fun x=>xs[x]?) ∘ fun x=>i+x)=fun m=>xs[i+m]?:=rfl
 rw[e2]at this
 rw[this]
def mS{t sl:Addr}{items:Array Value}{vl vu:Value}{lo hi:Option Int}{Q:Value->Shared->Prop}(ht:IsTup s.heap t items)(hs:s.heap.IsSliceOf sl vl vu .none)(pl:IsPart vl lo)(pu:IsPart vu hi)
 (hw:¬(sIx items.size 0 lo=0/\sIx items.size items.size hi=items.size))
 (h:Q (.ref s.heap.objs.size) {s with heap:=s.heap.push {cls:= .type "tuple",data:= .seq ((items.toList.drop (sIx items.size 0 lo)).take (sIx items.size items.size hi - sIx items.size 0 lo)).toArray}})
 (hsz:items.size<=sizeLine):wpAny (model prog w) A (getItem (.ref t) (.ref sl)) Q E s:=by
 have htake:sizeOk (.seq ((items.toList.drop (sIx items.size 0 lo)).take (sIx items.size items.size hi - sIx items.size 0 lo)).toArray):=by
  show ((items.toList.drop (sIx items.size 0 lo)).take (sIx items.size items.size hi - sIx items.size 0 lo)).toArray.size<=sizeLine
  rw[qW_,List.length_take,List.length_drop,Array.length_toList]
  omega
 have hj:sIx items.size items.size hi<=items.size:=EG _ _ (qO_ _) hi
 obtain⟨os,hos,hcs,hds⟩:=id hs
 have hTs:s.TypeIs (.ref sl) "slice":=⟨os,hos,hcs⟩
 unfold getItem
 try with_reducible refine wpAny_holding ?_
 first |refine wpAny_bind (wpAny_pure ?_) |skip
 refine wpAny_bind (wpAny_sequenceKey ht.typeIs (by decide) ?_)
 refine wpAny_bind (wpAny_callSpecial?_slot (name:=Str.ofString "__getitem__") ht.typeIs PyProof.Rows.slot_tuple_getitem
  (wpAny_call_entry PyProof.Rows.slot_tuple_getitem ht.typeIs entry_tuple_getitem ?_ (args_tuple_getitem _ _)))
 show wpAny _ _ (Builtin.Tuple.tupleItemsOf (.ref t) >>= _) _ _ s
 refine wpAny_bind (tupleItemsOf_ ht ?_)
 refine wpAny_bind (wpAny_typeOf hTs ?_)
 rw[if_pos (by decide)]
 refine wpAny_bind (m9 hs pl pu ?_)
 have hno:¬((((sIx items.size 0 lo:Nat):Int)==0&&(1:Int)==1&&(sIx items.size items.size hi - sIx items.size 0 lo)==items.size)=true):=by
  intro q
  rw[Bool.and_eq_true,Bool.and_eq_true]at q
  have q1:((sIx items.size 0 lo:Nat):Int)=0:=eq_of_beq q.1.1
  have q2:sIx items.size items.size hi - sIx items.size 0 lo=items.size:=eq_of_beq q.2
  exact hw ⟨by omega,by omega⟩
 show wpAny _ _ (if (((sIx items.size 0 lo:Nat):Int)==0&&(1:Int)==1&&(sIx items.size items.size hi - sIx items.size 0 lo)==items.size)=true then _ else _) _ _ s
 rw[if_neg hno,A1]
 first
  |exact wpAny_bind (m:=Builtin.Tuple.tupleExact _) (wpAny_newObj_type (wpAny_pure ⟨_,rfl,wpAny_pure h⟩) htake)
  |exact wpAny_bind (m:=Builtin.Tuple.tupleExact _) (wpAny_newObj_type (wpAny_bind (wpAny_pure (wpAny_pure ⟨_,rfl,wpAny_pure h⟩))) htake)
  |exact wpAny_bind (wpAny_bind (m:=Builtin.Tuple.tupleExact _) (wpAny_newObj_type (wpAny_pure (wpAny_pure ⟨_,rfl,wpAny_pure h⟩)) htake))
  |exact wpAny_bind (wpAny_bind (m:=Builtin.Tuple.tupleExact _) (wpAny_newObj_type (wpAny_pure ⟨_,rfl,wpAny_pure h⟩) htake))
end
end HT
namespace L2
open PySem PySem.Spec PyProof.Rows
abbrev TO:=St->Hp->(Option Int->Hp->Prop)->Prop
def PO(X:Cx)(e:Option Expr)(t:TO):Prop:=
 ∀(pins:List (Addr×Obj)) (s:Shared) (σ:St) (H:Hp) (Q:Option Int->Hp->Prop),Inv X pins σ H s->t σ H Q->
  wpAny (model X.prog X.w) X.A (evalPart e X.env) (fun u s'=>∃o H',Inv X pins σ H' s'/\IsPart u o/\Q o H') X.xe s
def CL:TO:=fun _ H Q=>Q none H
def IA(t:TE):TO:=fun σ H Q=>t σ H fun x H1=>∃i,x= .int i/\Q (some i) H1
def intsAre_of{ns:List Int}:∀{us:List Value},Vals (ns.map V.int) us->IntsAre us ns:=by
 induction ns with
 |nil=>intro us r;rw[List.map_nil]at r;cases r;exact .nil
 |cons n ns ih=>
  intro us r
  rw[List.map_cons]at r
  cases r with
  |cons r1 r2=>
   obtain⟨t,e⟩:=r1
   subst e
   exact .cons n t (ih r2)
section
variable{X:Cx}{e:Expr}{te:TE}{lo hi:Option Expr}{tl th:TO}{pos p2:Pos}
def CK:PO X none CL:=by
 intro pins s σ H Q I h
 rw[evalPart_none]
 exact wpAny_pure ⟨none,H,I,.none,h⟩
def DC(h:PE X e te):PO X (some e) (IA te):=by
 intro pins s σ H Q I hw
 rw[evalPart_some]
 refine thn (h pins s σ H _ I hw) fun u s1 ⟨x,H1,I1,r1,q1⟩=>?_
 obtain⟨i,rfl,q⟩:=q1
 obtain⟨t,rfl⟩:=r1
 exact⟨some i,H1,I1,.int i t,q⟩
def SlR(X:Cx)(r:V->Option Int->Option Int->Hp->VK->Prop):Prop:=
 ∀(pins:List (Addr×Obj)) (s:Shared) (σ:St) (H:Hp) (x:V) (v vl vu:Value) (lo hi:Option Int) (sl:Addr) (Q:VK),Inv X pins σ H s->RelV x v->s.heap.IsSliceOf sl vl vu .none->IsPart vl lo->IsPart vu hi->r x lo hi H Q->
  ∃T id,typeLookup (.type T) "__getitem__"=pure (some (.builtin id))/\s.TypeIs v T/\wpAny (model X.prog X.w) X.A (getItem v (.ref sl)) (EP X pins σ Q) X.xe s
def SlR.or{r r':V->Option Int->Option Int->Hp->VK->Prop}(h:SlR X r)(h':SlR X r'):SlR X (fun x lo hi H Q=>r x lo hi H Q\/r' x lo hi H Q):=by
 intro pins s σ H x v vl vu lo hi sl Q I rx hs pl pu q
 rcases q with q |q
 · exact h pins s σ H x v vl vu lo hi sl Q I rx hs pl pu q
 · exact h' pins s σ H x v vl vu lo hi sl Q I rx hs pl pu q
def tSl(r:V->Option Int->Option Int->Hp->VK->Prop)(te:TE)(tl th:TO):TE:=fun σ H Q=>te σ H fun x H1=>tl σ H1 fun l H2=>th σ H2 fun u H3=>r x l u H3 Q
def AZ{r:V->Option Int->Option Int->Hp->VK->Prop}(hr:SlR X r)(he:PE X e te)(hl:PO X lo tl)(hu:PO X hi th):PE X (.Subscript e (.Slice lo hi none p2) pos) (tSl r te tl th):=by
 intro pins s σ H Q I h
 refine Subscript_ (thn (he pins s σ H _ I h) fun v s1 ⟨x,H1,I1,r1,q1⟩=>?_)
 refine wpAny_Slice (thn (hl pins s1 σ H1 _ I1 q1) fun vl s2 ⟨l,H2,I2,pl,q2⟩=>thn (hu pins s2 σ H2 _ I2 q2) fun vu s3 ⟨u,H3,I3,pu,q3⟩=>?_)
 rw[evalPart_none]
 refine wpAny_pure ?_
 have I4:Inv X pins σ H3 {s3 with heap:=s3.heap.push {cls:= .type "slice",data:= .fields #[vl,vu,.none]}}:=I3.kept (t':=s3.toks) fun b ob q=>Heap.get?_push_of_some _ q
 obtain⟨T,id,hT,ht,hg⟩:=hr pins {s3 with heap:=s3.heap.push {cls:= .type "slice",data:= .fields #[vl,vu,.none]}} σ H3 x v vl vu l u s3.heap.objs.size Q I4 r1 (Heap.IsSliceOf.new ..) pl pu q3
 show wpAny (model X.prog X.w) X.A (subscriptTail e (.Slice lo hi none p2) v (.ref s3.heap.objs.size)) (EP X pins σ Q) X.xe {s3 with heap:=s3.heap.push {cls:= .type "slice",data:= .fields #[vl,vu,.none]}}
 exact tail_any (ops:=[.ref s3.heap.objs.size,v]) ht hT hg (by with_unfolding_all rfl)
def qN(xs:List V)(lo hi:Option Int):List V:=(xs.drop (HT.sIx xs.length 0 lo)).take (HT.sIx xs.length xs.length hi - HT.sIx xs.length 0 lo)
def n0(xs:List V)(lo hi:Option Int):(qN xs lo hi).length<=xs.length:=by
 unfold qN
 rw[List.length_take,List.length_drop]
 omega
def Jy(K:PySem.W.Frag):V->Option Int->Option Int->Hp->VK->Prop:=fun x lo hi H Q=>∃a xs,x= .ref a/\SqT K H a xs/\
 ¬(HT.sIx xs.length 0 lo=0/\HT.sIx xs.length xs.length hi=xs.length)/\∀p,H p=none->Q (.ref p) (upd H p (.tup (qN xs lo hi)))
def E7:SlR X (Jy X.K):=by
 intro pins s σ H x v vl vu lo hi sl Q I rx hs pl pu h
 obtain⟨a,xs,rfl,hx,hw,q⟩:=h
 cases rx
 obtain⟨its,r,ht,hz⟩:=I.tuple hx
 have hlen:its.toArray.size=xs.length:=by rw[qW_];exact r.length.symm
 refine⟨"tuple",_,PyProof.Rows.slot_tuple_getitem.lookup,ht.typeIs,?_⟩
 refine HT.mS ht hs pl pu (by rw[hlen];exact hw) ?_ (by rw[hlen];exact hz)
 rw[hlen]
 refine⟨.ref s.heap.objs.size,_,I.laid (t':=s.toks) (o:= .tup (qN xs lo hi)) (fun b ob q=>Heap.get?_push_of_some _ q) (qO_ _) ?_,rfl,q _ (I.hok.fresh (qO_ _))⟩
 exact⟨Nat.le_trans (n0 xs lo hi) hz,_,(r.drop (HT.sIx xs.length 0 lo)).take (HT.sIx xs.length xs.length hi - HT.sIx xs.length 0 lo),IsTup.new _ _⟩
def Io(K:PySem.W.Frag):R2:=fun x y H Q=>∃a b ns ms,x= .ref a/\y= .ref b/\SqT K H a (ns.map V.int)/\SqT K H b (ms.map V.int)/\Q (.bl (HT.lexLt ns ms)) H
def GJ(hu:X.A.units < cLine):OpR X (compareOp .Lt) (Io X.K):=by
 intro pins s σ H x y v u Q I rx ry h
 obtain⟨a,b,ns,ms,rfl,rfl,ha,hb,q⟩:=h
 cases rx
 cases ry
 obtain⟨its,r1,p1,_⟩:=I.tuple ha
 obtain⟨its2,r2,p2,_⟩:=I.tuple hb
 have i1:IntsAre its.toArray.toList ns:=intsAre_of r1
 have i2:IntsAre its2.toArray.toList ms:=intsAre_of r2
 exact HT.wZ p1 p2 i1 i2 hu ⟨.bl (HT.lexLt ns ms),H,I,rfl,q⟩
def D7(K:PySem.W.Frag):R2:=fun x y H Q=>∃a b xs ys,x= .ref a/\y= .ref b/\SqT K H a xs/\SqT K H b ys/\xs≠ []/\xs.length+ys.length<=sizeLine/\
 (ys=[]->Q (.ref a) H)/\(ys≠ []->∀p,H p=none->Q (.ref p) (upd H p (.tup (xs++ys))))
def Vals.tJ{xs:List V}{us:List Value}(r:Vals xs us):us=[]↔xs=[]:=by
 cases r with
 |nil=>simp
 |cons _ _=>simp
def Dn:OpR X (binaryOp .Add) (D7 X.K):=by
 intro pins s σ H x y v u Q I rx ry h
 obtain⟨a,b,xs,ys,rfl,rfl,ha,hb,hx,hz,q1,q2⟩:=h
 cases rx
 cases ry
 obtain⟨its,r1,p1,_⟩:=I.tuple ha
 obtain⟨its2,r2,p2,_⟩:=I.tuple hb
 refine HT.Dt p1 p2 (fun z=>hx (r1.tJ.mp z)) (fun z=>⟨.ref a,H,I,rfl,q1 (r2.tJ.mp z)⟩) (fun z=>?_) (by rw[<-r1.length,<-r2.length];exact hz)
 refine⟨.ref s.heap.objs.size,_,I.laid (t':=s.toks) (o:= .tup (xs++ys)) (fun b ob q=>Heap.get?_push_of_some _ q) (qO_ _) ?_,rfl,q2 (fun w=>z (r2.tJ.mpr w)) _ (I.hok.fresh (qO_ _))⟩
 exact⟨by rw[qN_];exact hz,_,r1.append r2,IsTup.new _ _⟩
end
def ixN(n:Nat)(i:Int):Option Nat:=if 0<=i then (if i < n then some i.toNat else none)else if -(n:Int)<=i then some (i+n).toNat else none
def atI{α:Type}(xs:List α)(i:Int):Option α:=(ixN xs.length i).bind fun j=>xs[j]?
def tO{n:Nat}{i:Int}{j:Nat}(h:ixN n i=some j):seqIndex? i n=some j/\j < n/\-(n:Int)<=i/\i < n:=by
 unfold ixN at h
 by_cases h0:0<=i
 · rw[if_pos h0]at h
   by_cases h1:i < n
   · rw[if_pos h1]at h
     have e:i.toNat=j:=Option.some.inj h
     exact⟨by rw[seqIndex_of h0 h1,e],by omega,by omega,h1⟩
   · rw[if_neg h1]at h;cases h
 · rw[if_neg h0]at h
   by_cases h1:-(n:Int)<=i
   · rw[if_pos h1]at h
     have e:(i+n).toNat=j:=Option.some.inj h
     exact⟨by rw[seqIndex_neg (by omega) h1,e],by omega,h1,by omega⟩
   · rw[if_neg h1]at h;cases h
def xk{α:Type}{xs:List α}{i:Int}{v:α}(h:atI xs i=some v):∃j,seqIndex? i xs.length=some j/\xs[j]? =some v/\j < xs.length/\-(xs.length:Int)<=i/\i < xs.length:=by
 unfold atI at h
 cases e:ixN xs.length i with
 |none=>rw[e]at h;cases h
 |some j=>
  rw[e]at h
  obtain⟨h1,h2,h3,h4⟩:=tO e
  exact⟨j,h1,h,h2,h3,h4⟩
def r9(b:Expr):Prop:=∀o i,subscripted b false o i=operate [o,i] (getItem o i)
def IxR(X:Cx)(r:R2):Prop:=
 ∀(value slice:Expr) (pins:List (Addr×Obj)) (s:Shared) (σ:St) (H:Hp) (x y:V) (v u:Value) (Q:VK),Inv X pins σ H s->RelV x v->RelV y u->r x y H Q->
  subscripted slice false v u=operate [v,u] (getItem v u)->wpAny (model X.prog X.w) X.A (subscriptTail value slice v u) (EP X pins σ Q) X.xe s
def MtR(X:Cx)(id:String)(r:V->List V->Hp->VK->Prop):Prop:=
 ∀(pins:List (Addr×Obj)) (s:Shared) (σ:St) (H:Hp) (x:V) (xs:List V) (v:Value) (us:List Value) (Q:VK),Inv X pins σ H s->RelV x v->Vals xs us->r x xs H Q->
  wpAny (model X.prog X.w) X.A (call (.builtin id) (v :: us)) (EP X pins σ Q) X.xe s
section
variable{X:Cx}{a b:Expr}{ta tb:TE}{pos:Pos}
def IxR.or{r r':R2}(h:IxR X r)(h':IxR X r'):IxR X (fun x y H Q=>r x y H Q\/r' x y H Q):=by
 intro value slice pins s σ H x y v u Q I rx ry q hs
 rcases q with q |q
 · exact h value slice pins s σ H x y v u Q I rx ry q hs
 · exact h' value slice pins s σ H x y v u Q I rx ry q hs
def Jj{r:R2}(hr:IxR X r)(ha:PE X a ta)(hb:PE X b tb)(hs:r9 b):PE X (.Subscript a b pos) (tOp r ta tb):=by
 intro pins s σ H Q I h
 exact Subscript_ (Gx ha hb I h fun v u s2 x y H2 I2 rx ry q=>hr a b pins s2 σ H2 x y v u Q I2 rx ry q (hs _ _))
def IW(K:PySem.W.Frag):R2:=fun x y H Q=>∃p xs i v,x= .ref p/\y= .int i/\SqL K H p xs/\atI xs i=some v/\Q v H
def Jc(K:PySem.W.Frag):R2:=fun x y H Q=>∃p xs i v,x= .ref p/\y= .int i/\SqT K H p xs/\atI xs i=some v/\Q v H
def Di:IxR X (IW X.K):=by
 intro value slice pins s σ H x y v u Q I rx ry h hs
 obtain⟨p,xs,i,z,rfl,rfl,hq,he,q⟩:=h
 cases rx
 obtain⟨t,rfl⟩:=ry
 obtain⟨its,r,pl,hz⟩:=I.list hq
 obtain⟨j,h1,h2,h3,h4,h5⟩:=xk he
 obtain⟨w,ew,rw'⟩:=r.get h2
 have hl:=r.length
 have hn:=pJ
 have fin:EP X pins σ Q w s:=⟨z,H,I,rw',q⟩
 by_cases h0:0<=i
 · have hj:i.toNat=j:=by
    rw[seqIndex_of h0 h5]at h1
    exact Option.some.inj h1
   exact item_listR pl.isList h0 (by omega) (by rw[hj];simpa using ew) fin hs
 · have hj:(i+(its.toArray.size:Int)).toNat=j:=by
    rw[seqIndex_neg (by omega) h4]at h1
    rw[qW_,<-hl]
    exact Option.some.inj h1
   exact subscriptTail_builtinR (x:=w) pl.isList.typeIs slot_list_getitem.lookup
    (wpAny_getItem_list_neg (Q:=fun r s'=>r=w/\EP X pins σ Q r s') pl.isList (by omega) (by rw[qW_] <;> omega) (by omega) (by rw[hj];simpa using ew) ⟨rfl,fin⟩) hs
def F6:IxR X (Jc X.K):=by
 intro value slice pins s σ H x y v u Q I rx ry h hs
 obtain⟨p,xs,i,z,rfl,rfl,hq,he,q⟩:=h
 cases rx
 obtain⟨t,rfl⟩:=ry
 obtain⟨its,r,pl,hz⟩:=I.tuple hq
 obtain⟨j,h1,h2,h3,h4,h5⟩:=xk he
 obtain⟨w,ew,rw'⟩:=r.get h2
 have hl:=r.length
 have hn:=pJ
 have fin:EP X pins σ Q w s:=⟨z,H,I,rw',q⟩
 exact subscriptTail_builtinR (x:=w) pl.typeIs slot_tuple_getitem.lookup
  (getItem_tuple (j:=j) (Q:=fun r s'=>r=w/\EP X pins σ Q r s') pl (by omega) (by omega) (by rw[qW_,<-hl];exact h1) (by simpa using ew) ⟨rfl,fin⟩) hs
def w4(its:List Value)(n j:Nat)(u:Value):Obj.mapSeq (·.setIfInBounds j u) {cls:= .type "list",data:= .seq its.toArray n}={cls:= .type "list",data:= .seq (its.set j u).toArray n}:=by
 simp [Obj.mapSeq]
theorem Inv.lst{pins:List (Addr×Obj)}{σ:St}{H:Hp}{s:Shared}{p:Addr}{xs:List V}(I:Inv X pins σ H s)(h:H p=some (.lst xs)):
 ∃(its:List Value) (n:Nat),Vals xs its/\s.heap.get? p=some {cls:= .type "list",data:= .seq its.toArray n}/\xs.length<=sizeLine:=by
 obtain⟨z,its,n,r,e⟩:=I.hok p _ h
 exact⟨its,n,r,e,z⟩
def Inv.Fx{pins:List (Addr×Obj)}{σ:St}{H:Hp}{s:Shared}{p:Addr}{xs ys:List V}{its its':List Value}{n n':Nat}{f:Obj->Obj}(I:Inv X pins σ H s)(h:H p=some (.lst xs))
 (ho:s.heap.get? p=some {cls:= .type "list",data:= .seq its.toArray n}) (hf:f {cls:= .type "list",data:= .seq its.toArray n}={cls:= .type "list",data:= .seq its'.toArray n'}) (r:Vals ys its') (hz:ys.length<=sizeLine) (t:Nat):
 Inv X pins σ (upd H p (.lst ys)) {s with heap:=s.heap.update p f,toks:=t}:=by
 have e:(s.heap.update p f).get? p=some {cls:= .type "list",data:= .seq its'.toArray n'}:=by
  rw[Heap.get?_update_self f ho (by rw[hf] <;> rfl),hf]
 refine I.write (x:=p) (e:=p) (by rw[h];trivial) (.inl rfl) (fun b u hb q=>(Heap.get?_update_other _ _ (Ne.symm hb)).trans q) ⟨_,e⟩ ?_
 exact⟨hz,its',n',r,e⟩
def Jd:V->V->V->Hp->(Hp->Prop)->Prop:=fun o i v H Q=>∃p xs k j,o= .ref p/\i= .int k/\H p=some (.lst xs)/\ixN xs.length k=some j/\Q (upd H p (.lst (xs.set j v)))
def set_list:uW X Jd:=by
 intro pins s σ H o i v ov iv u Q I ro ri rv h
 obtain⟨p,xs,k,j,rfl,rfl,hp,hj,q⟩:=h
 cases ro
 obtain⟨t,rfl⟩:=ri
 obtain⟨its,n,r,ho,hz⟩:=I.lst hp
 obtain⟨h1,h2,h3,h4⟩:=tO hj
 have hl:=r.length
 have hn:=pJ
 have I':Inv X pins σ (upd H p (.lst (xs.set j v))) {s with heap:=s.heap.update p (Obj.mapSeq (·.setIfInBounds j u))}:=
  I.Fx hp ho (w4 its n j u) (r.set rv j) (by rw[qX_];exact hz) s.toks
 by_cases h0:0<=k
 · have hk:k.toNat=j:=by
    rw[seqIndex_of h0 h4]at h1
    exact Option.some.inj h1
   exact PySem.W.ki_setAt ho h0 (by omega) (by rw[qW_,<-hl];exact h4) (by rw[hk];exact⟨_,I',q⟩)
 · have hk:(k+(its.toArray.size:Int)).toNat=j:=by
    rw[seqIndex_neg (by omega) h3]at h1
    rw[qW_,<-hl]
    exact Option.some.inj h1
   exact PySem.W.ki_setBack ho (by omega) (by rw[qW_,<-hl];exact h3) (by omega) (by rw[hk];exact⟨_,I',q⟩)
def sM(lo hi:Option Int)(n:Nat):(sliceBounds lo hi none n).1=((HT.sIx n 0 lo:Nat):Int)/\(sliceBounds lo hi none n).2.1=((HT.sIx n n hi:Nat):Int)/\(sliceBounds lo hi none n).2.2=1:=by
 refine⟨?_,?_,rfl⟩
 · cases lo with
   |none=>simp [sliceBounds,HT.sIx]
   |some i=>
    simp only[sliceBounds,HT.sIx,Option.getD_none,show (1:Int) > 0 by decide,if_true]
    by_cases h:i < 0
    · simp only[h,if_true] <;> omega
    · simp only[h,if_false] <;> omega
 · cases hi with
   |none=>simp [sliceBounds,HT.sIx]
   |some i=>
    simp only[sliceBounds,HT.sIx,Option.getD_none,show (1:Int) > 0 by decide,if_true]
    by_cases h:i < 0
    · simp only[h,if_true] <;> omega
    · simp only[h,if_false] <;> omega
def qy(its:List Value)(lo hi:Option Int):slicePick its.toArray lo hi none=((its.drop (HT.sIx its.length 0 lo)).take (HT.sIx its.length its.length hi - HT.sIx its.length 0 lo)).toArray:=by
 obtain⟨h1,h2,h3⟩:=sM lo hi its.toArray.size
 unfold slicePick
 rw[h1,h2,h3]
 simp only[sliceRange_one,pick_run,qW_] <;> rfl
def HL(K:PySem.W.Frag):V->Option Int->Option Int->Hp->VK->Prop:=fun x lo hi H Q=>∃a xs,x= .ref a/\SqL K H a xs/\∀p,H p=none->Q (.ref p) (upd H p (.lst (qN xs lo hi)))
def CU:SlR X (HL X.K):=by
 intro pins s σ H x v vl vu lo hi sl Q I rx hs pl pu h
 obtain⟨a,xs,rfl,hx,q⟩:=h
 cases rx
 obtain⟨its,r,ht,hz⟩:=I.list hx
 have hlen:=r.length
 refine⟨"list",_,slot_list_getitem.lookup,ht.isList.typeIs,?_⟩
 refine wpAny_getItem_list_slice ht.isList hs pl pu .none (by simp) ?_ (by rw[qW_] <;> omega)
 rw[qy,<-hlen]
 refine⟨.ref s.heap.objs.size,_,I.laid (t':=s.toks) (o:= .lst (qN xs lo hi)) (fun b ob q=>Heap.get?_push_of_some _ q) (qO_ _) ?_,rfl,q _ (I.hok.fresh (qO_ _))⟩
 exact⟨Nat.le_trans (n0 xs lo hi) hz,_,0,(r.drop (HT.sIx xs.length 0 lo)).take (HT.sIx xs.length xs.length hi - HT.sIx xs.length 0 lo),Heap.get?_push_size _ rfl⟩
def fw.or{f:Value}{r r':List V->Hp->VK->Prop}(h:fw X f r)(h':fw X f r'):fw X f (fun xs H Q=>r xs H Q\/r' xs H Q):=by
 intro pins s σ H xs us Q I rs q
 rcases q with q |q
 · exact h pins s σ H xs us Q I rs q
 · exact h' pins s σ H xs us Q I rs q
def sQ:fw X (.type "list") (fun xs H Q=>∃p ys,xs=[.ref p]/\(SqL X.K H p ys\/SqT X.K H p ys)/\∀l,H l=none->Q (.ref l) (upd H l (.lst ys))):=by
 intro pins s σ H xs us Q I r h
 obtain⟨p,ys,rfl,hq,q⟩:=h
 obtain⟨u,rfl,rx⟩:=vals1 r
 cases rx
 have fin:∀(its:List Value),Vals ys its->ys.length<=sizeLine->∀(h':Heap) (c':Nat),(∀b o',s.heap.get? b=some o'->h'.get? b=some o')->
  h'.get? s.heap.objs.size=some {cls:= .type "list",dict:=none,data:= .seq its.toArray c',slots:=#[]}->EP X pins σ Q (.ref s.heap.objs.size) {s with heap:=h'}:=fun its r' hz h' c' kp e=>
  ⟨.ref s.heap.objs.size,_,I.laid (t':=s.toks) kp (qO_ _) (show bR X.prog X.w _ h' _ (.lst ys)from⟨hz,its,c',r',e⟩),rfl,q _ (I.hok.fresh (qO_ _))⟩
 rcases hq with hq |hq
 · obtain⟨its,r',pl,hz⟩:=I.list hq
   have hlen:=r'.length
   obtain⟨o,ho,hc,n,hd⟩:=pl.isList
   exact call_list_seq p (.inl rfl) ho hc hd (fun h' c' kp e=>fin its r' hz h' c' kp e) (by simp only[qW_] <;> omega)
 · obtain⟨its,r',pl,hz⟩:=I.tuple hq
   have hlen:=r'.length
   obtain⟨o,ho,hc,n,hd⟩:=pl
   exact call_list_seq p (.inr rfl) ho hc hd (fun h' c' kp e=>fin its r' hz h' c' kp e) (by simp only[qW_] <;> omega)
def tyV(K:PySem.W.Frag)(T:String)(x:V)(H:Hp):Prop:=match x with
 | .str _=>T="str"
 | .int _=>T="int"
 | .ref p=>(T="list"/\∃xs,SqL K H p xs)\/(T="tuple"/\∃o,K.lookup p=some o/\o.cls= .type "tuple"/\o.dict=none)\/
    (T="dict"/\((∃kvs,H p=some (.dK kvs))\/∃kvs,H p=some (.dT kvs)))\/(T="set"/\∃S n,H p=some (.set S n))
 |_=>False
def vP{pins:List (Addr×Obj)}{σ:St}{H:Hp}{s:Shared}{T:String}{x:V}{v:Value}(I:Inv X pins σ H s)(r:RelV x v)(ty:tyV X.K T x H):
 s.TypeIs v T/\∀a,v= .ref a->∃ob,s.heap.get? a=some ob/\ob.dict=none:=by
 cases x with
 |str z=>
  obtain⟨t,rfl⟩:=r
  cases (show T="str" from ty)
  exact⟨typeIs_str s z t,fun _ e=>nomatch e⟩
 |int i=>
  obtain⟨t,rfl⟩:=r
  cases (show T="int" from ty)
  exact⟨typeIs_int s i t,fun _ e=>nomatch e⟩
 |ref p=>
  cases r
  rcases ty with ⟨rfl,xs,hq⟩ |⟨rfl,o,hk,hc,hd⟩ |⟨rfl,hk⟩ |⟨rfl,S,n,hk⟩
  · obtain⟨its,_,pl,_⟩:=I.list hq
    refine⟨pl.isList.typeIs,fun a e=>?_⟩
    cases e
    obtain⟨o,n,e,c,hd,_⟩:=pl
    exact⟨o,e,hd⟩
  · refine⟨⟨o,I.kIn p o hk,hc⟩,fun a e=>?_⟩
    cases e
    exact⟨o,I.kIn _ o hk,hd⟩
  · have z:∃o,s.heap.get? p=some o/\o.ExactDict:=by
     rcases hk with ⟨kvs,hk⟩ |⟨kvs,hk⟩
     · obtain⟨_,_,_,_,o,_,_,e,ex,_⟩:=I.hok p _ hk
       exact⟨o,e,ex⟩
     · obtain⟨_,_,_,_,o,_,_,e,ex,_⟩:=I.hok p _ hk
       exact⟨o,e,ex⟩
    obtain⟨o,e,ex⟩:=z
    refine⟨⟨o,e,ex.1⟩,fun a e2=>?_⟩
    cases e2
    exact⟨o,e,ex.2.1⟩
  · obtain⟨o,_,_,_,e,ex,_⟩:=I.hok p _ hk
    refine⟨⟨o,e,ex.1⟩,fun a e2=>?_⟩
    cases e2
    exact⟨o,e,ex.2.1⟩
 |_=>exact False.elim ty
def tBM(K:PySem.W.Frag)(T:String)(r:V->List V->Hp->VK->Prop)(to:TE)(t:TA):TE:=fun σ H Q=>to σ H fun x H1=>tyV K T x H1/\t σ H1 fun xs H2=>r x xs H2 Q
variable{o e:Expr}{es:List Expr}{to:TE}{t:TA}{name:Str}{apos cpos:Pos}{T id:String}{r:V->List V->Hp->VK->Prop}
def Bs(pa:PlainAttrs T)(slot:Slot T name id)(hty:typeOf (.builtin id)=pure (.type "method_descriptor"))(hm:MtR X id r)(ho:PE X o to)(ha:PA X (e :: es) t)
 (hbase:attributeBase o name X.env (eval o X.env)=eval o X.env:=by rfl)
 (hfew:((backTo cpos (starEach (e :: es) X.env)).all (fun x=>!x.1)&&(backToKw cpos (keywordEach [] X.env)).all (fun x=>x.1.isSome)
   &&decide ((e :: es).length+([]:List Keyword).length+(if ([]:List Keyword).isEmpty then 0 else 1) < 30))=true:=by rfl)
 (hline:(apos.endLine==cpos.line)=true:=by rfl) (hs:starEach (e :: es) X.env=(false,eval e X.env) :: starEach es X.env:=by rfl) (hplain:(backTo cpos (starEach es X.env)).any (·.1)=false:=by rfl):
 PE X (.Call (.Attribute o name apos) (e :: es) [] cpos) (tBM X.K T r to t):=by
 intro pins s σ H Q I h
 refine wpAny_Call_method_late hbase hfew hline rfl (thn (ho pins s σ H _ I h) fun v s1 ⟨x,H1,I1,r1,ty,q1⟩=>?_)
 obtain⟨h1,h2⟩:=vP I1 r1 ty
 refine⟨T,id,pa,slot,hty,h1,h2,?_⟩
 have hA:=ha cpos pins s1 σ H1 _ I1 q1
 rw[hs]at hA ⊢
 refine Calls.callWith_builtin (by show (false||(backTo cpos (starEach es X.env)).any (·.1))=false;rw[hplain] <;> rfl) (Calls.evalArgs_plain ?_)
 exact thn hA fun us s2 ⟨vs,H2,I2,r2,q2⟩=>hm pins s2 σ H2 x vs v us Q I2 r1 r2 q2
end
def MtM(X:Cx)(id:String)(r:V->List V->Hp->VK->Prop):Prop:=
 ∀(pins:List (Addr×Obj)) (s:Shared) (σ:St) (H:Hp) (x:V) (xs:List V) (v:Value) (us:List Value) (Q:VK),Inv X pins σ H s->RelV x v->Vals xs us->r x xs H Q->
  wpAny (model X.prog X.w) X.A (call (.builtin id) (v :: us)) (EP X pins σ Q) X.xe s
def Vals.one:∀{x:V} {us:List Value},Vals [x] us->∃u,us=[u]/\RelV x u
 |_,_,.cons r .nil=>⟨_,rfl,r⟩
theorem Vals.eraseIdx:∀{xs:List V} {us:List Value} (i:Nat),Vals xs us->Vals (xs.eraseIdx i) (us.eraseIdx i)
 |_,_,_,.nil=>.nil
 |_,_,0,.cons _ t=>t
 |_,_,i+1,.cons r t=>.cons r (Vals.eraseIdx i t)
theorem Vals.rep{xs:List V}{us:List Value}(h:Vals xs us):∀k:Nat,Vals (List.replicate k xs).flatten (List.replicate k us).flatten
 |0=>.nil
 |k+1=>by
  rw[List.replicate_succ,List.replicate_succ,List.flatten_cons,List.flatten_cons]
  exact Vals.append h (Vals.rep h k)
theorem qW{α:Type}:∀(l:List α) (i:Nat),(l.eraseIdx i).length<=l.length
 | [],_=>qO_ _
 |_ :: _,0=>Nat.le_succ _
 |_ :: r,i+1=>Nat.succ_le_succ (qW r i)
theorem foldl_rep(its:List Value):∀(k:Nat) (acc:List Value),
 List.foldl (fun x1 x2=>x1++x2) acc.toArray (List.replicate k its.toArray)=(acc++(List.replicate k its).flatten).toArray
 |0,acc=>by simp
 |k+1,acc=>by
  have e:acc.toArray++its.toArray=(acc++its).toArray:=by simp
  have e2:(acc++its)++(List.replicate k its).flatten=acc++(List.replicate (k+1) its).flatten:=by
   rw[List.replicate_succ,List.flatten_cons,List.append_assoc]
  rw[<-e2,<-foldl_rep its k (acc++its),<-e,List.replicate_succ,List.foldl_cons]
section
variable{X:Cx}{pins:List (Addr×Obj)}{σ:St}{H:Hp}{s:Shared}{l b:Addr}{xs ys zs:List V}
def Inv.GU{its its':List Value}{n:Nat}{f:Array Value->Array Value}{t':Nat}(I:Inv X pins σ H s)(hH:H l=some (.lst xs))
 (e:s.heap.get? l=some {cls:= .type "list",data:= .seq its.toArray n}) (hf:f its.toArray=its'.toArray) (hv:Vals ys its') (hz:ys.length<=sizeLine):
 Inv X pins σ (upd H l (.lst ys)) {s with heap:=s.heap.update l (Obj.mapSeq f),toks:=t'}:=by
 have q:=PySem.IsL.update e f
 rw[hf]at q
 refine I.write (x:=l) (e:=l) (by rw[hH];exact trivial) (.inl rfl) (fun b' u hb hu=>(Heap.get?_update_other s.heap (Obj.mapSeq f) (Ne.symm hb)).trans hu) ⟨_,q⟩ ?_
 exact⟨hz,its',_,hv,q⟩
def Inv.HR{its:List Value}{t':Nat}(I:Inv X pins σ H s)(hv:Vals ys its)(hz:ys.length<=sizeLine):
 Inv X pins σ (upd H s.heap.objs.size (.lst ys)) {s with heap:=s.heap.push {cls:= .type "list",data:= .seq its.toArray},toks:=t'}:=
 I.laid (fun _ _ q=>Heap.get?_push_of_some _ q) (qO_ _) ⟨hz,its,0,hv,Heap.get?_push_size _ rfl⟩
theorem Inv.fresh(I:Inv X pins σ H s):H s.heap.objs.size=none:=I.hok.fresh (qO_ _)
def Inv.vK(I:Inv X pins σ H s)(hH:H l=some (.lst xs)):xs.length<=sizeLine/\∃(its:List Value) (n:Nat),Vals xs its/\xs.length=its.length/\s.heap.get? l=some {cls:= .type "list",data:= .seq its.toArray n}:=by
 obtain⟨z,its,n,r,e⟩:=I.hok l _ hH
 exact⟨z,its,n,r,r.length,e⟩
def vw{n:Nat}(h:n<=sizeLine):Builtin.List.listTooLong n=false:=by
 unfold Builtin.List.listTooLong
 exact qa_ (by omega)
end
section
variable{X:Cx}
def C5:V->List V->Hp->VK->Prop:=fun x vs H Q=>∃l xs y,x= .ref l/\vs=[y]/\H l=some (.lst xs)/\xs.length < sizeLine/\Q .non (upd H l (.lst (xs++[y])))
def rC:MtM X "list.append" C5:=by
 intro pins s σ H x vs v us Q I rx rv h
 obtain⟨l,xs,y,rfl,rfl,hH,hz,q⟩:=h
 cases rx
 obtain⟨u,rfl,ru⟩:=rv.one
 obtain⟨z,its,n,r,hl,e⟩:=I.vK hH
 refine call_meets F.slot_list_append ⟨_,e,rfl⟩ F.entry_list_append (F.args_list_append_2 _ _) (PySem.list_append l its.toArray n u (by rw[qW_];omega)) ⟨e,?_⟩
 refine⟨.non,_,I.GU (its':=its++[u]) hH e (by simp) (r.append (.cons ru .nil)) ?_,rfl,q⟩
 rw[qN_,List.length_singleton]
 omega
def Ce:V->List V->Hp->VK->Prop:=fun x vs H Q=>∃l b xs zs,x= .ref l/\vs=[.ref b]/\H l=some (.lst xs)/\H b=some (.lst zs)/\xs.length+zs.length<=sizeLine/\Q .non (upd H l (.lst (xs++zs)))
def yV:MtM X "list.extend" Ce:=by
 intro pins s σ H x vs v us Q I rx rv h
 obtain⟨l,b,xs,zs,rfl,rfl,hH,hB,hz,q⟩:=h
 cases rx
 obtain⟨u,rfl,ru⟩:=rv.one
 cases ru
 obtain⟨z,its,n,r,hl,e⟩:=I.vK hH
 obtain⟨z2,its2,n2,r2,hl2,e2⟩:=I.vK hB
 have hsz:its.toArray.size+its2.toArray.size<=sizeLine:=by rw[qW_,qW_];omega
 have hlong:¬(!its.toArray.isEmpty&&Builtin.List.listTooLong (its.toArray.size+its2.toArray.size))=true:=by
  rw[vw hsz,Bool.and_false]
  exact qC_
 refine call_meets F.slot_list_extend ⟨_,e,rfl⟩ F.entry_list_extend (F.args_list_extend_2 _ _)
  (AutoSeq1.list_extend_list_list_0 l its.toArray n b its2.toArray n2 hlong (by rw[qW_];omega) (by omega)) ⟨e,e2,?_⟩
 refine⟨.non,_,I.GU (its':=its++its2) hH e (by simp) (r.append r2) ?_,rfl,q⟩
 rw[qN_]
 omega
def EQ:V->List V->Hp->VK->Prop:=fun x vs H Q=>∃l xs i k y,x= .ref l/\vs=[.int i]/\H l=some (.lst xs)/\-(2 ^ 63)<=i/\i < 2 ^ 63/\seqIndex? i xs.length=some k/\xs[k]? =some y/\Q y (upd H l (.lst (xs.eraseIdx k)))
def AH:MtM X "list.pop" EQ:=by
 intro pins s σ H x vs v us Q I rx rv h
 obtain⟨l,xs,i,k,y,rfl,rfl,hH,h1,h2,hk,hy,q⟩:=h
 cases rx
 obtain⟨u,rfl,ru⟩:=rv.one
 obtain⟨t,rfl⟩:=ru
 obtain⟨z,its,n,r,hl,e⟩:=I.vK hH
 obtain⟨w,hw,rw'⟩:=r.get hy
 refine call_meets F.slot_list_pop ⟨_,e,rfl⟩ F.entry_list_pop (F.args_list_pop_2 _ _)
  (MeetsSeq.list_pop_at l its.toArray n i t k w (fitsIndex_both h1 h2) (by rw[qW_,<-hl];exact hk) (by rw[<-Array.getElem?_toList];exact hw) (by rw[qW_];omega)) ⟨e,?_⟩
 refine⟨y,_,I.GU (its':=its.eraseIdx k) hH e ?_ (r.eraseIdx k) ?_,rw',q⟩
 · show its.toArray.eraseIdxIfInBounds k=(its.eraseIdx k).toArray
   rw[List.eraseIdxIfInBounds_toArray]
 · have:=qW xs k
   omega
def Ih:R2:=fun x y H Q=>∃l b xs zs,x= .ref l/\y= .ref b/\H l=some (.lst xs)/\H b=some (.lst zs)/\xs.length+zs.length<=sizeLine/\∀p,H p=none->Q (.ref p) (upd H p (.lst (xs++zs)))
def FY:OpR X (binaryOp .Add) Ih:=by
 intro pins s σ H x y v u Q I rx ry h
 obtain⟨l,b,xs,zs,rfl,rfl,hH,hB,hz,q⟩:=h
 cases rx
 cases ry
 obtain⟨z,its,n,r,hl,e⟩:=I.vK hH
 obtain⟨z2,its2,n2,r2,hl2,e2⟩:=I.vK hB
 refine PySem.P.add_list e e2 ?_ (by rw[qW_,qW_];omega)
 have ea:its.toArray++its2.toArray=(its++its2).toArray:=by simp
 rw[ea]
 exact⟨.ref _,_,I.HR (t':=s.toks) (r.append r2) (by rw[qN_];omega),rfl,q _ I.fresh⟩
def Ht:R2:=fun x y H Q=>∃l k xs,x= .ref l/\y= .int k/\H l=some (.lst xs)/\-(2 ^ 63)<=k/\k < 2 ^ 63/\xs.length*k.toNat<=sizeLine/\
 ∀p,H p=none->Q (.ref p) (upd H p (.lst (List.replicate k.toNat xs).flatten))
def len_rep{α:Type}(xs:List α)(k:Nat):(List.replicate k xs).flatten.length=k*xs.length:=by
 induction k with
 |zero=>simp
 |succ k ih=>rw[List.replicate_succ,List.flatten_cons,qN_,ih,Nat.succ_mul,Nat.add_comm]
def GA:OpR X (binaryOp .Mult) Ht:=by
 intro pins s σ H x y v u Q I rx ry h
 obtain⟨l,k,xs,rfl,rfl,hH,h1,h2,hz,q⟩:=h
 cases rx
 obtain⟨t,rfl⟩:=ry
 obtain⟨z,its,n,r,hl,e⟩:=I.vK hH
 have hlen:its.toArray.size*k.toNat<=sizeLine:=by rw[qW_,<-hl];exact hz
 have hcap:¬its.toArray.size*k.toNat > (2 ^ 63 - 1) / 8:=by
  have:(sizeLine:Nat)<=(2 ^ 63 - 1) / 8:=by decide
  omega
 have hfit:¬(!Builtin.List.listFitsIndex k)=true:=by
  rw[fitsIndex_both h1 h2]
  exact qC_
 have hlong:¬Builtin.List.listTooLong (its.toArray.size*k.toNat)=true:=by
  rw[vw hlen]
  exact qC_
 have hnew:List.foldl (fun x1 x2=>x1++x2) #[] (List.replicate (if its.toArray.isEmpty=true then 0 else k.toNat) its.toArray)=(List.replicate k.toNat its).flatten.toArray:=by
  have f0:∀m:Nat,List.foldl (fun x1 x2=>x1++x2) #[] (List.replicate m its.toArray)=(List.replicate m its).flatten.toArray:=fun m=>by
   have:=foldl_rep its m []
   rw[qc_]at this
   exact this
  rw[f0]
  cases its with
  |nil=>simp
  |cons a r'=>rw[if_neg (by simp)]
 refine wpAny_binaryOp_repeat_ref (T:="list") (U:="int") (by decide) ⟨_,e,rfl⟩ (fun s'=>typeIs_int s' k t) noFill_list_mul F.fills_int_mul F.slot_int_rmul repeat_list F.slot_int_index.lookup
  (call_meets F.slot_int_rmul (typeIs_int s k t) F.entry_int_rmul (F.args_int_rmul_2 _ _) (int___rmul___int_list k t l its.toArray n)
    ⟨e,rfl,⟨_,e,rfl⟩,call_meets F.slot_list_mul ⟨_,e,rfl⟩ F.entry_list_mul (F.args_list_mul_2 _ _) (AutoListH.list___mul___list_int_3 l its.toArray n k t hfit hcap hlong) ⟨e,?_⟩⟩)
 rw[hnew]
 exact⟨.ref _,_,I.HR (t':=s.toks) (r.rep k.toNat) (by rw[len_rep,Nat.mul_comm];exact hz),rfl,q _ I.fresh⟩
end
section
variable{κ:Type} [DecidableEq κ]
def jI(kvs:List (κ×V))(k:κ):Option V:=(kvs.find? fun kv=>decide (kv.1=k)).map (·.2)
def putK(kvs:List (κ×V))(k:κ)(v:V):List (κ×V):=
 if (kvs.any fun kv=>decide (kv.1=k))=true then kvs.map (fun kv=>if kv.1=k then (kv.1,v)else kv)else kvs++[(k,v)]
def pe{p:κ×V}{r:List (κ×V)}{k:κ}(e:p.1=k):jI (p :: r) k=some p.2:=by simp [jI,List.find?_cons,e]
def qh{p:κ×V}{r:List (κ×V)}{k:κ}(e:¬p.1=k):jI (p :: r) k=jI r k:=by simp [jI,List.find?_cons,e]
theorem uH(k:κ):∀kvs:List (κ×V),(kvs.any fun kv=>decide (kv.1=k))=(jI kvs k).isSome
 | []=>rfl
 |p :: r=>by
  rw[List.any_cons]
  by_cases e:p.1=k
  · simp only[pe e,qZ_ e,Bool.true_or,Option.isSome_some]
  · rw[qh e,qa_ e,Bool.false_or];exact uH k r
def nZ(kvs:List (κ×V))(k:κ)(v:V):(putK kvs k v).length<=kvs.length+1:=by
 unfold putK
 split
 · rw[qM_];omega
 · rw[qN_,List.length_cons,List.length_nil];omega
def lC.iK{o:Option V}{u:Option Value}(r:lC o u):o.isSome=u.isSome:=by
 cases o with
 |none=>cases u with
  |none=>rfl
  |some _=>exact(show False from r).elim
 |some _=>cases u with
  |none=>exact(show False from r).elim
  |some _=>rfl
def KV.val{kvs:List (κ×V)}{vs:List (κ×Value)}(r:KV kvs vs)(k:κ):lC (jI kvs k) (valueAt vs k):=by
 unfold KV at r
 induction r with
 |nil=>exact True.intro
 |@cons p q ps qs h t ih=>
  obtain⟨h1,h2⟩:=h
  by_cases e:p.1=k
  · have e':q.1=k:=h1.symm.trans e
    have b:valueAt (q :: qs) k=some q.2:=by simp [valueAt,List.find?_cons,e']
    rw[pe e,b];exact h2
  · have e':¬q.1=k:=fun z=>e (h1.trans z)
    have b:valueAt (q :: qs) k=valueAt qs k:=by simp [valueAt,List.find?_cons,e']
    rw[qh e,b];exact ih
theorem KV.any{kvs:List (κ×V)}{vs:List (κ×Value)}(r:KV kvs vs)(k:κ):(kvs.any fun kv=>decide (kv.1=k))=vs.any fun kv=>decide (kv.1=k):=by
 unfold KV at r
 induction r with
 |nil=>rfl
 |cons h t ih=>rw[List.any_cons,List.any_cons,ih,h.1]
def KV.Fc{kvs:List (κ×V)}{vs:List (κ×Value)}(r:KV kvs vs)(k:κ){y:V}{u:Value}(ry:RelV y u):
 KV (kvs.map fun kv=>if kv.1=k then (kv.1,y)else kv) (vs.map fun kv=>if kv.1=k then (kv.1,u)else kv):=by
 unfold KV at r ⊢
 induction r with
 |nil=>exact .nil
 |@cons p q ps qs h t ih=>
  rw[List.map_cons,List.map_cons]
  refine .cons ?_ ih
  obtain⟨h1,h2⟩:=h
  by_cases e:p.1=k
  · rw[if_pos e,if_pos (h1.symm.trans e)];exact⟨h1,ry⟩
  · rw[if_neg e,if_neg (fun z=>e (h1.trans z))];exact⟨h1,h2⟩
def KV.put{kvs:List (κ×V)}{vs:List (κ×Value)}(r:KV kvs vs)(k:κ){y:V}{u:Value}(ry:RelV y u):KV (putK kvs k y) (stored vs k u):=by
 unfold putK stored
 rw[r.any k]
 by_cases e:(vs.any fun kv=>decide (kv.1=k))=true
 · rw[if_pos e,if_pos e];exact r.Fc k ry
 · rw[if_neg e,if_neg e];exact Paired.snoc r ⟨rfl,ry⟩
theorem KV.length{kvs:List (κ×V)}{vs:List (κ×Value)}(r:KV kvs vs):kvs.length=vs.length:=Paired.length r
end
def vh{P:Program}{w:World}{k:Key}{u:Value}(r:RelV (kV k) u):(bW P w).is k u=true:=by
 cases k with
 |inl i=>obtain⟨t,e⟩:=(show ∃t,u=Value.int i t from r);subst e;exact ue P w i t
 |inr x=>obtain⟨t,e⟩:=(show ∃t,u=Value.str x t from r);subst e;exact vz P w x t
theorem rP{P:Program}{w:World}:∀{ks:List Key} {us:List Value},Vals (ks.map kV) us->ItemsAre (bW P w) ks us
 | [],_,r=>by rw[List.map_nil]at r;cases r;exact .nil
 |k :: ks,_,r=>by
  rw[List.map_cons]at r
  cases r with
  |cons h t=>exact .cons (vh h) (rP t)
abbrev KT(H:Hp):List (List Key×V)->List (List Key×Addr×Value)->Prop:=Paired fun p q=>p.1=q.1/\H q.2.1=some (.tup (p.1.map kV))/\RelV p.2 q.2.2
def KT.val{H:Hp}{kvs:List (List Key×V)}{xs:List (List Key×Addr×Value)}(r:KT H kvs xs)(k:List Key):lC (jI kvs k) ((atKey xs k).map (·.2)):=by
 induction r with
 |nil=>exact True.intro
 |@cons p q ps qs h t ih=>
  obtain⟨h1,_,h2⟩:=h
  by_cases e:p.1=k
  · have e':q.1=k:=h1.symm.trans e
    have b:atKey (q :: qs) k=some q.2:=by simp [atKey,List.find?_cons,e']
    rw[pe e,b];exact h2
  · have e':¬q.1=k:=fun z=>e (h1.trans z)
    have b:atKey (q :: qs) k=atKey qs k:=by simp [atKey,List.find?_cons,e']
    rw[qh e,b];exact ih
def KT.Fc{H:Hp}{kvs:List (List Key×V)}{xs:List (List Key×Addr×Value)}(r:KT H kvs xs)(k:List Key){y:V}{u:Value}(ry:RelV y u):
 KT H (kvs.map fun kv=>if kv.1=k then (kv.1,y)else kv) (xs.map (putAt k u)):=by
 induction r with
 |nil=>exact .nil
 |@cons p q ps qs h t ih=>
  rw[List.map_cons,List.map_cons]
  refine .cons ?_ ih
  obtain⟨h1,h2,h3⟩:=h
  unfold putAt
  by_cases e:p.1=k
  · rw[if_pos e,if_pos (h1.symm.trans e)];exact⟨h1,h2,ry⟩
  · rw[if_neg e,if_neg (fun z=>e (h1.trans z))];exact⟨h1,h2,h3⟩
def KT.put{H:Hp}{kvs:List (List Key×V)}{xs:List (List Key×Addr×Value)}(r:KT H kvs xs)(k:List Key){b:Addr}{y:V}{u:Value}(hb:H b=some (.tup (k.map kV)))(ry:RelV y u):
 KT H (putK kvs k y) (storedH xs k b u):=by
 have e:(kvs.any fun kv=>decide (kv.1=k))=(atKey xs k).isSome:=by
  rw[uH,(r.val k).iK,Option.isSome_map]
 unfold putK storedH
 rw[e]
 by_cases q:(atKey xs k).isSome=true
 · rw[if_pos q,if_pos q];exact r.Fc k ry
 · rw[if_neg q,if_neg q];exact Paired.snoc r ⟨rfl,hb,ry⟩
def KT.keeps{H H':Hp}{kvs:List (List Key×V)}{xs:List (List Key×Addr×Value)}(r:KT H kvs xs)(ht:∀b ys,H b=some (.tup ys)->H' b=some (.tup ys)):KT H' kvs xs:=
 Paired.C9 r fun _ _ z=>⟨z.1,ht _ _ z.2.1,z.2.2⟩
section
variable{P:Program}{w:World}{H:Hp}{h:Heap}{a:Addr}
def DW{u:HO}(ok:HOk P w H h)(e:Rd H a u):bR P w H h a u:=e.ok ok
def qR{kvs:List (Key×V)}(ok:HOk P w H h)(e:Rd H a (.dK kvs)):kvs.length<=sizeLine/\(a==sysModules)=false/\∃vs,KV kvs vs/\h.DictOf (bW P w) a vs:=
 show bR P w H h a (.dK kvs)from DW ok e
def zW{kvs:List (Key×V)}(ok:HOk P w H h)(e:H a=some (.dK kvs)):kvs.length<=sizeLine/\(a==sysModules)=false/\∃vs,KV kvs vs/\h.DictOf (bW P w) a vs:=qR ok (.inl e)
def pN{ks:List Key}(ok:HOk P w H h)(e:H a=some (.tup (ks.map kV))):(tupleKind (bW P w)).is h ks a:=by
 obtain⟨_,its,r,o,h1,h2,n,h3⟩:=(show bR P w H h a (.tup (ks.map kV))from ok a _ e)
 exact⟨o,its.toArray,n,h1,h2,h3,by simpa using rP r⟩
def uJ{kvs:List (List Key×V)}(ok:HOk P w H h)(e:Rd H a (.dT kvs)):kvs.length<=sizeLine/\(a==sysModules)=false/\
 ∃xs,KT H kvs xs/\h.DictOfH (tupleKind (bW P w)) a xs:=by
 obtain⟨z,y,xs,r,o,es,ep,h1,h2,h3,h4,h5⟩:=(show bR P w H h a (.dT kvs)from DW ok e)
 refine⟨z,y,xs,r,o,es,ep,h1,h2,h3,h4,fun x hx=>?_,h5⟩
 have all:∀{l:List (List Key×V)} {m:List (List Key×Addr×Value)},KT H l m->∀x∈m,(tupleKind (bW P w)).is h x.1 x.2.1:=by
  intro l m q
  induction q with
  |nil=>intro x hx;exact nomatch hx
  |@cons p q ps qs hq t ih=>
   intro x hx
   rcases qS_.mp hx with e |hx
   · subst e
     exact pN ok (by rw[<-hq.1];exact hq.2.1)
   · exact ih x hx
 exact all r x hx
def Ic{kvs:List (List Key×V)}(ok:HOk P w H h)(e:H a=some (.dT kvs)):kvs.length<=sizeLine/\(a==sysModules)=false/\
 ∃xs,KT H kvs xs/\h.DictOfH (tupleKind (bW P w)) a xs:=uJ ok (.inl e)
end
def pG(H:Hp)(a:Addr)(y:V)(r:Option V):Prop:=
 (∃kvs k,Rd H a (.dK kvs)/\y=kV k/\r=jI kvs k)\/∃kvs k b,Rd H a (.dT kvs)/\y= .ref b/\H b=some (.tup (k.map kV))/\r=jI kvs k
def z9(H:Hp)(a:Addr)(y v:V)(H':Hp):Prop:=
 (∃kvs k,H a=some (.dK kvs)/\y=kV k/\kvs.length < sizeLine/\H'=upd H a (.dK (putK kvs k v)))\/
 ∃kvs k b,H a=some (.dT kvs)/\y= .ref b/\H b=some (.tup (k.map kV))/\kvs.length < sizeLine/\H'=upd H a (.dT (putK kvs k v))
theorem pG.k{H:Hp}{a:Addr}{kvs:List (Key×V)}{k:Key}(e:H a=some (.dK kvs)):pG H a (kV k) (jI kvs k):= .inl ⟨kvs,k,.inl e,rfl,rfl⟩
theorem z9.k{H:Hp}{a:Addr}{kvs:List (Key×V)}{k:Key}{v:V}(e:H a=some (.dK kvs))(hl:kvs.length < sizeLine):z9 H a (kV k) v (upd H a (.dK (putK kvs k v))):= .inl ⟨kvs,k,e,rfl,hl,rfl⟩
section
variable{X:Cx}{pins:List (Addr×Obj)}{σ:St}{H:Hp}{s:Shared}{a:Addr}{y v:V}{u r:Value}{o:Option V}{A:Around}{E:Value->Shared->Prop}
def Inv.big(I:Inv X pins σ H s):sysModules < s.heap.objs.size:=by
 have h:mainGlobals < s.heap.objs.size:=(I.mod.glob.keeps I.bk).lt
 exact Nat.lt_trans (by decide) h
def yh{Q:Value->Shared->Prop}(hu:A.units+1 < cLine)(I:Inv X pins σ H s)(g:pG H a y (some v))(ry:RelV y u)(h:∀w' s',Inv X pins σ H s'->RelV v w'->Q w' s'):
 wpAny (model X.prog X.w) A (getItem (.ref a) u) Q E s:=by
 rcases g with ⟨kvs,k,e,ey,l⟩ |⟨kvs,k,b,e,ey,eb,l⟩
 · subst ey
   obtain⟨z,hd,vs,rel,dd⟩:=qR I.hok e
   obtain⟨w',hw,rw'⟩:=lC.some_of (v:=v) (o:=valueAt vs k) (by rw[l];exact rel.val k)
   exact wpAny_getItem_of (vh ry) dd.mapOf hw (h w' _ (I.tok _) rw')
 · subst ey
   cases (show u=Value.ref b from ry)
   obtain⟨z,hd,xs,rel,dd⟩:=uJ I.hok e
   obtain⟨w',hw,rw'⟩:=lC.some_of (v:=v) (o:=(atKey xs k).map (·.2)) (by rw[l];exact rel.val k)
   obtain⟨p,hp,hp2⟩:=Option.map_eq_some_iff.mp hw
   refine wpAny_getItem_heap (tupleKind_room_in1 hu) (pN I.hok eb) dd hp ?_
   rw[hp2]
   exact h w' _ (I.tok _) rw'
def JO{Q:Value->Shared->Prop}(hu:A.units+1 < cLine)(I:Inv X pins σ H s)(g:pG H a y o)(ry:RelV y u)(h:∀s',Inv X pins σ H s'->Q (.bool o.isSome) s'):
 wpAny (model X.prog X.w) A (compareOp .In u (.ref a)) Q E s:=by
 rcases g with ⟨kvs,k,e,ey,l⟩ |⟨kvs,k,b,e,ey,eb,l⟩
 · subst ey
   obtain⟨z,hd,vs,rel,dd⟩:=qR I.hok e
   refine wpAny_in_of (vh ry) hd dd.mapOf ?_
   rw[<-(rel.val k).iK,<-l]
   exact h _ (I.tok _)
 · subst ey
   cases (show u=Value.ref b from ry)
   obtain⟨z,hd,xs,rel,dd⟩:=uJ I.hok e
   refine wpAny_in_heap (tupleKind_room_in1 hu) (pN I.hok eb) hd dd ?_
   have q:=(rel.val k).iK
   rw[Option.isSome_map]at q
   rw[<-q,<-l]
   exact h _ (I.tok _)
def DD{Q:Value->Shared->Prop}(hu:A.units+1 < cLine)(I:Inv X pins σ H s)(g:pG H a y o)(ry:RelV y u)(h:∀s',Inv X pins σ H s'->Q (.bool (!o.isSome)) s'):
 wpAny (model X.prog X.w) A (compareOp .NotIn u (.ref a)) Q E s:=by
 rcases g with ⟨kvs,k,e,ey,l⟩ |⟨kvs,k,b,e,ey,eb,l⟩
 · subst ey
   obtain⟨z,hd,vs,rel,dd⟩:=qR I.hok e
   refine wpAny_notIn_of (vh ry) hd dd.mapOf ?_
   rw[<-(rel.val k).iK,<-l]
   exact h _ (I.tok _)
 · subst ey
   cases (show u=Value.ref b from ry)
   obtain⟨z,hd,xs,rel,dd⟩:=uJ I.hok e
   refine wpAny_notIn_heap (tupleKind_room_in1 hu) (pN I.hok eb) hd dd ?_
   have q:=(rel.val k).iK
   rw[Option.isSome_map]at q
   rw[<-q,<-l]
   exact h _ (I.tok _)
def xq{h':Heap}{t':Nat}{ob:HO}(I:Inv X pins σ H s)(mu:Mut (H a))(hs:Heap.SameBut a s.heap h')(he:∃q,h'.get? a=some q)(new:bR X.prog X.w (upd H a ob) h' a ob):
 Inv X pins σ (upd H a ob) {s with heap:=h',toks:=t'}:=
 I.write (x:=a) (e:=a) mu (.inl rfl) (fun b q hb z=>(hs.2 b hb).trans z) he new
def EF{P:Program}{w:World}{H':Hp}{h':Heap}{kvs:List (Key×V)}{vs:List (Key×Value)}(z:kvs.length<=sizeLine)(hd:(a==sysModules)=false)(rel:KV kvs vs)(dd:h'.DictOf (bW P w) a vs):
 bR P w H' h' a (.dK kvs):=⟨z,hd,vs,rel,dd⟩
def yI{H':Hp}{Q:Unit->Shared->Prop}(hu:A.units+1 < cLine)(I:Inv X pins σ H s)(g:z9 H a y v H')(ry:RelV y u)(rv:RelV v r)(h:∀s',Inv X pins σ H' s'->Q () s'):
 wpAny (model X.prog X.w) A (setItem (.ref a) u r) Q E s:=by
 rcases g with ⟨kvs,k,e,ey,l,eH⟩ |⟨kvs,k,b,e,ey,eb,l,eH⟩
 · subst ey eH
   obtain⟨z,hd,vs,rel,dd⟩:=zW I.hok e
   have hz:vs.length<=sizeLine:=by rw[<-rel.length];exact z
   have hl:(putK kvs k v).length<=sizeLine:=by have:=nZ kvs k v;omega
   refine wpAny_setItem_pairs (hsz:=hz) (vh ry) dd fun h' dd' hs=>h _ ?_
   have he:∃q,h'.get? a=some q:=let ⟨q,_,_,hq,_⟩:=dd';⟨q,hq⟩
   exact xq I (by rw[e];exact True.intro) hs he (EF hl hd (rel.put k rv) dd')
 · subst ey eH
   cases (show u=Value.ref b from ry)
   obtain⟨z,hd,xs,rel,dd⟩:=Ic I.hok e
   have hz:xs.length<=sizeLine:=by rw[<-Paired.length rel];exact z
   have hl:(putK kvs k v).length<=sizeLine:=by have:=nZ kvs k v;omega
   refine wpAny_setItem_heap (hsz:=hz) (tupleKind_room_in1 hu) (pN I.hok eb) dd fun h' dd' hs=>h _ ?_
   obtain⟨q,es,ep,hq,h2,h3,h4,_,h5⟩:=dd'
   refine xq I (by rw[e];exact True.intro) hs ⟨q,hq⟩ ⟨hl,hd,_,(rel.put k eb rv).keeps fun c ys ec=>?_,q,es,ep,hq,h2,h3,h4,h5⟩
   rw[aJ (Bf ec e (fun z=>nomatch z))]
   exact ec
end
section
variable{X:Cx}{pins:List (Addr×Obj)}{σ:St}{H:Hp}{s:Shared}{a:Addr}{kvs:List (Key×V)}{k:Key}{u:Value}{A:Around}{E:Value->Shared->Prop}
def HI{Q:Value->Shared->Prop}(I:Inv X pins σ H s)(e:Rd H a (.dK kvs))(h:∀t s',Inv X pins σ H s'->Q (.int kvs.length t) s'):wpAny (model X.prog X.w) A (call (.builtin "len") [.ref a]) Q E s:=by
 obtain⟨z,hd,vs,rel,dd⟩:=qR I.hok e
 refine call_len_dict hd dd (by rw[<-rel.length];rw[sizeLine_eq]at z;omega) ?_
 rw[<-rel.length]
 exact h _ _ (I.tok _)
end
def uY{X:Cx}{pins:List (Addr×Obj)}{σ:St}{H:Hp}{s:Shared}{a:Addr}{y:V}{o:Option V}(I:Inv X pins σ H s)(g:pG H a y o):s.TypeIs (.ref a) "dict":=by
 rcases g with ⟨kvs,k,e,_,_⟩ |⟨kvs,k,b,e,_,_,_⟩
 · obtain⟨_,_,vs,_,dd⟩:=qR I.hok e
   exact dd.typeIs
 · obtain⟨_,_,xs,_,dd⟩:=uJ I.hok e
   exact dd.typeIs
def Ao{P:Program}{w:World}{H:Hp}(h:Heap)(hb:sysModules < h.objs.size):bR P w H (h.push {cls:= .type "dict",data:= .dict #[]}) h.objs.size (.dK []):=
 ⟨qf_ _,beq_eq_false_iff_ne.mpr (Ne.symm (Nat.ne_of_lt hb)),[],.nil,Heap.DictOf.new h⟩
def F1:TE:=fun _ H Q=>∀p,H p=none->Q (.ref p) (upd H p (.dK []))
section
variable{X:Cx}{pos:Pos}
def AQ:PE X (.Dict [] [] pos) F1:=fun pins s σ H Q I h=>
 wpAny_Dict_empty ⟨.ref s.heap.objs.size,_,I.laid (a:=s.heap.objs.size) (o:= .dK []) (t':=s.toks) (fun _ _ q=>Heap.get?_push_of_some _ q) (qO_ _) (Ao s.heap I.big),rfl,h _ (I.hok.fresh (qO_ _))⟩
end
end L2
namespace Att
open PySem PySem.W PySem.Calls PyProof.Rows
def ox{P:Params}{h:Heap}:∀(ns:List Int) (vs:List Value),WellAll P h vs (ns.map WData.int)->IntsAre vs ns:=by
 intro ns
 induction ns with
 |nil=>
  intro vs w
  rw[List.map_nil]at w
  cases w
  exact .nil
 |cons n ns ih=>
  intro vs w
  rw[List.map_cons]at w
  cases w with
  |cons a b=>
   cases a
   exact .cons _ _ (ih _ b)
def yg{l:OpenLaw}{n:Nat}(hn:l.most=some n){P:Params}{h:Heap}{args:List WData}{vals:List Value}
 (hpre:l.row.toRowW.claim.pre args=true) (hwl:WellAll P h vals args):
 ∃a vs ns,vals=[Value.ref a]/\args=[WData.list (ns.map WData.int)]/\h.get? a=some {cls:= .type "list",data:= .seq vs.toArray}/\IntsAre vs ns/\ns.length<=n:=by
 have hsh:WShape.hasAll [] args [.list .int]=true:=(pre_splitW hpre).1
 have hc:l.pre.holds [] {args:=args}=true:=(pre_splitW hpre).2
 obtain⟨d,r,rfl,h1,h2⟩:=hasAllW_cons hsh
 obtain rfl:=hasAllW_nil h2
 obtain⟨xs,rfl,h3⟩:=hasW_list h1
 obtain⟨ns,rfl⟩:=items_int h3
 have hlen:ns.length<=n:=by
  unfold OpenLaw.pre at hc
  have h4:(WTm.not (.lt (.lit (.int (n:Int))) (.len (.arg 0)))).holds [] {args:=[.list (ns.map .int)]}=true:=by
   have h4:=(holds_andW hc).1
   rw[hn]at h4
   exact h4
  have h5:=condW_of h4 (w_not (w_lt w_lit (w_len_list (w_arg rfl))))
  rw[qM_]at h5
  refine Nat.le_of_not_lt fun q=>?_
  have q':(n:Int) < ((ns.length:Nat):Int):=by omega
  first
   |(rw[qZ_ q']at h5;exact absurd h5 (by decide))
   |(simp at h5;omega)
 cases hwl with
 |cons w1 w2=>
  cases w2
  cases w1 with
  |list ho af=>exact⟨_,_,ns,rfl,rfl,ho,ox ns _ af,hlen⟩
def ym(l:OpenLaw)(args:List WData):l.row.toRowW.claim.post args (.bool true) args=true:=
 postW_of (r:=l.row.toRowW) (X:=(true==true))
  (show WShape.has [] (.bool true) .bool=true by first |rfl |decide |simp [WShape.has,WShape.arms,WShape.armsAll])
  (show (WTm.eq .res (.lit (.bool true))).value [] {args:=args,res:=some (.bool true),after:=args}=some (.bool (true==true))from w_eq_bool (w_res rfl) w_lit) rfl
def uz{l:OpenLaw}{n:Nat}{q:Program}{loose:List Str}{XP:(Str->Option Value)->Heap->Prop}{YP:World->Heap->Prop}{d:DefRec}
 (hn:l.most=some n) (hdf:d.params.defaults=[])
 (call:∀(w:World) (s₀ s₁:Shared) (mg mb:Str->Option Value) (fa:Addr) (o:Obj) (pm cd doc:Value) (a:Addr) (vs:List Value) (ns:List Int),
   Ground q loose [] XP w s₀ mg mb s₁.heap->YP w s₁.heap->
   s₁.heap.get? fa=some o->o.data= .func (docDef d.name d.params d.body d.scope pm cd doc)->s₁.heap.CodeRec cd d.name->mg d.name=some (.ref fa)->
   s₁.heap.get? a=some {cls:= .type "list",data:= .seq vs.toArray}->IntsAre vs ns->ns.length<=n->s₁.gens=#[]->
   codeAny (model l.prog w) callerA (.call (.ref fa) ⟨[.ref a],[]⟩) (fun r s'=>r= .ok (.ret (.bool true))/\OldK s₁.heap s'.heap/\s'.os=s₁.os/\AllBare s'.gens) s₁):
 WalkO q loose XP YP l.row.toRowW d [] (fun f vs=>PySem.call f vs):=by
 intro w s₀ s₁ mg mb G Y fa o pm cd doc dV kV ho hd hcd hD hmg hg args vals as hpre hlay hrd hwl hlo
 obtain rfl:dV= .none:=Dflts.none hD hdf
 obtain rfl:kV= .none:=Dflts.noKw hD
 obtain⟨a,vs,ns,rfl,rfl,hobj,hints,hlen⟩:=yg hn hpre hwl
 refine enter_call (codeAny_mono (call w s₀ s₁ mg mb fa o pm cd doc a vs ns G Y ho (fd_plain hd) hcd hmg hobj hints hlen hg) fun r s' hq=>?_)
 obtain⟨rfl,h2,h3,h4⟩:=hq
 exact⟨.inl ⟨.bool true,.bool true,[],rfl,fun _=>rfl,.bool true,ym l _,fun _=>⟨List.Pairwise.nil,fun _ hm=>(nomatch hm)⟩⟩,h2,h3,h4⟩
end Att
namespace L2
open PySem PySem.Spec PyProof.Rows
theorem rD:∀{vs:List Value} {ns:List Int},IntsAre vs ns->Vals (ns.map V.int) vs
 |_,_,.nil=>.nil
 |_,_,.cons n t h=>.cons ⟨t,rfl⟩ (rD h)
def BY(H:Hp):Prop:=∀b,H b=none\/∃o xs,H b=some (.frz o (.lst xs))
def zx{P:Program}{w:World}{K:PySem.W.Frag}{mg mb:Str->Option Value}{CX:CXT}{k:Nat}{fa a:Addr}{fd:FuncData}{x:Str}{sp:Sp}{s₁:Shared}{vs:List Value}{ns:List Int}
 (KX:K.In s₁.heap) (hns:s₁.heap.Ns mainGlobals mg) (hb:s₁.heap.Ns builtinsNs mb) (hbb:∀x:Str,x≠"__name__"->mb x=bootBuiltins x) (hlim:s₁.heap.NoLimit) (hg:s₁.gens=#[])
 (ha:s₁.heap.get? a=some {cls:= .type "list",data:= .seq vs.toArray}) (hi:IntsAre vs ns) (hl:ns.length<=sizeLine) (hr:dC k callerA)
 (F:∀base:Heap,K.In base->base.Ns mainGlobals mg->aQ P w K mg base CX k fa fd [x] sp) (hbind:∀(s:Shared) (u:Value),BindsTo s fd ⟨[u],[]⟩ [(x,u)])
 (hsp:∀H:Hp,BY H->SqL K H a (ns.map V.int)->sp [.ref a] H (fun v _=>v= .bl true) fun _ _ _=>False)
 (hCX:∀H e s',CX [] H s₁ (fun _ _ _=>False) e s'->False):
 codeAny (model P w) callerA (.call (.ref fa) ⟨[.ref a],[]⟩) (fun r s'=>r= .ok (.ret (.bool true))/\OldK s₁.heap s'.heap/\s'.os=s₁.os/\AllBare s'.gens) s₁:=by
 have rv:=rD hi
 have lenV:=hi.length
 have core:∀H:Hp,BY H->SqL K H a (ns.map V.int)->HOk P w H s₁.heap->(∀b,H b≠none->b=a)->(H a≠none->K.lookup a=none)->
  codeAny (model P w) callerA (.call (.ref fa) ⟨[.ref a],[]⟩) (fun r s'=>r= .ok (.ret (.bool true))/\OldK s₁.heap s'.heap/\s'.os=s₁.os/\AllBare s'.gens) s₁:=by
  intro H hO hS hok hA hK
  have base_of:∀{b:Addr} {o:Obj},s₁.heap.get? b=some o->H b=none->(tw s₁.heap H).get? b=some o:=fun e n=>zD e n
  have noA:∀{b:Addr} {o:Obj} {es:Array DictEntry} {ep:Nat},s₁.heap.get? b=some o->o.data= .dict es ep->H b=none:=fun {b o es ep} e d=>by
   cases q:H b with
   |none=>rfl
   |some u=>
    have e':b=a:=hA b (by rw[q];simp)
    subst e'
    rw[ha]at e;cases e
    have d':Data.seq vs.toArray _=Data.dict es ep:=d
    cases d'
  have nsK:∀{b:Addr} {m:Str->Option Value},s₁.heap.Ns b m->(tw s₁.heap H).Ns b m:=fun {b m} ⟨o,es,ep,e,d,r⟩=>⟨o,es,ep,base_of e (noA e d),d,r⟩
  have hKb:K.In (tw s₁.heap H):=fun b o e=>base_of (KX b o e) (by
   cases q:H b with
   |none=>rfl
   |some u=>
    have e':b=a:=hA b (by rw[q];simp)
    subst e'
    rw[hK (by rw[q];simp)]at e;cases e)
  have hM:Mod K mg (tw s₁.heap H):=⟨hKb,nsK hns,⟨mb,nsK hb,hbb⟩,let ⟨mc,h1,h2⟩:=hlim;⟨mc,nsK h1,h2⟩⟩
  have e0:vN P w K mg (tw s₁.heap H) callerA [] s₁ H:=⟨rfl,hM,fun b o e=>Du e,Nat.le_of_eq (yl _ _),trivial,fun b hb=>absurd (show b∈([]:List Addr)from hb) (by simp),hok,.of_eq hg⟩
  refine codeAny_mono ((F _ hKb (nsK hns)).run callerA [] s₁ H ⟨[.ref a],[]⟩ [.ref a] [.ref a] _ _ hr e0 (hbind s₁ (.ref a)) (.cons rfl .nil) (hsp H hO hS)) fun r s' h=>?_
  cases r with
  |error e=>exact(hCX H e s' h).elim
  |ok fl=>
   cases fl with
   |next=>exact False.elim h
   |brk=>exact False.elim h
   |cont=>exact False.elim h
   |ret u=>
    obtain⟨v,H',os,bare,un,hok',r',q⟩:=h
    have q':v= .bl true:=q
    subst q'
    obtain rfl:u=Value.bool true:=r'
    refine⟨rfl,OldK.of_keep fun b o e=>?_,os,bare⟩
    cases q:H b with
    |none=>exact un.keep b o e q (by intro z;exact absurd (show b∈([]:List Addr)from z) (by simp)) (by simp)
    |some u=>
     rcases hO b with z |⟨ob,xs,z⟩
     · rw[q]at z;cases z
     · have z2:=un.nK b ob _ z
       obtain⟨e1,_⟩:=hok b _ z
       obtain⟨e2,_⟩:=hok' b _ z2
       rw[e]at e1;cases e1
       exact e2
 cases hk:K.lookup a with
 |some o=>
  have e:=KX a o hk
  rw[ha]at e
  cases e
  refine core (fun _=>none) (fun _=>.inl rfl) (.inr ⟨_,vs.toArray,_,hk,rfl,rfl,rfl,by rw[qW_,lenV];exact hl,by simpa using rv⟩) (fun b u z=>by have z':(none:Option HO)=some u:=z;cases z') (fun b z=>absurd rfl z) fun z=>absurd rfl z
 |none=>
  refine core (fun b=>if b=a then some (.frz {cls:= .type "list",data:= .seq vs.toArray} (.lst (ns.map V.int)))else none) (fun b=>?_) (.inl (.inr ⟨{cls:= .type "list",data:= .seq vs.toArray},if_pos rfl⟩)) (fun b u z=>?_) (fun b z=>?_) fun _=>hk
  · by_cases hb:b=a
    · exact .inr ⟨_,_,if_pos hb⟩
    · exact .inl (if_neg hb)
  · by_cases hb:b=a
    · have z':=(if_pos hb).symm.trans z
      cases z'
      subst hb
      exact⟨ha,by rw[qM_];exact hl,vs,_,rv,ha⟩
    · have z':=(if_neg hb).symm.trans z
      cases z'
  · by_cases hb:b=a
    · exact hb
    · exact absurd (if_neg hb) z
def CD{l:PySem.W.OpenLaw}{n k:Nat}{q:Program}{loose:List Str}{XP:(Str->Option Value)->Heap->Prop}{YP:World->Heap->Prop}{d:DefRec}{K:Params->PySem.W.Frag}{CX:World->CXT}{sp:World->Sp}{x:Str}
 (hn:l.most=some n) (hn2:n<=sizeLine) (hdf:d.params.defaults=[]) (hr:dC k callerA)
 (hY:∀(w:World) (h:Heap),YP w h->(K w.params).In h)
 (F:∀(w:World) (mg:Str->Option Value) (fa:Addr) (h:Heap),(K w.params).In h->h.Ns mainGlobals mg->mg d.name=some (.ref fa)->
   ∃fd:FuncData,(∀(s:Shared) (u:Value),BindsTo s fd ⟨[u],[]⟩ [(x,u)])/\
    ∀base:Heap,(K w.params).In base->base.Ns mainGlobals mg->aQ l.prog w (K w.params) mg base (CX w) k fa fd [x] (sp w))
 (hsp:∀(w:World) (H:Hp) (a:Addr) (ns:List Int),ns.length<=n->BY H->SqL (K w.params) H a (ns.map V.int)->sp w [.ref a] H (fun v _=>v= .bl true) fun _ _ _=>False)
 (hCX:∀(w:World) (H:Hp) (s:Shared) (e:Value) (s':Shared),CX w [] H s (fun _ _ _=>False) e s'->False):
 PySem.W.WalkO q loose XP YP l.row.toRowW d [] (fun f vs=>PySem.call f vs):=by
 refine Att.uz hn hdf fun w s₀ s₁ mg mb fa o pm cd doc a vs ns G Y ho hd hcd hmg hobj hints hlen hg=>?_
 have KX:=hY w _ Y
 obtain⟨fd,hb,hF⟩:=F w mg fa _ KX G.T.g hmg
 exact zx KX G.T.g G.T.b G.T.builtins G.T.nolimit hg hobj hints (Nat.le_trans hlen hn2) hr hF hb (fun H hO hS=>hsp w H a ns hlen hO hS) fun H e s'=>hCX w H s₁ e s'
def inClass(s:Stmt)(j:Nat):Stmt:=match s with
 | .ClassDef _ _ _ body _ _ _ _ _ _ _=>body.getD j (.Pass ⟨0,0,0,0⟩)
 |_=>.Pass ⟨0,0,0,0⟩
def mW(s:Stmt):Arguments:=match s with
 | .FunctionDef _ a _ _ _ _ _ _ _ _=>a
 |_=>{posonlyargs:=[],args:=[],vararg:=none,kwonlyargs:=[],kw_defaults:=[],kwarg:=none,defaults:=[]}
def gj(s:Stmt):List Stmt:=match s with
 | .FunctionDef _ _ b _ _ _ _ _ _ _=>b
 |_=>[]
def aj(s:Stmt):Scope:=match s with
 | .FunctionDef _ _ _ _ _ _ sc _ _ _=>sc
 |_=>{kind:= .function,names:=[],isGenerator:=false,isCoroutine:=false}
abbrev CX0:CXT:=fun _ _ _ _ _ _=>False
structure Fun (K:PySem.W.Frag) (x qual:Str) (st:Stmt) (f:Addr) (fd:FuncData):Prop where
 ex:∃(oc:Value) (od:Option Addr) (kV doc pm:Value) (an:Option Addr) (cdv ct:Value) (osl:Array (Option Value)),
  fd=PySem.W.fnOf x qual (mW st) (gj st) (aj st) .none kV doc pm an cdv ct/\K.lookup f=some ⟨oc,od,.func fd,osl⟩/\PySem.W.codeIn K cdv qual=true
 kp:PySem.W.keepIn K (.ref f)=true
section
variable{P:Program}{w:World}{K:PySem.W.Frag}{mg:Str->Option Value}{base:Heap}
def Fun.ok{x qual:Str}{st:Stmt}{f:Addr}{fd:FuncData}{N ps:List Str}{k:Nat}{sp:Sp}(F:Fun K x qual st f fd)(S:aq N ps (aj st))(len:∀vs H Q E,sp vs H Q E->vs.length=ps.length)
 (hbody:∀(cdv:Value) (A:Around) (outer:List Env) (s:Shared) (H:Hp) (vs:List V) (Q:VK) (E:XK),dC k (A.deeper (envOfC qual (aj st) s.heap.objs.size f cdv))->sp vs H Q E->
   ∃t,PSs (lA CX0 P w K mg base N qual (aj st) f cdv A outer s H E).nox (gj st) t/\t {nx:=fun _ H'=>Q .non H',rt:=Q} (start N vs) H):aQ P w K mg base CX0 (k+1) f fd ps sp:=by
 obtain⟨oc,od,kV,doc,pm,an,cdv,ct,osl,rfl,lk,hcd⟩:=F.ex
 refine Ep lk hcd S len fun A outer s H vs Q E hr hsp=>?_
 obtain⟨t,h,q⟩:=hbody cdv A outer s H vs Q E hr hsp
 exact⟨t,h.nox,q⟩
def Fun.binds{x qual:Str}{st:Stmt}{f:Addr}{fd:FuncData}{ps:List Str}(F:Fun K x qual st f fd)
 (h:∀(kV doc pm:Value) (an:Option Addr) (cdv ct:Value) (us:List Value),us.length=ps.length->bindArgs (PySem.W.fnOf x qual (mW st) (gj st) (aj st) .none kV doc pm an cdv ct) ⟨us,[]⟩=pure (ps.zip us)):Binds K fd ps []:=by
 obtain⟨oc,od,kV,doc,pm,an,cdv,ct,osl,rfl,lk,hcd⟩:=F.ex
 exact .all (h kV doc pm an cdv ct)
def GW{x qual:Str}{st:Stmt}{f:Addr}{oc:Value}{od an:Option Addr}{osl:Array (Option Value)}{kV doc pm cdv ct:Value}(l:K.lookup f=some ⟨oc,od,.func (PySem.W.fnOf x qual (mW st) (gj st) (aj st) .none kV doc pm an cdv ct),osl⟩)
 (c:PySem.W.codeIn K cdv qual=true) (k:PySem.W.keepIn K (.ref f)=true):Fun K x qual st f (PySem.W.fnOf x qual (mW st) (gj st) (aj st) .none kV doc pm an cdv ct):=⟨⟨oc,od,kV,doc,pm,an,cdv,ct,osl,rfl,l,c⟩,k⟩
end
section
variable{X:Cx}
def yY:fw X (.builtin "len") (fun xs H Q=>∃a kvs,xs=[V.ref a]/\H a=some (.dK kvs)/\Q (.int kvs.length) H):=by
 intro pins s σ H xs us Q I r h
 obtain⟨a,kvs,rfl,ha,q⟩:=h
 obtain⟨u,rfl,ru⟩:=vals1 r
 cases ru
 exact HI I (.inl ha) fun t s' I'=>⟨.int kvs.length,H,I',⟨t,rfl⟩,q⟩
end
def fU(H H':Hp):Prop:=∀b o,H b=some o->H' b=some o
end L2
namespace M3
open PySem
inductive D where
 |non |bl (b:Bool) |int (i:Int) |str (x:Str) |tup (xs:List D) |ref (n:Nat)
 deriving Inhabited
mutual
def D.beq:D->D->Bool
 | .non,.non=>true
 | .bl a,.bl b=>a==b
 | .int a,.int b=>a==b
 | .str a,.str b=>decide (a=b)
 | .tup a,.tup b=>D.yF a b
 | .ref a,.ref b=>a==b
 |_,_=>false
def D.yF:List D->List D->Bool
 | [],[]=>true
 |a :: r,b :: t=>D.beq a b&&D.yF r t
 |_,_=>false
end
mutual
theorem D.beq_iff:∀(x y:D),D.beq x y=true↔x=y
 | .non,y=>by cases y <;> simp [D.beq]
 | .bl a,y=>by cases y <;> simp [D.beq]
 | .int a,y=>by cases y <;> simp [D.beq]
 | .str a,y=>by cases y <;> simp [D.beq]
 | .tup a,y=>by
   cases y with
   |tup b=>simp only[D.beq,D.tup.injEq];exact D.uo a b
   |_=>simp [D.beq]
 | .ref a,y=>by cases y <;> simp [D.beq]
theorem D.uo:∀(x y:List D),D.yF x y=true↔x=y
 | [],y=>by cases y <;> simp [D.yF]
 |a :: r,y=>by
  cases y with
  |nil=>simp [D.yF]
  |cons b t=>
   simp only[D.yF,Bool.and_eq_true,List.cons.injEq]
   rw[D.beq_iff a b,D.uo r t]
end
instance:DecidableEq D:=fun x y=>decidable_of_iff _ (D.beq_iff x y)
abbrev Key:=Sum Int Str
inductive O where
 |lst (xs:List D) |frz (xs:List D) |dK (kvs:List (Key×D)) |dF (kvs:List (Key×D)) |dT (kvs:List (List Int×D)) |ins (C:Nat) (fs:List (Nat×D))
 deriving Inhabited,DecidableEq
inductive Oc (α:Type) where
 |ok (a:α) |exc (c:Nat)
abbrev Hh:=List O
abbrev M(α:Type):=Hh->Option (Oc α×Hh)
def ret{α:Type}(a:α):M α:=fun G=>some (.ok a,G)
def fail{α:Type}:M α:=fun _=>none
def bnd{α β:Type}(m:M α)(k:α->M β):M β:=fun G=>match m G with
 |some (.ok a,G')=>k a G'
 |some (.exc c,G')=>some (.exc c,G')
 |none=>none
def run{α:Type}(m:M α)(G:Hh)(Q:α->Hh->Prop)(E:Nat->Hh->Prop):Prop:=match m G with
 |some (.ok a,G')=>Q a G'
 |some (.exc c,G')=>E c G'
 |none=>False
def aS{α β:Type}{m:M α}{k:α->M β}{G:Hh}{Q:β->Hh->Prop}{E:Nat->Hh->Prop}(h:run (bnd m k) G Q E):run m G (fun a G1=>run (k a) G1 Q E) E:=by
 unfold run bnd at*
 cases e:m G with
 |none=>rw[e]at h;exact h
 |some p=>
  obtain⟨o,G1⟩:=p
  rw[e]at h
  cases o with
  |ok a=>exact h
  |exc c=>exact h
def au{α:Type}{m:M α}{G:Hh}{Q Q':α->Hh->Prop}{E E':Nat->Hh->Prop}(h:run m G Q E)(hq:∀a G',Q a G'->Q' a G')(he:∀c G',E c G'->E' c G'):run m G Q' E':=by
 unfold run at*
 cases e:m G with
 |none=>rw[e]at h;exact h
 |some p=>
  obtain⟨o,G1⟩:=p
  rw[e]at h
  cases o with
  |ok a=>exact hq _ _ h
  |exc c=>exact he _ _ h
@[simp] theorem bnd_ret {α β:Type} (a:α) (k:α->M β):bnd (ret a) k=k a:=rfl
def kZ{α β γ:Type}(m:M α)(k:α->M β)(l:β->M γ):bnd (bnd m k) l=bnd m fun a=>bnd (k a) l:=by
 funext G
 unfold bnd
 cases m G with
 |none=>rfl
 |some p=>
  obtain⟨o,G1⟩:=p
  cases o <;> rfl
abbrev St:=List (Option D)
abbrev E3:=St->M D
abbrev T3:=St->M Bool
abbrev A3:=St->M (List D)
inductive Fl where
 |next |brk |cont |ret (d:D)
abbrev S3:=St->M (Fl×St)
def ae(i:Nat):E3:=fun σ=>match σ[i]? with
 |some (some d)=>ret d
 |_=>fail
def eC(d:D):E3:=fun _=>ret d
def eOp(f:D->D->M D)(a b:E3):E3:=fun σ=>bnd (a σ) fun x=>bnd (b σ) fun y=>f x y
def eUn(f:D->M D)(a:E3):E3:=fun σ=>bnd (a σ) f
def ai:A3:=fun _=>ret []
def aa(e:E3)(r:A3):A3:=fun σ=>bnd (e σ) fun x=>bnd (r σ) fun xs=>ret (x :: xs)
def aC:Nat:=16777216
def new(o:O):M D:=fun G=>some (.ok (.ref G.length),G++[o])
def bU(a:A3):E3:=fun σ=>bnd (a σ) fun xs=>if xs.length<=aC then ret (.tup xs)else fail
def cS(a:A3):E3:=fun σ=>bnd (a σ) fun xs=>if xs.length<=aC then new (.lst xs)else fail
def av(f:List D->M D)(a:A3):E3:=fun σ=>bnd (a σ) f
def eIf(t:T3)(a b:E3):E3:=fun σ=>bnd (t σ) fun c=>if c then a σ else b σ
def truth(d:D):M Bool:=fun G=>match d with
 | .non=>some (.ok false,G)
 | .bl b=>some (.ok b,G)
 | .int i=>some (.ok (i !=0),G)
 | .str x=>if x.length<=aC then some (.ok (x.length !=0),G)else none
 | .tup xs=>some (.ok (!xs.isEmpty),G)
 | .ref n=>match G[n]? with
   |some (.lst xs)=>some (.ok (!xs.isEmpty),G)
   |some (.frz xs)=>some (.ok (!xs.isEmpty),G)
   |some (.dK kvs)=>some (.ok (!kvs.isEmpty),G)
   |_=>none
def tOf(e:E3):T3:=fun σ=>bnd (e σ) truth
def asB(d:D):M Bool:=match d with
 | .bl b=>ret b
 |_=>fail
def tB(e:E3):T3:=fun σ=>bnd (e σ) asB
def nA(t u:T3):T3:=fun σ=>bnd (t σ) fun c=>if c then u σ else ret false
def tOr(t u:T3):T3:=fun σ=>bnd (t σ) fun c=>if c then ret true else u σ
def eT(t:T3):T3:=fun σ=>bnd (t σ) fun c=>ret (!c)
def oq(a b:E3):E3:=fun σ=>bnd (a σ) fun x=>bnd (asB x) fun c=>if c then b σ else ret (.bl false)
def eOr(a b:E3):E3:=fun σ=>bnd (a σ) fun x=>bnd (asB x) fun c=>if c then ret (.bl true)else b σ
def Br(a:E3):E3:=fun σ=>bnd (a σ) fun x=>bnd (asB x) fun c=>ret (.bl (!c))
def small(i:Int):Bool:=decide (-(2 ^ 64) < i/\i < 2 ^ 64)
def fW(x y:D):M D:=match x,y with
 | .int i,.int j=>ret (.int (i+j))
 | .str a,.str b=>if a.length+b.length<=aC then ret (.str (a++b))else fail
 | .tup a,.tup b=>if a≠ []/\a.length+b.length<=aC then ret (.tup (a++b))else fail
 | .ref i,.ref j=>fun G=>match G[i]?,G[j]? with
   |some (.lst a),some (.lst b)=>if a.length+b.length<=aC then new (.lst (a++b)) G else none
   |_,_=>none
 |_,_=>fail
def rR(x y:D):M D:=match x,y with
 | .int i,.int j=>ret (.int (i - j))
 |_,_=>fail
def eP(x y:D):M D:=match x,y with
 | .int i,.int j=>if small i||small j then ret (.int (i*j))else fail
 | .str a,.int k=>if 0<=k/\k<=1000/\a.length<=1000 then ret (.str (Txt.mul a k))else fail
 | .ref n,.int k=>fun G=>match G[n]? with
   |some (.lst xs)=>if 0<=k/\k<=1000000/\xs.length*k.toNat<=aC then new (.lst (List.replicate k.toNat xs).flatten) G else none
   |_=>none
 |_,_=>fail
def oMod(x y:D):M D:=match x,y with
 | .int i,.int j=>if 0 < j then ret (.int (i % j))else fail
 |_,_=>fail
def oDiv(x y:D):M D:=match x,y with
 | .int i,.int j=>if 0 < j/\j < 1073741824 then ret (.int (i / j))else fail
 |_,_=>fail
def Cr(x:D):M D:=match x with
 | .int i=>ret (.int (-i))
 |_=>fail
def eO:List Int->List Int->Bool
 | [],[]=>false
 | [],_ :: _=>true
 |_ :: _,[]=>false
 |a :: r,b :: t=>if a=b then eO r t else decide (a < b)
def intsOf:List D->Option (List Int)
 | []=>some []
 | .int i :: r=>(intsOf r).map (i :: ·)
 |_ :: _=>none
def oLt(x y:D):M D:=match x,y with
 | .int i,.int j=>ret (.bl (decide (i < j)))
 | .tup a,.tup b=>match intsOf a,intsOf b with
   |some m,some n=>ret (.bl (eO m n))
   |_,_=>fail
 |_,_=>fail
def oGt(x y:D):M D:=match x,y with
 | .int i,.int j=>ret (.bl (decide (j < i)))
 | .tup a,.tup b=>match intsOf a,intsOf b with
   |some m,some n=>ret (.bl (eO n m))
   |_,_=>fail
 |_,_=>fail
def oGe(x y:D):M D:=match x,y with
 | .int i,.int j=>ret (.bl (decide (j<=i)))
 |_,_=>fail
def eqZ(f:D->D->Option Bool):List D->List D->Option Bool
 |a :: r,b :: t=>match f a b,eqZ f r t with
  |some p,some q=>some (p&&q)
  |_,_=>none
 |_,_=>some true
def listOf(G:Hh)(n:Nat):Option (List D):=match G[n]? with
 |some (.lst xs)=>some xs
 |some (.frz xs)=>some xs
 |_=>none
def eqG(G:Hh):Nat->D->D->Option Bool
 |0,_,_=>none
 |k+1,x,y=>match x,y with
  | .non,.non=>some true
  | .bl a,.bl b=>some (a==b)
  | .int a,.int b=>some (decide (a=b))
  | .str a,.str b=>some (decide (a=b))
  | .tup a,.tup b=>(eqZ (eqG G k) a b).map (·&&decide (a.length=b.length))
  | .ref i,.ref j=>match listOf G i,listOf G j with
    |some a,some b=>if a.length=b.length then eqZ (eqG G k) a b else some false
    |_,_=>none
  | .non,.int _=>some false
  | .int _,.non=>some false
  | .non,.str _=>some false
  | .str _,.non=>some false
  | .non,.tup _=>some false
  | .tup _,.non=>some false
  | .int _,.str _=>some false
  | .str _,.int _=>some false
  | .int _,.tup _=>some false
  | .tup _,.int _=>some false
  |_,_=>none
def oEq(x y:D):M D:=fun G=>match eqG G 8 x y with
 |some b=>some (.ok (.bl b),G)
 |none=>none
def oNe(x y:D):M D:=fun G=>match eqG G 8 x y with
 |some b=>some (.ok (.bl (!b)),G)
 |none=>none
def lX(x:D):M D:=ret (.bl (decide (x= .non)))
def lF(x:D):M D:=ret (.bl (!decide (x= .non)))
def oo(G:Hh)(x:D):List D->Option Bool
 | []=>some false
 |y :: r=>match eqG G 8 y x,oo G x r with
  |some p,some q=>some (p||q)
  |_,_=>none
def pZ(d:D):Option Key:=match d with
 | .int i=>some (.inl i)
 | .str x=>some (.inr x)
 |_=>none
def look{κ:Type} [DecidableEq κ](kvs:List (κ×D))(k:κ):Option D:=(kvs.find? fun kv=>decide (kv.1=k)).map (·.2)
def put{κ:Type} [DecidableEq κ](kvs:List (κ×D))(k:κ)(v:D):List (κ×D):=
 if (kvs.any fun kv=>decide (kv.1=k))then kvs.map fun kv=>if kv.1=k then (kv.1,v)else kv else kvs++[(k,v)]
def inG(G:Hh)(x y:D):Option Bool:=match y with
 | .tup ys=>oo G x ys
 | .ref n=>match G[n]? with
   |some (.lst ys)=>oo G x ys
   |some (.frz ys)=>oo G x ys
   |some (.dK kvs)=>match pZ x with
    |some k=>some (look kvs k).isSome
    |none=>none
   |_=>none
 |_=>none
def oIn(x y:D):M D:=fun G=>match inG G x y with
 |some b=>some (.ok (.bl b),G)
 |none=>none
def il(x y:D):M D:=fun G=>match inG G x y with
 |some b=>some (.ok (.bl (!b)),G)
 |none=>none
def ixN(n:Nat)(i:Int):Option Nat:=if 0<=i then (if i < n then some i.toNat else none)else if -(n:Int)<=i then some (i+n).toNat else none
def atI(xs:List D)(i:Int):Option D:=(ixN xs.length i).bind fun j=>xs[j]?
def mQ(o:Option D):M D:=match o with
 |some d=>ret d
 |none=>fail
def oIx(x y:D):M D:=match x,y with
 | .tup xs,.int i=>mQ (atI xs i)
 | .ref n,y=>fun G=>match G[n]?,y with
   |some (.lst xs),.int i=>mQ (atI xs i) G
   |some (.frz xs),.int i=>mQ (atI xs i) G
   |some (.dK kvs),y=>match pZ y with
    |some k=>mQ (look kvs k) G
    |none=>none
   |_,_=>none
 |_,_=>fail
inductive Kd where
 |non |bl |int |str |tup |lst |dic
def kdOf(G:Hh)(d:D):Option Kd:=match d with
 | .non=>some .non
 | .bl _=>some .bl
 | .int _=>some .int
 | .str _=>some .str
 | .tup _=>some .tup
 | .ref n=>match G[n]? with
   |some (.lst _)=>some .lst
   |some (.frz _)=>some .lst
   |some (.dK _)=>some .dic
   |_=>none
def jW:Kd->Kd->Bool
 | .non,.non=>true | .bl,.bl=>true | .bl,.int=>true | .int,.int=>true | .str,.str=>true | .tup,.tup=>true | .lst,.lst=>true | .dic,.dic=>true
 |_,_=>false
def bIs(c:Kd)(ds:List D):M D:=fun G=>match ds with
 | [d]=>match kdOf G d with
   |some k=>some (.ok (.bl (jW k c)),G)
   |none=>none
 |_=>none
def yK(cs:List Kd)(ds:List D):M D:=fun G=>match ds with
 | [d]=>match kdOf G d with
   |some k=>some (.ok (.bl (cs.any (jW k ·))),G)
   |none=>none
 |_=>none
def cQ(ds:List D):M D:=fun G=>match ds with
 | [.tup xs]=>if xs.length<=aC then some (.ok (.int xs.length),G)else none
 | [.str x]=>if x.length<=aC then some (.ok (.int x.length),G)else none
 | [.ref n]=>match G[n]? with
   |some (.lst xs)=>some (.ok (.int xs.length),G)
   |some (.frz xs)=>some (.ok (.int xs.length),G)
   |some (.dK kvs)=>some (.ok (.int kvs.length),G)
   |_=>none
 |_=>none
def mK:Int->List Int->Int
 |m,[]=>m
 |m,x :: r=>mK (if x > m then x else m) r
def yL(ds:List D):M D:=fun G=>match ds with
 | [.int i,.int j]=>some (.ok (.int (if j > i then j else i)),G)
 | [.ref n]=>match G[n]? with
   |some (.lst xs)=>match intsOf xs with
    |some (m :: r)=>some (.ok (.int (mK m r)),G)
    |_=>none
   |_=>none
 |_=>none
def oi(ds:List D):M D:=fun G=>match ds with
 | [.ref n]=>match G[n]? with
   |some (.lst xs)=>new (.lst xs) G
   |some (.frz xs)=>new (.lst xs) G
   |_=>none
 | [.tup xs]=>if xs.length<=aC then new (.lst xs) G else none
 |_=>none
def se(ds:List D):M D:=fun G=>match ds with
 | [.int i]=>some (.ok (.int i),G)
 | [.bl b]=>some (.ok (.int (if b then 1 else 0)),G)
 | [.str x]=>match PySem.intText? x with
   |some n=>if x.length<=640 then some (.ok (.int n),G)else none
   |none=>none
 |_=>none
def gN(x y:D):M D:=fun G=>match x with
 | .ref n=>match G[n]? with
   |some (.lst xs)=>if xs.length < aC then some (.ok .non,G.set n (.lst (xs++[y])))else none
   |_=>none
 |_=>none
def isL(x:D):M Unit:=fun G=>match x with
 | .ref n=>match G[n]? with
   |some (.lst _)=>some (.ok (),G)
   |_=>none
 |_=>none
def pV(o a:E3):E3:=fun σ=>bnd (o σ) fun x=>bnd (isL x) fun _=>bnd (a σ) fun y=>gN x y
def putN(f:Nat)(v:D):List (Nat×D)->List (Nat×D)
 | []=>[(f,v)]
 |(g,x) :: r=>if g=f then (g,v) :: r else (g,x) :: putN f v r
def AA(x:D)(f:Nat):M D:=fun G=>match x with
 | .ref n=>match G[n]? with
   |some (.ins C fs)=>if C < 1000 then (match fs.lookup f with
    |some d=>some (.ok d,G)
    |none=>none)else none
   |_=>none
 |_=>none
def yj(x:D)(f:Nat)(y:D):M Unit:=fun G=>match x with
 | .ref n=>match G[n]? with
   |some (.ins C fs)=>if C < 1000/\fs.length < 1000 then some (.ok (),G.set n (.ins C (putN f y fs)))else none
   |_=>none
 |_=>none
def isC(C:Nat)(x:D):M Unit:=fun G=>match x with
 | .ref n=>match G[n]? with
   |some (.ins C' _)=>if C'=C then some (.ok (),G)else none
   |_=>none
 |_=>none
def aT(o:E3)(f:Nat):E3:=fun σ=>bnd (o σ) fun x=>AA x f
def bz(o:E3)(f:Nat)(e:E3):S3:=fun σ=>bnd (e σ) fun y=>bnd (o σ) fun x=>bnd (yj x f y) fun _=>ret (.next,σ)
def aL(C:Nat)(g:List D->M D)(o:E3)(a:A3):E3:=fun σ=>bnd (o σ) fun x=>bnd (isC C x) fun _=>bnd (a σ) fun ds=>g (x :: ds)
def yb(d:D):M Unit:=match d with
 | .non=>ret ()
 |_=>fail
def jC(C:Nat)(g:List D->M D)(a:A3):E3:=fun σ=>bnd (a σ) fun ds=>bnd (new (.ins C [])) fun x=>bnd (g (x :: ds)) fun r=>bnd (yb r) fun _=>ret x
def yB(x i v:D):M Unit:=fun G=>match x with
 | .ref n=>match G[n]? with
   |some (.lst xs)=>match i with
    | .int k=>match ixN xs.length k with
      |some j=>some (.ok (),G.set n (.lst (xs.set j v)))
      |none=>none
    |_=>none
   |some (.dK kvs)=>match pZ i with
    |some k=>if kvs.length < aC then some (.ok (),G.set n (.dK (put kvs k v)))else none
    |none=>none
   |_=>none
 |_=>none
def xx(o i e:E3):S3:=fun σ=>bnd (e σ) fun v=>bnd (o σ) fun x=>bnd (i σ) fun y=>bnd (yB x y v) fun _=>ret (.next,σ)
def pC:E3:=fun _=>new (.dK [])
def sIx(n d:Nat):Option Int->Nat
 |none=>d
 |some v=>if v < 0 then (v+(n:Int)).toNat else min v.toNat n
def cutD(xs:List D)(lo hi:Option Int):List D:=(xs.drop (sIx xs.length 0 lo)).take (sIx xs.length xs.length hi - sIx xs.length 0 lo)
abbrev P3:=St->M (Option Int)
def uL:P3:=fun _=>ret none
def asI(d:D):M (Option Int):=match d with
 | .int i=>ret (some i)
 |_=>fail
def o9(e:E3):P3:=fun σ=>bnd (e σ) asI
def oSl(x:D)(lo hi:Option Int):M D:=fun G=>match x with
 | .tup xs=>if sIx xs.length 0 lo=0/\sIx xs.length xs.length hi=xs.length then none else some (.ok (.tup (cutD xs lo hi)),G)
 | .ref n=>match G[n]? with
   |some (.lst xs)=>new (.lst (cutD xs lo hi)) G
   |some (.frz xs)=>new (.lst (cutD xs lo hi)) G
   |_=>none
 |_=>none
def eSl(e:E3)(lo hi:P3):E3:=fun σ=>bnd (e σ) fun x=>bnd (lo σ) fun l=>bnd (hi σ) fun h=>oSl x l h
def iU(x y:D):M D:=fun G=>match x,y with
 | .ref n,.ref m=>match G[n]?,G[m]? with
   |some (.lst xs),some (.lst ys)=>if xs.length+ys.length<=aC then some (.ok .non,G.set n (.lst (xs++ys)))else none
   |_,_=>none
 |_,_=>none
def mh(x i:D):M D:=fun G=>match x,i with
 | .ref n,.int i=>match G[n]? with
   |some (.lst xs)=>match ixN xs.length i with
    |some k=>match xs[k]? with
     |some y=>if -(2 ^ 62)<=i/\i < 2 ^ 62 then some (.ok y,G.set n (.lst (xs.eraseIdx k)))else none
     |none=>none
    |none=>none
   |_=>none
 |_,_=>none
def vm(o a:E3):E3:=fun σ=>bnd (o σ) fun x=>bnd (isL x) fun _=>bnd (a σ) fun y=>iU x y
def tY(o a:E3):E3:=fun σ=>bnd (o σ) fun x=>bnd (isL x) fun _=>bnd (a σ) fun y=>mh x y
def vB(x:D):M D:=fun G=>match x with
 | .ref n=>match G[n]? with
   |some (.dK kvs)=>new (.lst (kvs.map (·.2))) G
   |_=>none
 |_=>none
def AV(o:E3):E3:=fun σ=>bnd (o σ) vB
structure Src where
 xs:List D
 ck:Hh->Bool
abbrev I3:=St->M Src
def srcOf(d:D):M Src:=match d with
 | .tup xs=>ret ⟨xs,fun _=>true⟩
 | .ref n=>fun G=>match G[n]? with
   |some (.lst xs)=>some (.ok ⟨xs,fun G'=>decide (G'[n]? =some (.lst xs))⟩,G)
   |some (.frz xs)=>some (.ok ⟨xs,fun G'=>decide (G'[n]? =some (.frz xs))⟩,G)
   |_=>none
 |_=>fail
def iOf(e:E3):I3:=fun σ=>bnd (e σ) srcOf
def rF(i:Int):Bool:=decide (-(2 ^ 62)<=i/\i < 2 ^ 62)
def rng(i:Int)(n:Nat):List D:=(List.range n).map fun(k:Nat)=>.int (i+(k:Int))
def Cf(x:D):M Src:=match x with
 | .int j=>if rF j then ret ⟨rng 0 j.toNat,fun _=>true⟩else fail
 |_=>fail
def gc(a:E3):I3:=fun σ=>bnd (a σ) Cf
def ef(σ:St)(cap:List Nat):St:=cap.map fun i=>(σ[i]?).join
def b8(ck:Hh->Bool)(cond:D->M Bool)(elt:D->M D):List D->List D->M (List D)
 | [],acc=>fun G=>if ck G then some (.ok acc,G)else none
 |x :: r,acc=>fun G=>if ck G then bnd (cond x) (fun c=>if c then bnd (elt x) (fun y=>if acc.length < aC then b8 ck cond elt r (acc++[y])else fail)else b8 ck cond elt r acc) G else none
def gb(it:I3)(cap:List Nat)(cond:T3)(elt:E3):E3:=fun σ=>bnd (it σ) fun s=>
 bnd (b8 s.ck (fun x=>cond (some x :: ef σ cap)) (fun x=>elt (some x :: ef σ cap)) s.xs []) fun ys=>new (.lst ys)
def jE:T3:=fun _=>ret true
def aX:S3:=fun σ=>ret (.next,σ)
def ao(a b:S3):S3:=fun σ=>bnd (a σ) fun r=>match r.1 with
 | .next=>b r.2
 |f=>ret (f,r.2)
def bu(i:Nat)(e:E3):S3:=fun σ=>bnd (e σ) fun d=>ret (.next,σ.set i (some d))
def lV:List Nat->List D->St->Option St
 | [],[],σ=>some σ
 |i :: r,d :: t,σ=>lV r t (σ.set i (some d))
 |_,_,_=>none
def gUn(is:List Nat)(d:D)(σ:St):M St:=match d with
 | .tup ds=>match lV is ds σ with
   |some σ'=>ret σ'
   |none=>fail
 |_=>fail
def gNm(i:Nat)(d:D)(σ:St):M St:=ret (σ.set i (some d))
def sUn(is:List Nat)(e:E3):S3:=fun σ=>bnd (e σ) fun d=>bnd (gUn is d σ) fun σ'=>ret (.next,σ')
def bP(e:E3):S3:=fun σ=>bnd (e σ) fun _=>ret (.next,σ)
def aH(e:E3):S3:=fun σ=>bnd (e σ) fun d=>ret (.ret d,σ)
def sIf(t:T3)(a b:S3):S3:=fun σ=>bnd (t σ) fun c=>if c then a σ else b σ
def forL(ck:Hh->Bool)(body:D->St->M (Fl×St)):List D->St->M (Fl×St)
 | [],σ=>fun G=>if ck G then some (.ok (.next,σ),G)else none
 |x :: r,σ=>fun G=>if ck G then bnd (body x σ) (fun p=>match p.1 with
    | .next=>forL ck body r p.2
    | .cont=>forL ck body r p.2
    | .brk=>ret (.next,p.2)
    | .ret d=>ret (.ret d,p.2)) G else none
def iW(t:T3)(body:S3):Nat->St->M (Fl×St)
 |0,_=>fail
 |k+1,σ=>bnd (t σ) fun c=>if c then bnd (body σ) (fun p=>match p.1 with
   | .next=>iW t body k p.2
   | .cont=>iW t body k p.2
   | .brk=>ret (.next,p.2)
   | .ret d=>ret (.ret d,p.2))else ret (.next,σ)
def s8:Nat:=1000000000
def r6(t:T3)(body:S3):S3:=fun σ=>iW t body s8 σ
def jM(it:I3)(g:D->St->M St)(body:S3):S3:=fun σ=>bnd (it σ) fun s=>forL s.ck (fun x σ=>bnd (g x σ) body) s.xs σ
def ir(xs:List D):List D:=xs.mapIdx fun i x=>.tup [.int (i:Int),x]
def pM(d:D):M Src:=fun G=>match d with
 | .ref n=>match G[n]? with
   |some (.lst xs)=>some (.ok ⟨ir xs,fun G'=>decide (G'[n]? =some (.lst xs))⟩,G)
   |some (.frz xs)=>some (.ok ⟨ir xs,fun G'=>decide (G'[n]? =some (.frz xs))⟩,G)
   |_=>none
 |_=>none
def zK(e:E3):I3:=fun σ=>bnd (e σ) pM
def Jw:Key->D
 | .inl i=>.int i
 | .inr x=>.str x
def fq(kvs:List (Key×D)):List D:=kvs.map fun kv=>.tup [Jw kv.1,kv.2]
def uC(n:Nat)(kvs:List (Key×D))(m:M (Fl×St)):M (Fl×St):=fun G=>match m (G.set n (.dF kvs))with
 |some (.ok p,G')=>if G'[n]? =some (.dF kvs)then some (.ok p,G'.set n (.dK kvs))else none
 |_=>none
def xc(body:D->St->M (Fl×St))(σ:St)(d:D):M (Fl×St):=fun G=>match d with
 | .ref n=>match G[n]? with
   |some (.dK kvs)=>uC n kvs (forL (fun _=>true) body (fq kvs) σ) G
   |_=>none
 |_=>none
def vT(e:E3)(g:D->St->M St)(body:S3):S3:=fun σ=>bnd (e σ) (xc (fun x σ=>bnd (g x σ) body) σ)
def Bz:E3:=fun _=>fail
def D3:S3:=fun _=>fail
def throw{α:Type}(c:Nat):M α:=fun G=>some (.exc c,G)
def md(c:Nat)(a:A3):S3:=fun σ=>bnd (a σ) fun xs=>if xs.length<=aC then throw c else fail
def pick(c:Nat):List ((Nat->Bool)×S3)->Option S3
 | []=>none
 |(m,f) :: r=>if m c then some f else pick c r
def wH(e:E3)(k:D->St->Fl×St)(ms:List ((Nat->Bool)×S3)):S3:=fun σ G=>match e σ G with
 |some (.ok d,G')=>some (.ok (k d σ),G')
 |some (.exc c,G')=>match pick c ms with
  |some f=>f σ G'
  |none=>none
 |none=>none
def CN{e:E3}{k:D->St->Fl×St}{ms:List ((Nat->Bool)×S3)}{σ:St}{G:Hh}{Q:Fl×St->Hh->Prop}{Z:Nat->Hh->Prop}(h:run (wH e k ms σ) G Q Z):
 run (e σ) G (fun d G'=>Q (k d σ) G') fun c G'=>∃f,pick c ms=some f/\run (f σ) G' Q Z:=by
 unfold run wH at*
 cases q:e σ G with
 |none=>rw[q]at h;exact h
 |some p=>
  obtain⟨o,G1⟩:=p
  rw[q]at h
  cases o with
  |ok d=>exact h
  |exc c=>
   dsimp only at h ⊢
   cases z:pick c ms with
   |none=>rw[z]at h;exact False.elim h
   |some f=>rw[z]at h;exact⟨f,rfl,h⟩
def fnM(n:Nat)(pad:St)(body:S3):List D->M D:=fun ds=>if ds.length=n then bnd (body (ds.map some++pad)) (fun p=>match p.1 with
 | .ret d=>ret d
 | .next=>ret .non
 |_=>fail)else fail
def insI(x:List Int):List (List Int)->List (List Int)
 | []=>[x]
 |y :: r=>if eO x y=true then x :: y :: r else y :: insI x r
def sortI:List (List Int)->List (List Int)
 | []=>[]
 |x :: r=>insI x (sortI r)
def rowsOf:List D->Option (List (List Int))
 | []=>some []
 | .tup a :: r=>match intsOf a,rowsOf r with
   |some (i :: m),some n=>some ((i :: m) :: n)
   |_,_=>none
 |_ :: _=>none
def tupI(n:List Int):D:= .tup (n.map .int)
def rE(ds:List D):M D:=fun G=>match ds with
 | [.ref n]=>match G[n]? with
   |some (.lst xs)=>match rowsOf xs with
    |some ns=>if ns.length < 64/\ns.Nodup then new (.lst ((sortI ns).map tupI)) G else none
    |none=>none
   |_=>none
 |_=>none
theorem oM:∀{a b c:List Int},eO a b=true->eO b c=true->eO a c=true
 | [],[],_,h,_=>by cases h
 |_ :: _,[],_,h,_=>by cases h
 |_,_ :: _,[],_,h=>by cases h
 | [],_ :: _,_ :: _,_,_=>rfl
 |a :: r,b :: t,c :: u,h,k=>by
  unfold eO at h k ⊢
  by_cases e:a=b
  · subst e
    rw[if_pos rfl]at h
    by_cases f:a=c
    · rw[if_pos f]at k ⊢;exact oM h k
    · rw[if_neg f]at k ⊢;exact k
  · rw[if_neg e]at h
    by_cases f:b=c
    · subst f;rw[if_neg e];exact h
    · rw[if_neg f]at k
      have:=of_decide_eq_true h
      have:=of_decide_eq_true k
      rw[if_neg (by omega)]
      exact qZ_ (by omega)
theorem o5:∀(a:List Int),eO a a=false
 | []=>rfl
 |a :: r=>by unfold eO;rw[if_pos rfl];exact o5 r
def xY{a b:List Int}(h:eO a b=true):eO b a=false:=by
 cases q:eO b a with
 |false=>rfl
 |true=>have:=oM h q;rw[o5]at this;cases this
theorem oU:∀{a b:List Int},a≠b->eO a b=false->eO b a=true
 | [],[],n,_=>absurd rfl n
 | [],_ :: _,_,h=>by simp [eO]at h
 |_ :: _,[],_,_=>rfl
 |a :: r,b :: t,n,h=>by
  unfold eO at h ⊢
  by_cases e:a=b
  · subst e
    rw[if_pos rfl]at h ⊢
    exact oU (fun q=>n (by rw[q])) h
  · rw[if_neg e]at h
    rw[if_neg (fun q=>e q.symm)]
    have:=of_decide_eq_false h
    exact qZ_ (by omega)
abbrev LtP(a b:List Int):Prop:=eO a b=true
theorem insI_perm(x:List Int):∀r,(insI x r).Perm (x :: r)
 | []=>.refl _
 |y :: r=>by
  unfold insI
  by_cases h:eO x y=true
  · rw[if_pos h]
  · rw[if_neg h];exact((insI_perm x r).cons y).trans (.swap x y r)
theorem sortI_perm:∀r,(sortI r).Perm r
 | []=>.refl _
 |x :: r=>(insI_perm x _).trans ((sortI_perm r).cons x)
theorem x8{x:List Int}:∀{r},r.Pairwise LtP->x∉r->(insI x r).Pairwise LtP
 | [],_,_=>List.pairwise_singleton ..
 |y :: r,h,n=>by
  have h':=List.pairwise_cons.mp h
  unfold insI
  by_cases c:eO x y=true
  · rw[if_pos c]
    refine List.pairwise_cons.mpr ⟨fun z hz=>?_,h⟩
    rcases qS_.mp hz with rfl |hz
    · exact c
    · exact oM c (h'.1 z hz)
  · rw[if_neg c]
    refine List.pairwise_cons.mpr ⟨fun z hz=>?_,x8 h'.2 fun q=>n (qR_ _ q)⟩
    rcases qS_.mp ((insI_perm x r).mem_iff.mp hz)with rfl |hz
    · exact oU (fun q=>n (by rw[q];exact qI_ ..)) (Bool.eq_false_iff.mpr c)
    · exact h'.1 z hz
theorem pL:∀{r:List (List Int)},r.Nodup->(sortI r).Pairwise LtP
 | [],_=>List.Pairwise.nil
 |x :: r,h=>by
  have h':=List.nodup_cons.mp h
  exact x8 (pL h'.2) fun q=>h'.1 ((sortI_perm r).mem_iff.mp q)
theorem rX:∀{a b:List (List Int)},a.Pairwise LtP->b.Pairwise LtP->a.Perm b->a=b
 | [],b,_,_,p=>(List.nil_perm.mp p).symm
 |x :: a,[],_,_,p=>absurd p.symm (by simp)
 |x :: a,y :: b,ha,hb,p=>by
  have ha':=List.pairwise_cons.mp ha
  have hb':=List.pairwise_cons.mp hb
  have e:x=y:=by
   rcases qS_.mp (p.mem_iff.mp (qI_ ..))with q |q
   · exact q
   · rcases qS_.mp (p.mem_iff.mpr (qI_ ..))with r |r
     · exact r.symm
     · have:=xY (ha'.1 _ r)
       rw[hb'.1 _ q]at this;cases this
  subst e
  rw[rX ha'.2 hb'.2 (List.perm_cons _ |>.mp p)]
section
variable{α β:Type}{G G':Hh}{E:Nat->Hh->Prop}{σ:St}
def aB{m:M α}{k:α->M β}{Q:β->Hh->Prop}(h:run m G (fun a G1=>run (k a) G1 Q E) E):run (bnd m k) G Q E:=by
 unfold run bnd at*
 cases e:m G with
 |none=>rw[e]at h;exact h
 |some p=>
  obtain⟨o,G1⟩:=p
  rw[e]at h
  cases o with
  |ok a=>exact h
  |exc c=>exact h
def fZ{a:α}{Q:α->Hh->Prop}(h:Q a G):run (ret a) G Q E:=h
def w_ite{c:Bool}{m m':M α}{Q:α->Hh->Prop}(h1:c=true->run m G Q E)(h2:c=false->run m' G Q E):run (if c=true then m else m') G Q E:=by
 cases c with
 |true=>exact h1 rfl
 |false=>exact h2 rfl
def lP{m m':M α}{Q:α->Hh->Prop}(h1:run m G Q E):run (if true=true then m else m') G Q E:=h1
def nC{m m':M α}{Q:α->Hh->Prop}(h1:run m' G Q E):run (if false=true then m else m') G Q E:=h1
def oC{m m':M α}{Q:α->Hh->Prop}(h1:run m' G Q E):run (if (!true)=true then m else m') G Q E:=h1
def oQ{m m':M α}{Q:α->Hh->Prop}(h1:run m G Q E):run (if (!false)=true then m else m') G Q E:=h1
def aG{m:M α}{Q:α->Hh->Prop}{a:α}(h:m G=some (.ok a,G'))(q:Q a G'):run m G Q E:=by
 unfold run;rw[h];exact q
variable{Q:D->Hh->Prop}{QB:Bool->Hh->Prop}{QA:List D->Hh->Prop}{QS:Fl×St->Hh->Prop}
def w_var{i:Nat}{d:D}(e:σ[i]? =some (some d))(h:Q d G):run (ae i σ) G Q E:=by
 unfold ae;rw[e];exact h
def w_c{d:D}(h:Q d G):run (eC d σ) G Q E:=h
def aP{f:D->D->M D}{a b:E3}(h:run (a σ) G (fun x G1=>run (b σ) G1 (fun y G2=>run (f x y) G2 Q E) E) E):run (eOp f a b σ) G Q E:=
 aB (au h (fun _ _ q=>aB q) fun _ _ q=>q)
def ot{f:D->M D}{a:E3}(h:run (a σ) G (fun x G1=>run (f x) G1 Q E) E):run (eUn f a σ) G Q E:=aB h
def ay(h:QA [] G):run (ai σ) G QA E:=h
def ah{e:E3}{r:A3}(h:run (e σ) G (fun x G1=>run (r σ) G1 (fun xs G2=>QA (x :: xs) G2) E) E):run (aa e r σ) G QA E:=
 aB (au h (fun _ _ q=>aB q) fun _ _ q=>q)
def va{a:A3}(h:run (a σ) G (fun xs G1=>xs.length<=aC/\Q (.tup xs) G1) E):run (bU a σ) G Q E:=
 aB (au h (fun _ _ q=>by rw[if_pos q.1];exact q.2) fun _ _ q=>q)
def Ax{a:A3}(h:run (a σ) G (fun xs G1=>xs.length<=aC/\Q (.ref G1.length) (G1++[.lst xs])) E):run (cS a σ) G Q E:=
 aB (au h (fun _ _ q=>by rw[if_pos q.1];exact q.2) fun _ _ q=>q)
def bo{f:List D->M D}{a:A3}(h:run (a σ) G (fun ds G1=>run (f ds) G1 Q E) E):run (av f a σ) G Q E:=aB h
def iu{e:E3}(h:run (e σ) G (fun x G1=>run (truth x) G1 QB E) E):run (tOf e σ) G QB E:=aB h
def ib{e:E3}(h:run (e σ) G (fun x G1=>run (asB x) G1 QB E) E):run (tB e σ) G QB E:=aB h
def fV{b:Bool}(h:QB b G):run (asB (.bl b)) G QB E:=h
def jK{b:Bool}(h:QB b G):run (truth (.bl b)) G QB E:=h
def hJ{t:T3}(h:run (t σ) G (fun c G1=>QB (!c) G1) E):run (eT t σ) G QB E:=aB h
def l0{t u:T3}(h:run (t σ) G (fun c G1=>run (if c=true then u σ else ret false) G1 QB E) E):run (nA t u σ) G QB E:=aB h
def uy{t u:T3}(h:run (t σ) G (fun c G1=>run (if c=true then ret true else u σ) G1 QB E) E):run (tOr t u σ) G QB E:=aB h
def vS{a b:E3}(h:run (a σ) G (fun x G1=>run (asB x) G1 (fun c G2=>run (if c=true then b σ else ret (.bl false)) G2 Q E) E) E):run (oq a b σ) G Q E:=
 aB (au h (fun _ _ q=>aB q) fun _ _ q=>q)
def HP{a b:E3}(h:run (a σ) G (fun x G1=>run (asB x) G1 (fun c G2=>run (if c=true then ret (.bl true)else b σ) G2 Q E) E) E):run (eOr a b σ) G Q E:=
 aB (au h (fun _ _ q=>aB q) fun _ _ q=>q)
def Gs{a:E3}(h:run (a σ) G (fun x G1=>run (asB x) G1 (fun c G2=>Q (.bl (!c)) G2) E) E):run (Br a σ) G Q E:=
 aB (au h (fun _ _ q=>aB q) fun _ _ q=>q)
def IP{t:T3}{a b:E3}(h:run (t σ) G (fun c G1=>run (if c=true then a σ else b σ) G1 Q E) E):run (eIf t a b σ) G Q E:=aB h
def wR{i j:Int}(h:Q (.int (i+j)) G):run (fW (.int i) (.int j)) G Q E:=h
def AF{a b:Str}(hl:a.length+b.length<=aC)(h:Q (.str (a++b)) G):run (fW (.str a) (.str b)) G Q E:=by
 show run (if a.length+b.length<=aC then ret (D.str (a++b))else fail) G Q E
 rw[if_pos hl];exact h
def Ag{i j:Nat}{a b:List D}(h1:G[i]? =some (.lst a))(h2:G[j]? =some (.lst b))(hl:a.length+b.length<=aC)(h:Q (.ref G.length) (G++[.lst (a++b)])):run (fW (.ref i) (.ref j)) G Q E:=by
 refine aG (G':=G++[.lst (a++b)]) (a:= .ref G.length) ?_ h
 show (match G[i]?,G[j]? with
  |some (.lst a),some (.lst b)=>if a.length+b.length<=aC then new (.lst (a++b)) G else none
  |_,_=>none)=_
 rw[h1,h2]
 show (if a.length+b.length<=aC then new (.lst (a++b)) G else none)=_
 rw[if_pos hl];rfl
def v9{i j:Int}(h:Q (.int (i - j)) G):run (rR (.int i) (.int j)) G Q E:=h
def zy{i j:Int}(c:(small i||small j)=true)(h:Q (.int (i*j)) G):run (eP (.int i) (.int j)) G Q E:=by
 show run (if (small i||small j)=true then ret (D.int (i*j))else fail) G Q E
 rw[if_pos c];exact h
def Gw{i j:Int}(c:small i=true)(h:Q (.int (i*j)) G):run (eP (.int i) (.int j)) G Q E:=zy (by rw[c];rfl) h
def E4{i j:Int}(c:small j=true)(h:Q (.int (i*j)) G):run (eP (.int i) (.int j)) G Q E:=zy (by rw[c];exact Bool.or_true _) h
def iO{i j:Int}(c:0 < j)(h:Q (.int (i % j)) G):run (oMod (.int i) (.int j)) G Q E:=by
 show run (if 0 < j then ret (D.int (i % j))else fail) G Q E
 rw[if_pos c];exact h
def Fy{i j:Int}(c:0 < j/\j < 1073741824)(h:Q (.int (i / j)) G):run (oDiv (.int i) (.int j)) G Q E:=by
 show run (if 0 < j/\j < 1073741824 then ret (D.int (i / j))else fail) G Q E
 rw[if_pos c];exact h
def IV{i j:Int}(h:Q (.bl (decide (i < j))) G):run (oLt (.int i) (.int j)) G Q E:=h
def HN{i j:Int}(h:Q (.bl (decide (j < i))) G):run (oGt (.int i) (.int j)) G Q E:=h
def Ii{i j:Int}(h:Q (.bl (decide (j<=i))) G):run (oGe (.int i) (.int j)) G Q E:=h
def IG{a b:List D}{m n:List Int}(e1:intsOf a=some m)(e2:intsOf b=some n)(h:Q (.bl (eO n m)) G):run (oGt (.tup a) (.tup b)) G Q E:=by
 show run (match intsOf a,intsOf b with
  |some m,some n=>ret (.bl (eO n m))
  |_,_=>fail) G Q E
 rw[e1,e2];exact h
def w_eq{x y:D}{b:Bool}(e:eqG G 8 x y=some b)(h:Q (.bl b) G):run (oEq x y) G Q E:=by
 refine aG (a:= .bl b) (G':=G) ?_ h
 unfold oEq;rw[e]
def m3{x y:D}{b:Bool}(e:eqG G 8 x y=some b)(h:Q (.bl (!b)) G):run (oNe x y) G Q E:=by
 refine aG (a:= .bl (!b)) (G':=G) ?_ h
 unfold oNe;rw[e]
def IC{x y:D}{b:Bool}(e:inG G x y=some b)(h:Q (.bl b) G):run (oIn x y) G Q E:=by
 refine aG (a:= .bl b) (G':=G) ?_ h
 unfold oIn;rw[e]
def xM{x y:D}{b:Bool}(e:inG G x y=some b)(h:Q (.bl (!b)) G):run (il x y) G Q E:=by
 refine aG (a:= .bl (!b)) (G':=G) ?_ h
 unfold il;rw[e]
def bH{xs:List D}{i:Int}{d:D}(e:atI xs i=some d)(h:Q d G):run (oIx (.tup xs) (.int i)) G Q E:=by
 refine aG (a:=d) (G':=G) ?_ h
 show mQ (atI xs i) G=_
 rw[e];rfl
def cP{n:Nat}{xs:List D}{i:Int}{d:D}(hl:G[n]? =some (.lst xs))(e:atI xs i=some d)(h:Q d G):run (oIx (.ref n) (.int i)) G Q E:=by
 refine aG (a:=d) (G':=G) ?_ h
 unfold oIx
 dsimp only
 rw[hl]
 show mQ (atI xs i) G=_
 rw[e];rfl
def Jo{n:Nat}{xs:List D}{i:Int}{d:D}(hl:G[n]? =some (.frz xs))(e:atI xs i=some d)(h:Q d G):run (oIx (.ref n) (.int i)) G Q E:=by
 refine aG (a:=d) (G':=G) ?_ h
 unfold oIx
 dsimp only
 rw[hl]
 show mQ (atI xs i) G=_
 rw[e];rfl
def Ai{x:D}(h:Q (.bl (decide (x= .non))) G):run (lX x) G Q E:=h
def m8{x:D}(h:Q (.bl (!decide (x= .non))) G):run (lF x) G Q E:=h
def sg{z:Int}(h:Q (.bl true) G):run (bIs .int [(.int z)]) G Q E:=h
def tR{z:Str}(h:Q (.bl false) G):run (bIs .int [(.str z)]) G Q E:=h
def tu{z:List D}(h:Q (.bl false) G):run (bIs .int [(.tup z)]) G Q E:=h
def tx{n:Nat}{xs:List D}(hl:G[n]? =some (.lst xs))(h:Q (.bl false) G):run (bIs .int [.ref n]) G Q E:=by
 refine aG (a:= .bl false) (G':=G) ?_ h
 unfold bIs kdOf;dsimp only;rw[hl];rfl
def wO{z:Bool}(h:Q (.bl true) G):run (bIs .bl [(.bl z)]) G Q E:=h
def vi{z:Int}(h:Q (.bl false) G):run (bIs .bl [(.int z)]) G Q E:=h
def uM{z:Str}(h:Q (.bl false) G):run (bIs .bl [(.str z)]) G Q E:=h
def vt{z:List D}(h:Q (.bl false) G):run (bIs .bl [(.tup z)]) G Q E:=h
def vy{n:Nat}{xs:List D}(hl:G[n]? =some (.lst xs))(h:Q (.bl false) G):run (bIs .bl [.ref n]) G Q E:=by
 refine aG (a:= .bl false) (G':=G) ?_ h
 unfold bIs kdOf;dsimp only;rw[hl];rfl
def mR{z:Int}(h:Q (.bl false) G):run (bIs .str [(.int z)]) G Q E:=h
def mw{z:Str}(h:Q (.bl true) G):run (bIs .str [(.str z)]) G Q E:=h
def sU{z:List D}(h:Q (.bl false) G):run (bIs .str [(.tup z)]) G Q E:=h
def tN{n:Nat}{xs:List D}(hl:G[n]? =some (.lst xs))(h:Q (.bl false) G):run (bIs .str [.ref n]) G Q E:=by
 refine aG (a:= .bl false) (G':=G) ?_ h
 unfold bIs kdOf;dsimp only;rw[hl];rfl
def su{z:List D}(h:Q (.bl true) G):run (bIs .tup [(.tup z)]) G Q E:=h
def mL{n:Nat}{xs:List D}(hl:G[n]? =some (.lst xs))(h:Q (.bl false) G):run (bIs .tup [.ref n]) G Q E:=by
 refine aG (a:= .bl false) (G':=G) ?_ h
 unfold bIs kdOf;dsimp only;rw[hl];rfl
def sC{z:List D}(h:Q (.bl false) G):run (bIs .lst [(.tup z)]) G Q E:=h
def eV{n:Nat}{xs:List D}(hl:G[n]? =some (.lst xs))(h:Q (.bl true) G):run (bIs .lst [.ref n]) G Q E:=by
 refine aG (a:= .bl true) (G':=G) ?_ h
 unfold bIs kdOf;dsimp only;rw[hl];rfl
def t7{z:List D}(h:Q (.bl false) G):run (bIs .dic [(.tup z)]) G Q E:=h
def sF{n:Nat}{xs:List D}(hl:G[n]? =some (.lst xs))(h:Q (.bl false) G):run (bIs .dic [.ref n]) G Q E:=by
 refine aG (a:= .bl false) (G':=G) ?_ h
 unfold bIs kdOf;dsimp only;rw[hl];rfl
def rS{xs:List D}(hl:xs.length<=aC)(h:Q (.int xs.length) G):run (cQ [.tup xs]) G Q E:=by
 refine aG (a:= .int xs.length) (G':=G) ?_ h
 show (if xs.length<=aC then some (Oc.ok (D.int xs.length),G)else none)=_
 rw[if_pos hl]
def cU{n:Nat}{xs:List D}(hl:G[n]? =some (.lst xs))(h:Q (.int xs.length) G):run (cQ [.ref n]) G Q E:=by
 refine aG (a:= .int xs.length) (G':=G) ?_ h
 unfold cQ;dsimp only;rw[hl]
def Fn{n:Nat}{xs:List D}(hl:G[n]? =some (.frz xs))(h:Q (.int xs.length) G):run (cQ [.ref n]) G Q E:=by
 refine aG (a:= .int xs.length) (G':=G) ?_ h
 unfold cQ;dsimp only;rw[hl]
def v5{i:Int}(h:Q (.int (-i)) G):run (Cr (.int i)) G Q E:=h
def rL{o a:E3}(h:run (o σ) G (fun x G1=>run (isL x) G1 (fun _ G2=>run (a σ) G2 (fun y G3=>run (gN x y) G3 Q E) E) E) E):run (pV o a σ) G Q E:=
 aB (au h (fun _ _ q=>aB (au q (fun _ _ q=>aB q) fun _ _ q=>q)) fun _ _ q=>q)
def iM{n:Nat}{xs:List D}{QU:Unit->Hh->Prop}(hl:G[n]? =some (.lst xs))(h:QU () G):run (isL (.ref n)) G QU E:=by
 refine aG (a:=()) (G':=G) ?_ h
 unfold isL;dsimp only;rw[hl]
def FE{n:Nat}{xs:List D}{m:Int}{r:List Int}(hl:G[n]? =some (.lst xs))(e:intsOf xs=some (m :: r))(h:Q (.int (mK m r)) G):run (yL [.ref n]) G Q E:=by
 refine aG (a:= .int (mK m r)) (G':=G) ?_ h
 unfold yL;dsimp only;rw[hl];dsimp only;rw[e]
def x9{n:Nat}{xs:List D}(hl:G[n]? =some (.lst xs))(h:Q (.ref G.length) (G++[.lst xs])):run (oi [.ref n]) G Q E:=by
 refine aG (a:= .ref G.length) (G':=G++[.lst xs]) ?_ h
 unfold oi;dsimp only;rw[hl];rfl
def z0{n:Nat}{xs:List D}{y:D}(hl:G[n]? =some (.lst xs))(hz:xs.length < aC)(h:Q .non (G.set n (.lst (xs++[y])))):run (gN (.ref n) y) G Q E:=by
 refine aG (a:= .non) (G':=G.set n (.lst (xs++[y]))) ?_ h
 unfold gN;dsimp only;rw[hl];dsimp only;rw[if_pos hz]
def nP{e:E3}{QI:Src->Hh->Prop}(h:run (e σ) G (fun x G1=>run (srcOf x) G1 QI E) E):run (iOf e σ) G QI E:=aB h
def fF{n:Nat}{xs:List D}{QI:Src->Hh->Prop}(hl:G[n]? =some (.lst xs))(h:QI ⟨xs,fun G'=>decide (G'[n]? =some (.lst xs))⟩ G):run (srcOf (.ref n)) G QI E:=by
 refine aG (G':=G) ?_ h
 unfold srcOf;dsimp only;rw[hl]
def gM{a:E3}{QI:Src->Hh->Prop}(h:run (a σ) G (fun x G1=>run (Cf x) G1 QI E) E):run (gc a σ) G QI E:=aB h
def mM{i:Int}{n k:Nat}{x:D}(h:(rng i n)[k]? =some x):x= .int (i+k)/\k < n:=by
 unfold rng at h
 rw[qQ_]at h
 by_cases hk:k < n
 · rw[List.getElem?_range hk]at h
   simp at h
   exact⟨h.symm,hk⟩
 · rw[List.getElem?_eq_none (by simpa using hk)]at h
   cases h
def oE{i:Int}{n:Nat}:(rng i n).length=n:=by simp [rng]
theorem jo{ck:Hh->Bool}{cond:D->M Bool}{elt:D->M D}{xs:List D}(P:Nat->List D->Hh->Prop)
 (hck:∀i acc G,P i acc G->ck G=true)
 (hs:∀i x acc G,xs[i]? =some x->P i acc G->run (cond x) G (fun c G1=>if c=true then run (elt x) G1 (fun y G2=>acc.length < aC/\P (i+1) (acc++[y]) G2) E else P (i+1) acc G1) E)
 (hd:∀acc G,P xs.length acc G->QA acc G):∀(r:List D) (i:Nat) (acc:List D) (G:Hh),xs.drop i=r->i<=xs.length->P i acc G->run (b8 ck cond elt r acc) G QA E
 | [],i,acc,G,e,hi,p=>by
   have hl:i=xs.length:=by
    have:=congrArg List.length e
    simp at this
    omega
   subst hl
   refine aG (G':=G) (a:=acc) ?_ (hd acc G p)
   unfold b8;rw[if_pos (hck _ _ _ p)]
 |x :: r,i,acc,G,e,hi,p=>by
  have hx:xs[i]? =some x:=by
   have:=congrArg (fun l=>l[0]?) e
   simpa using this
  have hlt:i < xs.length:=(qB_.mp hx).1
  have er:xs.drop (i+1)=r:=by
   have:=congrArg List.tail e
   simpa using this
  have key:run (bnd (cond x) (fun c=>if c=true then bnd (elt x) (fun y=>if acc.length < aC then b8 ck cond elt r (acc++[y])else fail)else b8 ck cond elt r acc)) G QA E:=by
   refine aB (au (hs i x acc G hx p) (fun c G1 q=>?_) fun _ _ q=>q)
   cases c with
   |false=>exact jo P hck hs hd r (i+1) acc G1 er hlt q
   |true=>
    refine aB (au q (fun y G2 q2=>?_) fun _ _ q=>q)
    rw[if_pos q2.1]
    exact jo P hck hs hd r (i+1) (acc++[y]) G2 er hlt q2.2
  unfold run at key ⊢
  rw[show b8 ck cond elt (x :: r) acc G=bnd (cond x) (fun c=>if c=true then bnd (elt x) (fun y=>if acc.length < aC then b8 ck cond elt r (acc++[y])else fail)else b8 ck cond elt r acc) G by
   conv=>lhs;unfold b8
   rw[if_pos (hck _ _ _ p)]]
  exact key
def s9{it:I3}{cap:List Nat}{cond:T3}{elt:E3}
 (h:run (it σ) G (fun s G1=>run (b8 s.ck (fun x=>cond (some x :: ef σ cap)) (fun x=>elt (some x :: ef σ cap)) s.xs []) G1 (fun ys G2=>Q (.ref G2.length) (G2++[.lst ys])) E) E):run (gb it cap cond elt σ) G Q E:=
 aB (au h (fun s G1 q=>aB q) fun _ _ q=>q)
def sK(b:S3)(r:Fl×St):M (Fl×St):=match r.1 with
 | .next=>b r.2
 |f=>ret (f,r.2)
def aA{a b:S3}(h:run (a σ) G (fun r G1=>run (sK b r) G1 QS E) E):run (ao a b σ) G QS E:=aB h
def w_next{b:S3}{σ':St}(h:run (b σ') G QS E):run (sK b (.next,σ')) G QS E:=h
def EC{b:S3}{σ':St}{d:D}(h:QS (.ret d,σ') G):run (sK b (.ret d,σ')) G QS E:=h
def iz(h:QS (.next,σ) G):run (aX σ) G QS E:=h
def ba{i:Nat}{e:E3}(h:run (e σ) G (fun d G1=>QS (.next,σ.set i (some d)) G1) E):run (bu i e σ) G QS E:=aB h
def Jh{is:List Nat}{e:E3}(h:run (e σ) G (fun d G1=>run (gUn is d σ) G1 (fun σ' G2=>QS (.next,σ') G2) E) E):run (sUn is e σ) G QS E:=
 aB (au h (fun _ _ q=>aB q) fun _ _ q=>q)
def DY{is:List Nat}{ds:List D}{σ':St}{QG:St->Hh->Prop}(e:lV is ds σ=some σ')(h:QG σ' G):run (gUn is (.tup ds) σ) G QG E:=by
 show run (match lV is ds σ with
  |some σ'=>ret σ'
  |none=>fail) G QG E
 rw[e];exact h
def cJ{e:E3}(h:run (e σ) G (fun _ G1=>QS (.next,σ) G1) E):run (bP e σ) G QS E:=aB h
def bA{e:E3}(h:run (e σ) G (fun d G1=>QS (.ret d,σ) G1) E):run (aH e σ) G QS E:=aB h
def cX{t:T3}{a b:S3}(h:run (t σ) G (fun c G1=>run (if c=true then a σ else b σ) G1 QS E) E):run (sIf t a b σ) G QS E:=aB h
theorem pX{ck:Hh->Bool}{body:D->St->M (Fl×St)}{xs:List D}(P:Nat->St->Hh->Prop)
 (hck:∀i σ G,P i σ G->ck G=true)
 (hs:∀i x σ G,xs[i]? =some x->P i σ G->run (body x σ) G (fun p G1=>match p.1 with
   | .next=>P (i+1) p.2 G1
   | .cont=>P (i+1) p.2 G1
   | .brk=>QS (.next,p.2) G1
   | .ret d=>QS (.ret d,p.2) G1) E)
 (hd:∀σ G,P xs.length σ G->QS (.next,σ) G):∀(r:List D) (i:Nat) (σ:St) (G:Hh),xs.drop i=r->i<=xs.length->P i σ G->run (forL ck body r σ) G QS E
 | [],i,σ,G,e,hi,p=>by
   have hl:i=xs.length:=by
    have:=congrArg List.length e
    simp at this
    omega
   subst hl
   refine aG (G':=G) (a:=(.next,σ)) ?_ (hd σ G p)
   unfold forL;rw[if_pos (hck _ _ _ p)]
 |x :: r,i,σ,G,e,hi,p=>by
  have hx:xs[i]? =some x:=by
   have:=congrArg (fun l=>l[0]?) e
   simpa using this
  have hlt:i < xs.length:=(qB_.mp hx).1
  have er:xs.drop (i+1)=r:=by
   have:=congrArg List.tail e
   simpa using this
  have key:run (bnd (body x σ) (fun p=>match p.1 with
   | .next=>forL ck body r p.2
   | .cont=>forL ck body r p.2
   | .brk=>ret (.next,p.2)
   | .ret d=>ret (.ret d,p.2))) G QS E:=by
   refine aB (au (hs i x σ G hx p) (fun c G1 q=>?_) fun _ _ q=>q)
   obtain⟨f,σ1⟩:=c
   cases f with
   |next=>exact pX P hck hs hd r (i+1) σ1 G1 er hlt q
   |cont=>exact pX P hck hs hd r (i+1) σ1 G1 er hlt q
   |brk=>exact q
   |ret d=>exact q
  unfold run at key ⊢
  rw[show forL ck body (x :: r) σ G=bnd (body x σ) (fun p=>match p.1 with
   | .next=>forL ck body r p.2
   | .cont=>forL ck body r p.2
   | .brk=>ret (.next,p.2)
   | .ret d=>ret (.ret d,p.2)) G by
   conv=>lhs;unfold forL
   rw[if_pos (hck _ _ _ p)]
   all_goals rfl]
  exact key
def rB{it:I3}{g:D->St->M St}{body:S3}(h:run (it σ) G (fun s G1=>run (forL s.ck (fun x σ=>bnd (g x σ) body) s.xs σ) G1 QS E) E):run (jM it g body σ) G QS E:=aB h
def jD{i:Nat}{d:D}{QG:St->Hh->Prop}(h:QG (σ.set i (some d)) G):run (gNm i d σ) G QG E:=h
def fK(p:Fl×St):M D:=match p.1 with
 | .ret d=>ret d
 | .next=>ret .non
 |_=>fail
def DT{n:Nat}{pad:St}{body:S3}{ds:List D}(hl:ds.length=n)(h:run (body (ds.map some++pad)) G (fun p G1=>run (fK p) G1 Q E) E):run (fnM n pad body ds) G Q E:=by
 unfold fnM
 rw[if_pos hl]
 exact aB h
def je{d:D}{σ':St}(h:Q d G):run (fK (.ret d,σ')) G Q E:=h
def sO{σ':St}(h:Q .non G):run (fK (.next,σ')) G Q E:=h
end
section
variable{α β:Type}{G G':Hh}{E:Nat->Hh->Prop}{σ:St}
variable{Q:D->Hh->Prop}{QB:Bool->Hh->Prop}{QA:List D->Hh->Prop}{QS:Fl×St->Hh->Prop}{QU:Unit->Hh->Prop}
def CH{c:Nat}{a:A3}(h:run (a σ) G (fun xs G1=>xs.length<=aC/\E c G1) E):run (md c a σ) G QS E:=
 aB (au h (fun xs G1 ⟨l,q⟩=>by show run (if xs.length<=aC then throw c else fail) G1 QS E;rw[if_pos l];exact q) fun _ _ z=>z)
def IT{e:E3}{k:D->St->Fl×St}{ms:List ((Nat->Bool)×S3)}(h:run (e σ) G (fun d G'=>QS (k d σ) G') fun c G'=>∃f,pick c ms=some f/\run (f σ) G' QS E):run (wH e k ms σ) G QS E:=by
 unfold run wH at*
 cases q:e σ G with
 |none=>rw[q]at h;exact h
 |some p=>
  obtain⟨o,G1⟩:=p
  rw[q]at h
  cases o with
  |ok d=>exact h
  |exc c=>
   obtain⟨f,hf,hr⟩:=h
   dsimp only
   rw[hf]
   exact hr
def w_fld{o:E3}{f:Nat}(h:run (o σ) G (fun x G1=>run (AA x f) G1 Q E) E):run (aT o f σ) G Q E:=aB h
def aZ{n C f:Nat}{fs:List (Nat×D)}{d:D}(hn:G[n]? =some (.ins C fs))(hC:C < 1000)(hf:fs.lookup f=some d)(h:Q d G):run (AA (.ref n) f) G Q E:=by
 unfold run AA
 dsimp only
 rw[hn]
 dsimp only
 rw[if_pos hC,hf]
 exact h
def Gg{n C f:Nat}{fs:List (Nat×D)}{y:D}(hn:G[n]? =some (.ins C fs))(hl:C < 1000/\fs.length < 1000)(h:QU () (G.set n (.ins C (putN f y fs)))):run (yj (.ref n) f y) G QU E:=by
 unfold run yj
 dsimp only
 rw[hn]
 dsimp only
 rw[if_pos hl]
 exact h
def bX{n C:Nat}{fs:List (Nat×D)}(hn:G[n]? =some (.ins C fs))(h:QU () G):run (isC C (.ref n)) G QU E:=by
 unfold run isC
 dsimp only
 rw[hn]
 dsimp only
 rw[if_pos rfl]
 exact h
def fG{o e:E3}{f:Nat}(h:run (e σ) G (fun y G1=>run (o σ) G1 (fun x G2=>run (yj x f y) G2 (fun _ G3=>QS (.next,σ) G3) E) E) E):run (bz o f e σ) G QS E:=
 aB (au h (fun y G1 q=>aB (au q (fun x G2 q=>aB q) fun _ _ z=>z)) fun _ _ z=>z)
def bq{C:Nat}{g:List D->M D}{o:E3}{a:A3}(h:run (o σ) G (fun x G1=>run (isC C x) G1 (fun _ G2=>run (a σ) G2 (fun ds G3=>run (g (x :: ds)) G3 Q E) E) E) E):run (aL C g o a σ) G Q E:=
 aB (au h (fun x G1 q=>aB (au q (fun _ G2 q=>aB q) fun _ _ z=>z)) fun _ _ z=>z)
def Gi{C:Nat}{g:List D->M D}{a:A3}(h:run (a σ) G (fun ds G1=>run (g (.ref G1.length :: ds)) (G1++[.ins C []]) (fun r G2=>r= .non/\Q (.ref G1.length) G2) E) E):run (jC C g a σ) G Q E:=
 aB (au h (fun ds G1 q=>aB (show run (bnd (g (.ref G1.length :: ds)) fun r=>bnd (yb r) fun _=>ret (D.ref G1.length)) (G1++[.ins C []]) Q E from aB (au q (fun r G2 ⟨e,q⟩=>by subst e;exact q) fun _ _ z=>z))) fun _ _ z=>z)
def EL{o i e:E3}(h:run (e σ) G (fun v G1=>run (o σ) G1 (fun x G2=>run (i σ) G2 (fun y G3=>run (yB x y v) G3 (fun _ G4=>QS (.next,σ) G4) E) E) E) E):run (xx o i e σ) G QS E:=
 aB (au h (fun v G1 q=>aB (au q (fun x G2 q=>aB (au q (fun y G3 q=>aB q) fun _ _ z=>z)) fun _ _ z=>z)) fun _ _ z=>z)
def FI{n:Nat}{kvs:List (Key×D)}{i v:D}{k:Key}(hn:G[n]? =some (.dK kvs))(hk:pZ i=some k)(hl:kvs.length < aC)(h:QU () (G.set n (.dK (put kvs k v)))):run (yB (.ref n) i v) G QU E:=by
 unfold run yB
 dsimp only
 rw[hn]
 dsimp only
 rw[hk]
 dsimp only
 rw[if_pos hl]
 exact h
def D9{n:Nat}{kvs:List (Key×D)}{i d:D}{k:Key}(hn:G[n]? =some (.dK kvs))(hk:pZ i=some k)(e:look kvs k=some d)(h:Q d G):run (oIx (.ref n) i) G Q E:=by
 unfold run oIx
 dsimp only
 rw[hn]
 cases i with
 |int z=>dsimp only;rw[hk];dsimp only;rw[e];exact h
 |str z=>dsimp only;rw[hk];dsimp only;rw[e];exact h
 |_=>cases hk
def uN{o a:E3}(h:run (o σ) G (fun x G1=>run (isL x) G1 (fun _ G2=>run (a σ) G2 (fun y G3=>run (iU x y) G3 Q E) E) E) E):run (vm o a σ) G Q E:=
 aB (au h (fun x G1 q=>aB (au q (fun _ G2 q=>aB q) fun _ _ z=>z)) fun _ _ z=>z)
def yy{n m:Nat}{xs ys:List D}(hn:G[n]? =some (.lst xs))(hm:G[m]? =some (.lst ys))(hl:xs.length+ys.length<=aC)(h:Q .non (G.set n (.lst (xs++ys)))):run (iU (.ref n) (.ref m)) G Q E:=by
 unfold run iU
 dsimp only
 rw[hn,hm]
 dsimp only
 rw[if_pos hl]
 exact h
def yd{o a:E3}(h:run (o σ) G (fun x G1=>run (isL x) G1 (fun _ G2=>run (a σ) G2 (fun y G3=>run (mh x y) G3 Q E) E) E) E):run (tY o a σ) G Q E:=
 aB (au h (fun x G1 q=>aB (au q (fun _ G2 q=>aB q) fun _ _ z=>z)) fun _ _ z=>z)
def BH{n k:Nat}{xs:List D}{i:Int}{y:D}(hn:G[n]? =some (.lst xs))(hk:ixN xs.length i=some k)(hy:xs[k]? =some y)(hi:-(2 ^ 62)<=i/\i < 2 ^ 62)(h:Q y (G.set n (.lst (xs.eraseIdx k)))):run (mh (.ref n) (.int i)) G Q E:=by
 unfold run mh
 dsimp only
 rw[hn]
 dsimp only
 rw[hk]
 dsimp only
 rw[hy]
 dsimp only
 rw[if_pos hi]
 exact h
def EN{o:E3}(h:run (o σ) G (fun x G1=>run (vB x) G1 Q E) E):run (AV o σ) G Q E:=aB h
def CT{n:Nat}{kvs:List (Key×D)}(hn:G[n]? =some (.dK kvs))(h:Q (.ref G.length) (G++[.lst (kvs.map (·.2))])):run (vB (.ref n)) G Q E:=by
 unfold run vB
 dsimp only
 rw[hn]
 exact h
def HU{e:E3}{lo hi:P3}(h:run (e σ) G (fun x G1=>run (lo σ) G1 (fun l G2=>run (hi σ) G2 (fun r G3=>run (oSl x l r) G3 Q E) E) E) E):run (eSl e lo hi σ) G Q E:=
 aB (au h (fun x G1 q=>aB (au q (fun l G2 q=>aB q) fun _ _ z=>z)) fun _ _ z=>z)
end
end M3
namespace L3
open PySem PySem.Spec PyProof.Rows L2
structure Tab where
 cls:Nat->Option Addr
 nm:Nat->Str
mutual
def Den(K:PySem.W.Frag)(H:Hp)(μ:List Addr):M3.D->V->Prop
 | .non,v=>v= .non
 | .bl b,v=>v= .bl b
 | .int i,v=>v= .int i
 | .str x,v=>v= .str x
 | .ref n,v=>∃a,μ[n]? =some a/\v= .ref a
 | .tup ds,v=>∃a vs,v= .ref a/\SqT K H a vs/\az K H μ ds vs
def az(K:PySem.W.Frag)(H:Hp)(μ:List Addr):List M3.D->List V->Prop
 | [],vs=>vs=[]
 |d :: ds,vs=>∃v r,vs=v :: r/\Den K H μ d v/\az K H μ ds r
end
structure Keeps (H H':Hp):Prop where
 tup:∀b xs,H b=some (.tup xs)->H' b=some (.tup xs)
 frz:∀b o u,H b=some (.frz o u)->H' b=some (.frz o u)
def Keeps.refl(H:Hp):Keeps H H:=⟨fun _ _ h=>h,fun _ _ _ h=>h⟩
def Keeps.trans{A B C:Hp}(a:Keeps A B)(b:Keeps B C):Keeps A C:=⟨fun _ _ h=>b.tup _ _ (a.tup _ _ h),fun _ _ _ h=>b.frz _ _ _ (a.frz _ _ _ h)⟩
def Keeps.of_same{H H':Hp}(h:fU H H'):Keeps H H':=⟨fun _ _ e=>h _ _ e,fun _ _ _ e=>h _ _ e⟩
def fU.new{H:Hp}{p:Addr}(o:HO)(h:H p=none):fU H (upd H p o):=fun b u e=>by rw[aJ (cp e h)];exact e
def Keeps.write{H:Hp}{a:Addr}{o o':HO}(h:H a=some o)(ht:∀xs,o≠.tup xs)(hf:∀q u,o≠.frz q u):Keeps H (upd H a o'):=
 ⟨fun b xs e=>by rw[aJ (Bf e h (fun z=>ht xs z.symm))];exact e,fun b q u e=>by rw[aJ (Bf e h (fun z=>hf q u z.symm))];exact e⟩
def SqT.keeps{K:PySem.W.Frag}{H H':Hp}{a:Addr}{xs:List V}(k:Keeps H H')(h:SqT K H a xs):SqT K H' a xs:=by
 rcases h with (h |⟨o,h⟩) |h
 · exact .inl (.inl (k.tup _ _ h))
 · exact .inl (.inr ⟨o,k.frz _ _ _ h⟩)
 · exact .inr h
def SqF(K:PySem.W.Frag)(H:Hp)(a:Addr)(xs:List V):Prop:=
 (∃o,H a=some (.frz o (.lst xs)))\/
   ∃(o:Obj) (its:Array Value) (n:Nat),K.lookup a=some o/\o.cls= .type "list"/\o.dict=none/\o.data= .seq its n/\its.size<=sizeLine/\Vals xs its.toList
def SqF.keeps{K:PySem.W.Frag}{H H':Hp}{a:Addr}{xs:List V}(k:Keeps H H')(h:SqF K H a xs):SqF K H' a xs:=by
 rcases h with ⟨o,h⟩ |h
 · exact .inl ⟨o,k.frz _ _ _ h⟩
 · exact .inr h
def SqF.sq{K:PySem.W.Frag}{H:Hp}{a:Addr}{xs:List V}(h:SqF K H a xs):SqL K H a xs:=by
 rcases h with ⟨o,h⟩ |h
 · exact .inl (.inr ⟨o,h⟩)
 · exact .inr h
structure Up (μ μ':List Addr) (H H':Hp):Prop where
 pre:μ <+: μ'
 keeps:Keeps H H'
 rest:∀b o,H b=some o->b∉μ->H' b=some o/\b∉μ'
theorem Up.refl(μ:List Addr)(H:Hp):Up μ μ H H:=⟨List.prefix_refl _,Keeps.refl _,fun _ _ h n=>⟨h,n⟩⟩
theorem Up.trans{μ μ1 μ2:List Addr}{H H1 H2:Hp}(a:Up μ μ1 H H1)(b:Up μ1 μ2 H1 H2):Up μ μ2 H H2:=⟨a.pre.trans b.pre,a.keeps.trans b.keeps,fun c o h n=>let ⟨h1,n1⟩:=a.rest c o h n;b.rest c o h1 n1⟩
def Up.same{μ:List Addr}{H H':Hp}(h:fU H H'):Up μ μ H H':=⟨List.prefix_refl _,Keeps.of_same h,fun c o e n=>⟨h c o e,n⟩⟩
theorem Up.new{μ:List Addr}{H:Hp}{p:Addr}(u:HO)(hp:H p=none):Up μ (μ++[p]) H (upd H p u):=⟨⟨[p],rfl⟩,Keeps.of_same (fU.new u hp),fun c o e n=>⟨fU.new u hp c o e,fun z=>by
 rcases qG_.mp z with z |z
 · exact n z
 · simp at z;subst z;rw[hp]at e;cases e⟩⟩
def Up.t9{μ:List Addr}{H:Hp}{a:Addr}{o o':HO}{n:Nat}(ea:μ[n]? =some a)(h:H a=some o)(ht:∀xs,o≠.tup xs)(hf:∀q u,o≠.frz q u):Up μ μ H (upd H a o'):=
 ⟨List.prefix_refl _,Keeps.write h ht hf,fun c u e nc=>⟨by rw[aJ (by rintro rfl;exact nc (qD_ ea))];exact e,nc⟩⟩
def Up.at{μ μ':List Addr}{H H':Hp}(u:Up μ μ' H H'){n:Nat}{a:Addr}(h:μ[n]? =some a):μ'[n]? =some a:=by
 obtain⟨r,rfl⟩:=u.pre
 rw[qK_ (qB_.mp h).1]
 exact h
theorem GG{μ μ':List Addr}(u:μ <+: μ'){n:Nat}{a:Addr}(h:μ[n]? =some a):μ'[n]? =some a:=by
 obtain⟨r,rfl⟩:=u
 rw[qK_ (qB_.mp h).1]
 exact h
mutual
theorem Den.mono{K:PySem.W.Frag}{μ μ':List Addr}{H H':Hp}(p:μ <+: μ')(k:Keeps H H'):∀{d:M3.D} {v:V},Den K H μ d v->Den K H' μ' d v
 | .non,_,h=>h
 | .bl _,_,h=>h
 | .int _,_,h=>h
 | .str _,_,h=>h
 | .ref _,_,⟨a,e,h⟩=>⟨a,GG p e,h⟩
 | .tup ds,_,⟨a,vs,e,h,r⟩=>⟨a,vs,e,SqT.keeps k h,az.mono p k r⟩
theorem az.mono{K:PySem.W.Frag}{μ μ':List Addr}{H H':Hp}(p:μ <+: μ')(k:Keeps H H'):∀{ds:List M3.D} {vs:List V},az K H μ ds vs->az K H' μ' ds vs
 | [],_,h=>h
 |_ :: _,_,⟨v,r,e,h,t⟩=>⟨v,r,e,Den.mono p k h,az.mono p k t⟩
end
def Den.up{K:PySem.W.Frag}{μ μ':List Addr}{H H':Hp}(u:Up μ μ' H H'){d:M3.D}{v:V}(h:Den K H μ d v):Den K H' μ' d v:=Den.mono u.pre u.keeps h
def az.up{K:PySem.W.Frag}{μ μ':List Addr}{H H':Hp}(u:Up μ μ' H H'){ds:List M3.D}{vs:List V}(h:az K H μ ds vs):az K H' μ' ds vs:=az.mono u.pre u.keeps h
theorem az.length{K:PySem.W.Frag}{μ:List Addr}{H:Hp}:∀{ds:List M3.D} {vs:List V},az K H μ ds vs->ds.length=vs.length
 | [],_,h=>by cases (show _=[]from h);rfl
 |_ :: _,_,⟨v,r,e,_,t⟩=>by subst e;simp [az.length t]
theorem az.get{K:PySem.W.Frag}{μ:List Addr}{H:Hp}:∀{ds:List M3.D} {vs:List V} {i:Nat} {d:M3.D},az K H μ ds vs->ds[i]? =some d->∃v,vs[i]? =some v/\Den K H μ d v
 | [],_,_,_,_,e=>by simp at e
 |d :: ds,_,0,d',⟨v,r,e,h,t⟩,q=>by
  subst e
  simp at q
  subst q
  exact⟨v,rfl,h⟩
 |d :: ds,_,i+1,d',⟨v,r,e,h,t⟩,q=>by
  subst e
  obtain⟨w,h1,h2⟩:=az.get (i:=i) t (by simpa using q)
  exact⟨w,by simpa using h1,h2⟩
def az.get'{K:PySem.W.Frag}{μ:List Addr}{H:Hp}{ds:List M3.D}{vs:List V}{i:Nat}{v:V}(h:az K H μ ds vs)(e:vs[i]? =some v):∃d,ds[i]? =some d/\Den K H μ d v:=by
 have hl:i < ds.length:=by rw[h.length];exact(qB_.mp e).1
 obtain⟨w,e1,h1⟩:=az.get h (qA_ hl)
 rw[e]at e1
 cases e1
 exact⟨_,qA_ hl,h1⟩
theorem az.append{K:PySem.W.Frag}{μ:List Addr}{H:Hp}:∀{ds es:List M3.D} {vs ws:List V},az K H μ ds vs->az K H μ es ws->az K H μ (ds++es) (vs++ws)
 | [],_,_,_,h,t=>by cases (show _=[]from h);exact t
 |_ :: _,_,_,_,⟨v,r,e,h,t⟩,s=>by subst e;exact⟨v,r++_,rfl,h,az.append t s⟩
def az.one{K:PySem.W.Frag}{μ:List Addr}{H:Hp}{d:M3.D}{v:V}(h:Den K H μ d v):az K H μ [d] [v]:=⟨v,[],rfl,h,rfl⟩
theorem az.ints{K:PySem.W.Frag}{μ:List Addr}{H:Hp}:∀{ns:List Int} {vs:List V},az K H μ (ns.map M3.D.int) vs->vs=ns.map V.int
 | [],_,h=>h
 |n :: ns,_,⟨v,r,e,h,t⟩=>by
  subst e
  have e1:v=V.int n:=h
  rw[e1,az.ints t];rfl
theorem az.oK{K:PySem.W.Frag}{μ:List Addr}{H:Hp}:∀{ns:List Int},az K H μ (ns.map M3.D.int) (ns.map V.int)
 | []=>rfl
 |n :: ns=>⟨_,_,rfl,rfl,az.oK⟩
def isF:M3.O->Bool
 | .frz _=>true
 |_=>false
def isW:M3.O->Bool
 | .frz _=>false
 | .dF _=>false
 |_=>true
def isW.nf{o:M3.O}(h:isW o=true):isF o=false:=by cases o <;> first |rfl |cases h
def JQ(x:List Int×Addr×Value):DictEntry:=⟨reduceHash (Builtin.Tuple.tupleHashOf (x.1.map hashInt)),.ref x.2.1,x.2.2⟩
def JB(a:Addr)(xs:List (List Int×Addr×Value))(h:Heap):Prop:=(a==sysModules)=false/\xs.length<=sizeLine/\∃o es ep,h.get? a=some o/\o.ExactDict/\o.data= .dict es ep/\es.toList=xs.map JQ/\(xs.map (·.1)).Nodup
def ObD(T:Tab)(K:PySem.W.Frag)(H:Hp)(μ:List Addr):M3.O->Addr->Prop
 | .lst xs,a=>∃vs,H a=some (.lst vs)/\az K H μ xs vs
 | .frz xs,a=>∃vs,SqF K H a vs/\az K H μ xs vs
 | .dK kvs,a=>∃ws,H a=some (.dK ws)/\Paired (fun(p:M3.Key×M3.D) (q:L2.Key×V)=>p.1=q.1/\Den K H μ p.2 q.2) kvs ws
 | .dF kvs,a=>∃ob ws,H a=some (.frz ob (.dK ws))/\Paired (fun(p:M3.Key×M3.D) (q:L2.Key×V)=>p.1=q.1/\Den K H μ p.2 q.2) kvs ws
 | .dT kvs,a=>∃xs,H a=some (.ext (JB a xs))/\Paired (fun(p:List Int×M3.D) (q:List Int×Addr×Value)=>p.1=q.1/\SqT K H q.2.1 (p.1.map V.int)/\∃v,Den K H μ p.2 v/\RelV v q.2.2) kvs xs
 | .ins C fs,a=>∃Ca dx ws,T.cls C=some Ca/\H a=some (.ins Ca dx ws)/\Paired (fun(p:Nat×M3.D) (q:Str×V)=>q.1=T.nm p.1/\Den K H μ p.2 q.2) fs ws
structure Sim (T:Tab) (K:PySem.W.Frag) (μ:List Addr) (H:Hp) (G:M3.Hh):Prop where
 len:μ.length=G.length
 obj:∀(n:Nat) a o,μ[n]? =some a->G[n]? =some o->ObD T K H μ o a
 inj:∀(n m:Nat) a o o',n≠m->μ[n]? =some a->μ[m]? =some a->G[n]? =some o->G[m]? =some o'->isF o=true\/isF o'=true
def ObD.some_of{T:Tab}{K:PySem.W.Frag}{μ:List Addr}{H:Hp}{o:M3.O}{a:Addr}(h:ObD T K H μ o a)(hf:isW o=true):∃u,H a=some u/\(∀xs,u≠.tup xs)/\∀q w,u≠.frz q w:=by
 cases o with
 |lst xs=>obtain⟨vs,e,_⟩:=h;exact⟨_,e,(fun _ z=>nomatch z),fun _ _ z=>nomatch z⟩
 |frz xs=>cases hf
 |dK kvs=>obtain⟨vs,e,_⟩:=h;exact⟨_,e,(fun _ z=>nomatch z),fun _ _ z=>nomatch z⟩
 |dF kvs=>cases hf
 |dT kvs=>obtain⟨vs,e,_⟩:=h;exact⟨_,e,(fun _ z=>nomatch z),fun _ _ z=>nomatch z⟩
 |ins C fs=>obtain⟨Ca,dx,ws,_,e,_⟩:=h;exact⟨_,e,(fun _ z=>nomatch z),fun _ _ z=>nomatch z⟩
def ObD.live{T:Tab}{K:PySem.W.Frag}{μ:List Addr}{H:Hp}{o:M3.O}{a:Addr}(h:ObD T K H μ o a)(hf:isF o=false):∃u,H a=some u:=by
 cases o with
 |frz xs=>cases hf
 |dF kvs=>obtain⟨ob,ws,e,_⟩:=h;exact⟨_,e⟩
 |lst xs=>obtain⟨u,e,_⟩:=h.some_of rfl;exact⟨u,e⟩
 |dK xs=>obtain⟨u,e,_⟩:=h.some_of rfl;exact⟨u,e⟩
 |dT xs=>obtain⟨u,e,_⟩:=h.some_of rfl;exact⟨u,e⟩
 |ins C fs=>obtain⟨u,e,_⟩:=h.some_of rfl;exact⟨u,e⟩
theorem ObD.mono{T:Tab}{K:PySem.W.Frag}{μ μ':List Addr}{H H':Hp}{o:M3.O}{a:Addr}(h:ObD T K H μ o a)(p:μ <+: μ')(k:Keeps H H')(e:∀x,H a=some x->H' a=some x):ObD T K H' μ' o a:=by
 cases o with
 |lst xs=>obtain⟨vs,q,r⟩:=h;exact⟨vs,e _ q,az.mono p k r⟩
 |frz xs=>obtain⟨vs,q,r⟩:=h;exact⟨vs,SqF.keeps k q,az.mono p k r⟩
 |dK kvs=>obtain⟨vs,q,r⟩:=h;exact⟨vs,e _ q,Paired.imp' (fun _ _ z=>⟨z.1,Den.mono p k z.2⟩) r⟩
 |dF kvs=>obtain⟨ob,vs,q,r⟩:=h;exact⟨ob,vs,e _ q,Paired.imp' (fun _ _ z=>⟨z.1,Den.mono p k z.2⟩) r⟩
 |dT kvs=>obtain⟨vs,q,r⟩:=h;exact⟨vs,e _ q,Paired.imp' (fun _ _ z=>⟨z.1,SqT.keeps k z.2.1,let ⟨v,x,y⟩:=z.2.2;⟨v,Den.mono p k x,y⟩⟩) r⟩
 |ins C fs=>obtain⟨Ca,dx,ws,c,q,r⟩:=h;exact⟨Ca,dx,ws,c,e _ q,Paired.imp' (fun _ _ z=>⟨z.1,Den.mono p k z.2⟩) r⟩
def ObD.jd{T:Tab}{K:PySem.W.Frag}{μ μ':List Addr}{H H':Hp}{o:M3.O}{a:Addr}(h:ObD T K H μ o a)(u:Up μ μ' H H')(e:∀x,H a=some x->H' a=some x):ObD T K H' μ' o a:=h.mono u.pre u.keeps e
section
variable{T:Tab}{K:PySem.W.Frag}{μ:List Addr}{H H':Hp}{G:M3.Hh}
theorem Sim.same(S:Sim T K μ H G)(h:fU H H'):Sim T K μ H' G:=
 ⟨S.len,fun n a o e1 e2=>(S.obj n a o e1 e2).jd (Up.same h) (h a),S.inj⟩
theorem Sim.new(S:Sim T K μ H G){p:Addr}{u:HO}{o:M3.O}(hp:H p=none)(hf:isF o=false)(ho:ObD T K (upd H p u) (μ++[p]) o p):Sim T K (μ++[p]) (upd H p u) (G++[o]):=by
 have sm:=fU.new u hp
 have up:Up μ (μ++[p]) H (upd H p u):=Up.new u hp
 have old:∀(n:Nat) a o',(μ++[p])[n]? =some a->(G++[o])[n]? =some o'->(μ[n]? =some a/\G[n]? =some o')\/(n=G.length/\a=p/\o'=o):=by
  intro n a o' e1 e2
  by_cases h:n < G.length
  · rw[qK_ (by rw[S.len];exact h)]at e1
    rw[qK_ h]at e2
    exact .inl ⟨e1,e2⟩
  · have hn:n=G.length:=by
     have:=(qB_.mp e2).1
     rw[qN_]at this
     simp at this
     omega
    subst hn
    rw[<-S.len]at e1
    simp at e1 e2
    exact .inr ⟨rfl,e1.symm,e2.symm⟩
 have free:∀(n:Nat) a o',μ[n]? =some a->G[n]? =some o'->isF o'=false->a≠p:=by
  intro n a o' e1 e2 hf'
  obtain⟨w,hw⟩:=(S.obj n a o' e1 e2).live hf'
  exact cp hw hp
 refine⟨by simp [S.len],fun n a o' e1 e2=>?_,fun n m a o1 o2 hnm e1 e2 e3 e4=>?_⟩
 · rcases old n a o' e1 e2 with ⟨h1,h2⟩ |⟨_,rfl,rfl⟩
   · exact(S.obj n a o' h1 h2).jd up (sm a)
   · exact ho
 · rcases old n a o1 e1 e3 with ⟨h1,h2⟩ |⟨rfl,rfl,rfl⟩
   · rcases old m a o2 e2 e4 with ⟨h3,h4⟩ |⟨rfl,rfl,rfl⟩
     · exact S.inj n m a o1 o2 hnm h1 h3 h2 h4
     · cases q:isF o1 with
       |true=>exact .inl rfl
       |false=>exact absurd rfl (free n a o1 h1 h2 q)
   · rcases old m a o2 e2 e4 with ⟨h3,h4⟩ |⟨h3,_,_⟩
     · cases q:isF o2 with
       |true=>exact .inr rfl
       |false=>exact absurd rfl (free m a o2 h3 h4 q)
     · exact absurd h3.symm hnm
theorem Sim.set(S:Sim T K μ H G){n:Nat}{a:Addr}{o o':M3.O}{u:HO}(e1:μ[n]? =some a)(e2:G[n]? =some o)(hfw:isW o=true)(hf':isF o'=false)(ho:ObD T K (upd H a u) μ o' a):Sim T K μ (upd H a u) (G.set n o'):=by
 have hf:=isW.nf hfw
 obtain⟨w,hw,h1,h2⟩:=(S.obj n a o e1 e2).some_of hfw
 have up:Up μ μ H (upd H a u):=Up.t9 e1 hw h1 h2
 have hl:=(qB_.mp e2).1
 refine⟨by rw[qX_];exact S.len,fun m b ob q1 q2=>?_,fun m k b o1 o2 hmk q1 q2 q3 q4=>?_⟩
 · by_cases h:m=n
   · subst h
     rw[e1]at q1
     cases q1
     rw[qU_ hl]at q2
     cases q2
     exact ho
   · rw[qV_ (Ne.symm h)]at q2
     cases q:isF ob with
     |true=>
      cases ob with
      |frz xs=>
       obtain⟨vs,z,r⟩:=S.obj m b _ q1 q2
       exact⟨vs,SqF.keeps up.keeps z,az.up up r⟩
      |_=>cases q
     |false=>
      have hb:b≠a:=by
       rintro rfl
       rcases S.inj m n b ob o h q1 e1 q2 e2 with z |z
       · rw[q]at z;cases z
       · rw[hf]at z;cases z
      exact(S.obj m b ob q1 q2).jd up fun x z=>by rw[aJ hb];exact z
 · have back:∀(m:Nat) ob,(G.set n o')[m]? =some ob->∃ob',G[m]? =some ob'/\isF ob'=isF ob:=by
    intro m ob q
    by_cases h:m=n
    · subst h
      rw[qU_ hl]at q
      cases q
      exact⟨o,e2,by rw[hf,hf']⟩
    · rw[qV_ (Ne.symm h)]at q
      exact⟨ob,q,rfl⟩
   obtain⟨p1,r1,f1⟩:=back m o1 q3
   obtain⟨p2,r2,f2⟩:=back k o2 q4
   rw[<-f1,<-f2]
   exact S.inj m k b p1 p2 hmk q1 q2 r1 r2
def Up.set(S:Sim T K μ H G){n:Nat}{a:Addr}{o:M3.O}(u:HO)(e1:μ[n]? =some a)(e2:G[n]? =some o)(hf:isW o=true):Up μ μ H (upd H a u):=by
 obtain⟨w,hw,h1,h2⟩:=(S.obj n a o e1 e2).some_of hf
 exact Up.t9 e1 hw h1 h2
end
structure StD (K:PySem.W.Frag) (H:Hp) (μ:List Addr) (σ3:M3.St) (σ:L2.St):Prop where
 len:σ3.length=σ.length
 at_:∀(i:Nat) d,σ3[i]? =some (some d)->∃v,σ[i]? =some (some v)/\Den K H μ d v
theorem StD.up{K:PySem.W.Frag}{H H':Hp}{μ μ':List Addr}{σ3:M3.St}{σ:L2.St}(u:Up μ μ' H H')(s:StD K H μ σ3 σ):StD K H' μ' σ3 σ:=
 ⟨s.len,fun i d e=>let ⟨v,h1,h2⟩:=s.at_ i d e;⟨v,h1,Den.up u h2⟩⟩
theorem StD.set{K:PySem.W.Frag}{H:Hp}{μ:List Addr}{σ3:M3.St}{σ:L2.St}(s:StD K H μ σ3 σ){d:M3.D}{v:V}(i:Nat)(h:Den K H μ d v):StD K H μ (σ3.set i (some d)) (σ.set i (some v)):=by
 refine⟨by rw[qX_,qX_];exact s.len,fun j d' e=>?_⟩
 by_cases hj:j=i
 · subst hj
   have hl:j < σ3.length:=by
    have:=(qB_.mp e).1
    rw[qX_]at this
    exact this
   rw[qU_ hl]at e
   cases e
   exact⟨v,by rw[qU_ (by rw[<-s.len];exact hl)],h⟩
 · rw[qV_ (Ne.symm hj)]at e
   rw[qV_ (Ne.symm hj)]
   exact s.at_ j d' e
structure EX where
 x:List Addr->Hp->Nat->M3.Hh->Prop
 up:∀{μ μ':List Addr} {H H':Hp} {c:Nat} {G:M3.Hh},Up μ μ' H H'->x μ H c G->x μ' H' c G
def EX.upE{α:Type}(E:EX){m:M3.M α}{G:M3.Hh}{P:α->M3.Hh->Prop}{μ μ':List Addr}{H H':Hp}(u:Up μ μ' H H')(h:M3.run m G P (E.x μ H)):M3.run m G P (E.x μ' H'):=M3.au h (fun _ _ q=>q) fun _ _ q=>E.up u q
def cW(T:Tab)(K:PySem.W.Frag)(μ:List Addr)(H:Hp)(Q:VK)(d:M3.D)(G':M3.Hh):Prop:=∀v H' μ',Up μ μ' H H'->Sim T K μ' H' G'->Den K H' μ' d v->Q v H'
def nR(T:Tab)(K:PySem.W.Frag)(μ:List Addr)(H:Hp)(Q:Bool->Hp->Prop)(b:Bool)(G':M3.Hh):Prop:=∀H' μ',Up μ μ' H H'->Sim T K μ' H' G'->Q b H'
def Ea(T:Tab)(K:PySem.W.Frag)(μ:List Addr)(H:Hp)(Q:List V->Hp->Prop)(ds:List M3.D)(G':M3.Hh):Prop:=∀vs H' μ',Up μ μ' H H'->Sim T K μ' H' G'->az K H' μ' ds vs->Q vs H'
def eL(T:Tab)(K:PySem.W.Frag)(μ:List Addr)(H:Hp)(D:Ends)(r:M3.Fl×M3.St)(G':M3.Hh):Prop:=∀σ' H' μ',Up μ μ' H H'->Sim T K μ' H' G'->StD K H' μ' r.2 σ'->match r.1 with
 | .next=>D.nx σ' H'
 | .brk=>D.bk σ' H'
 | .cont=>D.ct σ' H'
 | .ret d=>∀v,Den K H' μ' d v->D.rt v H'
section
variable{T:Tab}{K:PySem.W.Frag}{μ μ':List Addr}{H H':Hp}{G:M3.Hh}
def cW.up{Q:VK}{d:M3.D}(u:Up μ μ' H H')(h:cW T K μ H Q d G):cW T K μ' H' Q d G:=fun v H2 μ2 u2 S r=>h v H2 μ2 (u.trans u2) S r
def nR.up{Q:Bool->Hp->Prop}{d:Bool}(u:Up μ μ' H H')(h:nR T K μ H Q d G):nR T K μ' H' Q d G:=fun H2 μ2 u2 S=>h H2 μ2 (u.trans u2) S
def eL.up{D:Ends}{r:M3.Fl×M3.St}(u:Up μ μ' H H')(h:eL T K μ H D r G):eL T K μ' H' D r G:=fun v H2 μ2 u2 S r=>h v H2 μ2 (u.trans u2) S r
end
def tE(T:Tab)(K:PySem.W.Frag)(Y:EX)(f:M3.E3):TE:=fun σ H Q=>∃μ σ3 G,Sim T K μ H G/\StD K H μ σ3 σ/\M3.run (f σ3) G (cW T K μ H Q) (Y.x μ H)
def tT(T:Tab)(K:PySem.W.Frag)(Y:EX)(f:M3.T3):TT:=fun σ H Q=>∃μ σ3 G,Sim T K μ H G/\StD K H μ σ3 σ/\M3.run (f σ3) G (nR T K μ H Q) (Y.x μ H)
def tA(T:Tab)(K:PySem.W.Frag)(Y:EX)(f:M3.A3):TA:=fun σ H Q=>∃μ σ3 G,Sim T K μ H G/\StD K H μ σ3 σ/\M3.run (f σ3) G (Ea T K μ H Q) (Y.x μ H)
def tS(T:Tab)(K:PySem.W.Frag)(Y:EX)(f:M3.S3):TS:=fun D σ H=>∃μ σ3 G,Sim T K μ H G/\StD K H μ σ3 σ/\M3.run (f σ3) G (eL T K μ H D) (Y.x μ H)
def bG{Y:EX}{α:Type}{T:Tab}{K:PySem.W.Frag}{μ:List Addr}{H:Hp}{m:M3.M M3.D}{k:M3.D->M3.M α}{G:M3.Hh}{P:α->M3.Hh->Prop}{R:VK}(h:M3.run (M3.bnd m k) G P (Y.x μ H))
 (f:∀d G1 v H1 μ1,Up μ μ1 H H1->Sim T K μ1 H1 G1->Den K H1 μ1 d v->M3.run (k d) G1 P (Y.x μ1 H1)->R v H1):M3.run m G (cW T K μ H R) (Y.x μ H):=
 M3.au (M3.aS h) (fun d G1 q v H1 μ1 u S r=>f d G1 v H1 μ1 u S r (Y.upE u q)) fun _ _ z=>z
def rf{Y:EX}{α:Type}{T:Tab}{K:PySem.W.Frag}{μ:List Addr}{H:Hp}{m:M3.M Bool}{k:Bool->M3.M α}{G:M3.Hh}{P:α->M3.Hh->Prop}{R:Bool->Hp->Prop}(h:M3.run (M3.bnd m k) G P (Y.x μ H))
 (f:∀b G1 H1 μ1,Up μ μ1 H H1->Sim T K μ1 H1 G1->M3.run (k b) G1 P (Y.x μ1 H1)->R b H1):M3.run m G (nR T K μ H R) (Y.x μ H):=
 M3.au (M3.aS h) (fun d G1 q H1 μ1 u S=>f d G1 H1 μ1 u S (Y.upE u q)) fun _ _ z=>z
def nX{Y:EX}{α:Type}{T:Tab}{K:PySem.W.Frag}{μ:List Addr}{H:Hp}{m:M3.M (List M3.D)}{k:List M3.D->M3.M α}{G:M3.Hh}{P:α->M3.Hh->Prop}{R:List V->Hp->Prop}(h:M3.run (M3.bnd m k) G P (Y.x μ H))
 (f:∀ds G1 vs H1 μ1,Up μ μ1 H H1->Sim T K μ1 H1 G1->az K H1 μ1 ds vs->M3.run (k ds) G1 P (Y.x μ1 H1)->R vs H1):M3.run m G (Ea T K μ H R) (Y.x μ H):=
 M3.au (M3.aS h) (fun d G1 q v H1 μ1 u S r=>f d G1 v H1 μ1 u S r (Y.upE u q)) fun _ _ z=>z
def cD{α:Type}{m:M3.M α}{G:M3.Hh}{P P':α->M3.Hh->Prop}{X:Nat->M3.Hh->Prop}(h:M3.run m G P X)(f:∀a G',P a G'->P' a G'):M3.run m G P' X:=M3.au h f fun _ _ z=>z
section
variable{X:Cx}{T:Tab}{Y:EX}{a b e:Expr}{es:List Expr}{fa fb:M3.E3}{pos:Pos}{tt:M3.T3}
def PE.of{t u:TE}(h:PE X e t)(f:∀σ H Q,u σ H Q->t σ H Q):PE X e u:=fun pins s σ H Q I q=>h pins s σ H Q I (f σ H Q q)
def PT.of{t u:TT}(h:PT X e t)(f:∀σ H Q,u σ H Q->t σ H Q):PT X e u:=fun pins s σ H Q I q=>h pins s σ H Q I (f σ H Q q)
def PW.of{t u:TT}(h:PW X e t)(f:∀σ H Q,u σ H Q->t σ H Q):PW X e u:=fun wh pins s σ H Q I q=>h wh pins s σ H Q I (f σ H Q q)
def PA.of{t u:TA}(h:PA X es t)(f:∀σ H Q,u σ H Q->t σ H Q):PA X es u:=fun ps pins s σ H Q I q=>h ps pins s σ H Q I (f σ H Q q)
def PS.of{st:Stmt}{t u:TS}(h:PS X st t)(f:∀D σ H,u D σ H->t D σ H):PS X st u:=fun pins s σ H D I q=>h pins s σ H D I (f D σ H q)
def PSs.of{st:List Stmt}{t u:TS}(h:PSs X st t)(f:∀D σ H,u D σ H->t D σ H):PSs X st u:=fun pins s σ H D I q=>h pins s σ H D I (f D σ H q)
def dm(i:Nat){x:Str}(hN:X.N[i]? =some x:=by rfl)(hv:Vis X.env.scope x:=by first |exact Or.inl rfl |exact Or.inr (Or.inl rfl) |exact Or.inr (Or.inr rfl))(hd:(x==("__debug__":Str))=false:=by decide)
 (hcd:(x==("__classdict__":Str))=false:=by decide):PE X (.Name x pos) (tE T X.K Y (M3.ae i)):=by
 refine PE.of (EH hN hv hd hcd) fun σ H Q ⟨μ,σ3,G,S,sd,h⟩=>?_
 unfold M3.ae at h
 cases q:σ3[i]? with
 |none=>rw[q]at h;exact False.elim h
 |some o=>
  rw[q]at h
  cases o with
  |none=>exact False.elim h
  |some d=>
   obtain⟨v,e,r⟩:=sd.at_ i d q
   exact⟨v,e,h v H μ (Up.refl _ _) S r⟩
def mZ{d:M3.D}{v:V}(h:PE X e (tC v))(hd:∀H μ,Den X.K H μ d v):PE X e (tE T X.K Y (M3.eC d)):=
 PE.of h fun σ H Q ⟨μ,σ3,G,S,sd,q⟩=>q v H μ (Up.refl _ _) S (hd H μ)
def uI{i j}:PE X (.Constant (.int i) j pos) (tE T X.K Y (M3.eC (.int i))):=mZ EZ fun _ _=>rfl
def HE{c j}:PE X (.Constant (.bool c) j pos) (tE T X.K Y (M3.eC (.bl c))):=mZ IS fun _ _=>rfl
def IB{j}:PE X (.Constant .none j pos) (tE T X.K Y (M3.eC .non)):=mZ Ft fun _ _=>rfl
def Ib{x j}:PE X (.Constant (.str x) j pos) (tE T X.K Y (M3.eC (.str x))):=mZ Gy fun _ _=>rfl
def Br2(T:Tab)(K:PySem.W.Frag)(Y:EX)(g:M3.D->M3.D->M3.M M3.D)(r:R2):Prop:=
 ∀μ H G x y v w Q,Sim T K μ H G->Den K H μ x v->Den K H μ y w->M3.run (g x y) G (cW T K μ H Q) (Y.x μ H)->r v w H Q
def Df{g:M3.D->M3.D->M3.M M3.D}{r:R2}{K:PySem.W.Frag}(br:Br2 T K Y g r){σ:L2.St}{H:Hp}{Q:VK}(h:tE T K Y (M3.eOp g fa fb) σ H Q):tOp r (tE T K Y fa) (tE T K Y fb) σ H Q:=by
 obtain⟨μ,σ3,G,S,sd,h⟩:=h
 refine⟨μ,σ3,G,S,sd,bG h fun x G1 v H1 μ1 u1 S1 d1 h1=>⟨μ1,σ3,G1,S1,sd.up u1,bG h1 fun y G2 w H2 μ2 u2 S2 d2 h2=>?_⟩⟩
 exact br μ2 H2 G2 x y v w Q S2 (Den.up u2 d1) d2 (cD h2 fun _ _ q=>q.up (u1.trans u2))
def wY{op:Operator}{g:M3.D->M3.D->M3.M M3.D}{r:R2}(br:OpR X (binaryOp op) r/\Br2 T X.K Y g r)(ha:PE X a (tE T X.K Y fa))(hb:PE X b (tE T X.K Y fb)):PE X (.BinOp a op b pos) (tE T X.K Y (M3.eOp g fa fb)):=
 PE.of (Hr br.1 ha hb) fun _ _ _ h=>Df br.2 h
def Ac{op:CmpOp}{g:M3.D->M3.D->M3.M M3.D}{r:R2}(br:OpR X (compareOp op) r/\Br2 T X.K Y g r)(ha:PE X a (tE T X.K Y fa))(hb:PE X b (tE T X.K Y fb))(hm:behindInMarks op b=false):PE X (.Compare a [op] [b] pos) (tE T X.K Y (M3.eOp g fa fb)):=
 PE.of (DM br.1 ha hb hm) fun _ _ _ h=>Df br.2 h
def sG{x:M3.D}{G:M3.Hh}{P:Bool->M3.Hh->Prop}{Z:Nat->M3.Hh->Prop}(h:M3.run (M3.asB x) G P Z):∃c,x= .bl c/\P c G:=by
 cases x with
 |bl c=>exact⟨c,rfl,h⟩
 |_=>exact False.elim h
def EJ{K:PySem.W.Frag}{f:M3.E3}{σ:L2.St}{H:Hp}{Q:Bool->Hp->Prop}(h:tT T K Y (M3.tB f) σ H Q):D4 (tE T K Y f) σ H Q:=by
 obtain⟨μ,σ3,G,S,sd,h⟩:=h
 refine⟨μ,σ3,G,S,sd,bG h fun x G1 v H1 μ1 u1 S1 d1 h1=>?_⟩
 obtain⟨c,rfl,q⟩:=sG h1
 exact⟨c,d1,q H1 μ1 u1 S1⟩
def oa{op:CmpOp}{g:M3.D->M3.D->M3.M M3.D}{r:R2}(br:OpR X (compareOp op) r/\Br2 T X.K Y g r)(ha:PE X a (tE T X.K Y fa))(hb:PE X b (tE T X.K Y fb))(hm:behindInMarks op b=false):PT X (.Compare a [op] [b] pos) (tT T X.K Y (M3.tB (M3.eOp g fa fb))):=by
 refine PT.of (DK br.1 ha hb hm) fun σ H Q h=>?_
 obtain⟨μ,σ3,G,S,sd,h⟩:=EJ h
 exact Df br.2 ⟨μ,σ3,G,S,sd,h⟩
end
def cB:M3.aC=sizeLine:=by rw[sizeLine_eq];rfl
section
variable{X:Cx}{T:Tab}{Y:EX}{a b e:Expr}{es:List Expr}{fa fb:M3.E3}{ta tb:M3.T3}{f3:M3.A3}{pos:Pos}{rest:List Expr}
def Bo{op}{f:M3.E3}(h:PE X a (tE T X.K Y f)):PE X (.BoolOp op [a] pos) (tE T X.K Y f):=FP h
def Ay(ha:PE X a (tE T X.K Y fa))(hb:PE X (.BoolOp .And (b :: rest) pos) (tE T X.K Y fb)):PE X (.BoolOp .And (a :: b :: rest) pos) (tE T X.K Y (M3.oq fa fb)):=by
 refine PE.of (He ha hb) fun σ H Q ⟨μ,σ3,G,S,sd,h⟩=>⟨μ,σ3,G,S,sd,bG h fun x G1 v H1 μ1 u1 S1 d1 h1=>?_⟩
 obtain⟨c,rfl,q⟩:=sG (M3.aS h1)
 refine⟨c,d1,?_⟩
 cases c with
 |true=>exact⟨μ1,σ3,G1,S1,sd.up u1,cD q fun _ _ z=>z.up u1⟩
 |false=>exact q _ H1 μ1 u1 S1 rfl
def Ju(ha:PE X a (tE T X.K Y fa))(hb:PE X (.BoolOp .Or (b :: rest) pos) (tE T X.K Y fb)):PE X (.BoolOp .Or (a :: b :: rest) pos) (tE T X.K Y (M3.eOr fa fb)):=by
 refine PE.of (HJ ha hb) fun σ H Q ⟨μ,σ3,G,S,sd,h⟩=>⟨μ,σ3,G,S,sd,bG h fun x G1 v H1 μ1 u1 S1 d1 h1=>?_⟩
 obtain⟨c,rfl,q⟩:=sG (M3.aS h1)
 refine⟨c,d1,?_⟩
 cases c with
 |true=>exact q _ H1 μ1 u1 S1 rfl
 |false=>exact⟨μ1,σ3,G1,S1,sd.up u1,cD q fun _ _ z=>z.up u1⟩
def II(ha:PE X a (tE T X.K Y fa)):PE X (.UnaryOp .Not a pos) (tE T X.K Y (M3.Br fa)):=by
 refine PE.of (Ez ha) fun σ H Q ⟨μ,σ3,G,S,sd,h⟩=>⟨μ,σ3,G,S,sd,bG h fun x G1 v H1 μ1 u1 S1 d1 h1=>?_⟩
 obtain⟨c,rfl,q⟩:=sG (M3.aS h1)
 exact⟨c,d1,q _ H1 μ1 u1 S1 rfl⟩
def HW{j pos'}(ha:PE X a (tE T X.K Y fa)):PE X (.Compare a [.Is] [.Constant .none j pos'] pos) (tE T X.K Y (M3.eUn M3.lX fa)):=by
 refine PE.of (FR (AL ha)) fun σ H Q ⟨μ,σ3,G,S,sd,h⟩=>⟨μ,σ3,G,S,sd,bG h fun x G1 v H1 μ1 u1 S1 d1 h1=>?_⟩
 refine h1 _ H1 μ1 u1 S1 ?_
 cases x with
 |non=>cases (show v= .non from d1);rfl
 |bl b=>cases (show v= .bl b from d1);rfl
 |int b=>cases (show v= .int b from d1);rfl
 |str b=>cases (show v= .str b from d1);rfl
 |ref n=>obtain⟨_,_,rfl⟩:=d1;rfl
 |tup ds=>obtain⟨_,_,rfl,_⟩:=d1;rfl
def FL(ha:PT X a (tT T X.K Y ta)):PW X (.BoolOp .And [a] pos) (tT T X.K Y ta):=B6 ha
def Ei(ha:PT X a (tT T X.K Y ta)):PW X (.BoolOp .Or [a] pos) (tT T X.K Y ta):=Gz ha
def w_and(ha:PT X a (tT T X.K Y ta))(hb:PW X (.BoolOp .And (b :: rest) pos) (tT T X.K Y tb)):PW X (.BoolOp .And (a :: b :: rest) pos) (tT T X.K Y (M3.nA ta tb)):=by
 refine PW.of (EB ha hb) fun σ H Q ⟨μ,σ3,G,S,sd,h⟩=>⟨μ,σ3,G,S,sd,rf h fun c G1 H1 μ1 u1 S1 h1=>?_⟩
 cases c with
 |true=>exact⟨μ1,σ3,G1,S1,sd.up u1,cD h1 fun _ _ z=>z.up u1⟩
 |false=>exact h1 H1 μ1 u1 S1
def w_or(ha:PT X a (tT T X.K Y ta))(hb:PW X (.BoolOp .Or (b :: rest) pos) (tT T X.K Y tb)):PW X (.BoolOp .Or (a :: b :: rest) pos) (tT T X.K Y (M3.tOr ta tb)):=by
 refine PW.of (Ie ha hb) fun σ H Q ⟨μ,σ3,G,S,sd,h⟩=>⟨μ,σ3,G,S,sd,rf h fun c G1 H1 μ1 u1 S1 h1=>?_⟩
 cases c with
 |true=>exact h1 H1 μ1 u1 S1
 |false=>exact⟨μ1,σ3,G1,S1,sd.up u1,cD h1 fun _ _ z=>z.up u1⟩
def AX(ha:PT X a (tT T X.K Y ta)):PT X (.UnaryOp .Not a pos) (tT T X.K Y (M3.eT ta)):=by
 refine PT.of (Gu ha) fun σ H Q ⟨μ,σ3,G,S,sd,h⟩=>⟨μ,σ3,G,S,sd,rf h fun c G1 H1 μ1 u1 S1 h1=>?_⟩
 exact h1 H1 μ1 u1 S1
def Gk{Z:Nat->M3.Hh->Prop}{K:PySem.W.Frag}{μ:List Addr}{H:Hp}{G:M3.Hh}{x:M3.D}{v:V}{P:Bool->M3.Hh->Prop}(S:Sim T K μ H G)(d:Den K H μ x v)(h:M3.run (M3.truth x) G P Z):∃k,Gn K v H k/\P k G:=by
 cases x with
 |non=>cases (show v= .non from d);exact⟨false,rfl,h⟩
 |bl b=>cases (show v= .bl b from d);exact⟨b,rfl,h⟩
 |int b=>cases (show v= .int b from d);exact⟨_,rfl,h⟩
 |str b=>
  cases (show v= .str b from d)
  unfold M3.run M3.truth at h
  dsimp only at h
  by_cases hl:b.length<=M3.aC
  · rw[if_pos hl]at h
    refine⟨b.length !=0,⟨by rw[<-cB];exact hl,?_⟩,h⟩
    cases q:b.length with
    |zero=>rfl
    |succ n=>rfl
  · rw[if_neg hl]at h
    exact False.elim h
 |tup ds=>
  obtain⟨a,vs,rfl,sq,r⟩:=d
  refine⟨!ds.isEmpty,.inr (.inl ⟨vs,sq,?_⟩),h⟩
  have:=r.length
  cases ds <;> cases vs <;> simp_all
 |ref n=>
  obtain⟨a,e,rfl⟩:=d
  unfold M3.run M3.truth at h
  dsimp only at h
  cases q:G[n]? with
  |none=>rw[q]at h;exact False.elim h
  |some o=>
   rw[q]at h
   have ob:=S.obj n a o e q
   cases o with
   |lst xs=>
    obtain⟨vs,e1,r⟩:=ob
    refine⟨_,.inl ⟨vs,SqL.of e1,rfl⟩,?_⟩
    have:=r.length
    cases xs <;> cases vs <;> simp_all
   |frz xs=>
    obtain⟨vs,e1,r⟩:=ob
    refine⟨_,.inl ⟨vs,e1.sq,rfl⟩,?_⟩
    have:=r.length
    cases xs <;> cases vs <;> simp_all
   |dK kvs=>
    obtain⟨ws,e1,r⟩:=ob
    refine⟨_,.inr (.inr ⟨ws,e1,rfl⟩),?_⟩
    have:=Paired.length r
    cases kvs <;> cases ws <;> simp_all
   |dF kvs=>exact False.elim h
   |dT kvs=>exact False.elim h
   |ins C fs=>exact False.elim h
def Dr{f:M3.E3}(h:PE X e (tE T X.K Y f))(he:∀whole,isTrue e X.env whole=(do let v <-whole;standAt e.pos;holding [v] (truthy v)):=by intro _;rfl):PT X e (tT T X.K Y (M3.tOf f)):=by
 refine PT.of (AG h he) fun σ H Q ⟨μ,σ3,G,S,sd,h⟩=>⟨μ,σ3,G,S,sd,bG h fun x G1 v H1 μ1 u1 S1 d1 h1=>?_⟩
 obtain⟨k,t,q⟩:=Gk S1 d1 h1
 exact⟨k,t,q H1 μ1 u1 S1⟩
def JJ{c:Expr}(hc:PT X c (tT T X.K Y ta))(ha:PE X a (tE T X.K Y fa))(hb:PE X b (tE T X.K Y fb)):PE X (.IfExp c a b pos) (tE T X.K Y (M3.eIf ta fa fb)):=by
 refine PE.of (zA hc ha hb) fun σ H Q ⟨μ,σ3,G,S,sd,h⟩=>⟨μ,σ3,G,S,sd,rf h fun c G1 H1 μ1 u1 S1 h1=>?_⟩
 cases c with
 |true=>exact⟨μ1,σ3,G1,S1,sd.up u1,cD h1 fun _ _ z=>z.up u1⟩
 |false=>exact⟨μ1,σ3,G1,S1,sd.up u1,cD h1 fun _ _ z=>z.up u1⟩
def nO:PA X [] (tA T X.K Y M3.ai):=PA.of jA fun σ H Q ⟨μ,σ3,G,S,sd,h⟩=>h [] H μ (Up.refl _ _) S rfl
def di{r:M3.A3}(ha:PE X e (tE T X.K Y fa))(hr:PA X es (tA T X.K Y r))(hs:starEach (e :: es) X.env=(false,eval e X.env) :: starEach es X.env:=by rfl):PA X (e :: es) (tA T X.K Y (M3.aa fa r)):=by
 refine PA.of (dU ha hr hs) fun σ H Q ⟨μ,σ3,G,S,sd,h⟩=>⟨μ,σ3,G,S,sd,bG h fun x G1 v H1 μ1 u1 S1 d1 h1=>⟨μ1,σ3,G1,S1,sd.up u1,nX h1 fun xs G2 vs H2 μ2 u2 S2 d2 h2=>?_⟩⟩
 exact h2 _ H2 μ2 (u1.trans u2) S2 ⟨v,vs,rfl,Den.up u2 d1,d2⟩
def A0{x1}(h:PA X es (tA T X.K Y f3)):PE X (.Tuple es x1 pos) (tE T X.K Y (M3.bU f3)):=by
 refine PE.of (Ak h) fun σ H Q ⟨μ,σ3,G,S,sd,h⟩=>⟨μ,σ3,G,S,sd,nX h fun xs G1 vs H1 μ1 u1 S1 d1 h1=>?_⟩
 by_cases hl:xs.length<=M3.aC
 · rw[if_pos hl]at h1
   refine⟨by rw[<-d1.length,<-cB];exact hl,fun p hp=>?_⟩
   have u2:Up μ1 μ1 H1 (upd H1 p (.tup vs)):=Up.same (fU.new _ hp)
   exact h1 _ _ μ1 (u1.trans u2) (S1.same (fU.new _ hp)) ⟨p,vs,rfl,SqT.of aO,az.up u2 d1⟩
 · rw[if_neg hl]at h1;exact False.elim h1
def Jb(h:PA X es (tA T X.K Y f3)):PE X (.List es pos) (tE T X.K Y (M3.cS f3)):=by
 refine PE.of (Fp h) fun σ H Q ⟨μ,σ3,G,S,sd,h⟩=>⟨μ,σ3,G,S,sd,nX h fun xs G1 vs H1 μ1 u1 S1 d1 h1=>?_⟩
 by_cases hl:xs.length<=M3.aC
 · rw[if_pos hl]at h1
   refine⟨by rw[<-d1.length,<-cB];exact hl,fun p hp=>?_⟩
   have u2:=Up.new (μ:=μ1) (.lst vs) hp
   refine h1 _ _ (μ1++[p]) (u1.trans u2) (S1.new hp rfl ⟨vs,aO,az.up u2 d1⟩) ⟨p,?_,rfl⟩
   rw[<-S1.len];simp
 · rw[if_neg hl]at h1;exact False.elim h1
def mB:PSs X [] (tS T X.K Y M3.aX):=PSs.of CP fun D σ H ⟨μ,σ3,G,S,sd,h⟩=>h σ H μ (Up.refl _ _) S sd
def cH{st:Stmt}{f:M3.S3}(h:PS X st (tS T X.K Y f)):PSs X [st] (tS T X.K Y f):=CG h
def aN{st:Stmt}{sts:List Stmt}{f g:M3.S3}(h1:PS X st (tS T X.K Y f))(h2:PSs X sts (tS T X.K Y g)):PSs X (st :: sts) (tS T X.K Y (M3.ao f g)):=by
 refine PSs.of (AD h1 h2) fun D σ H ⟨μ,σ3,G,S,sd,h⟩=>⟨μ,σ3,G,S,sd,cD (M3.aS h) fun r G1 q σ1 H1 μ1 u1 S1 sd1=>?_⟩
 obtain⟨fl,σ2⟩:=r
 cases fl with
 |next=>exact⟨μ1,σ2,G1,S1,sd1,cD (Y.upE u1 q) fun _ _ z=>z.up u1⟩
 |brk=>exact q σ1 H1 μ1 u1 S1 sd1
 |cont=>exact q σ1 H1 μ1 u1 S1 sd1
 |ret d=>exact q σ1 H1 μ1 u1 S1 sd1
def AE{i:Nat}{x:Str}{pos':Pos}(hN:X.N.Nodup)(hi:X.N[i]? =some x)(hx:Loc X.env.scope x)(he:PE X e (tE T X.K Y fa))(hs:swapsWith e (some (.Name x pos')) pos.line X.env=pure false:=by rfl)(hf:X.fn x=true\/X.env.scope.names.lookup x=some .local:=by first |exact .inl rfl |exact .inr rfl |assumption):
 PS X (.Assign [.Name x pos'] e pos) (tS T X.K Y (M3.bu i fa)):=by
 refine PS.of (FD hN hi hx he hs hf) fun D σ H ⟨μ,σ3,G,S,sd,h⟩=>⟨μ,σ3,G,S,sd,bG h fun d G1 v H1 μ1 u1 S1 d1 h1=>?_⟩
 exact h1 _ H1 μ1 u1 S1 ((sd.up u1).set i d1)
def w5(he:PE X e (tE T X.K Y fa))(hs:swapsWith e none pos.line X.env=pure false:=by rfl):PS X (.Expr e pos) (tS T X.K Y (M3.bP fa)):=by
 refine PS.of (Cw he hs) fun D σ H ⟨μ,σ3,G,S,sd,h⟩=>⟨μ,σ3,G,S,sd,bG h fun d G1 v H1 μ1 u1 S1 d1 h1=>?_⟩
 exact h1 _ H1 μ1 u1 S1 (sd.up u1)
def y_ret(he:PE X e (tE T X.K Y fa)):PS X (.Return (some e) pos) (tS T X.K Y (M3.aH fa)):=by
 refine PS.of (GX he) fun D σ H ⟨μ,σ3,G,S,sd,h⟩=>⟨μ,σ3,G,S,sd,bG h fun d G1 v H1 μ1 u1 S1 d1 h1=>?_⟩
 exact h1 _ H1 μ1 u1 S1 (sd.up u1) v d1
def tW{c:Expr}{p q:List Stmt}{f g:M3.S3}(hc:PT X c (tT T X.K Y ta))(ha:PSs X p (tS T X.K Y f))(hb:PSs X q (tS T X.K Y g)):PS X (.If c p q pos) (tS T X.K Y (M3.sIf ta f g)):=by
 refine PS.of (IX hc ha hb) fun D σ H ⟨μ,σ3,G,S,sd,h⟩=>⟨μ,σ3,G,S,sd,rf h fun c G1 H1 μ1 u1 S1 h1=>?_⟩
 cases c with
 |true=>exact⟨μ1,σ3,G1,S1,sd.up u1,cD h1 fun _ _ z=>z.up u1⟩
 |false=>exact⟨μ1,σ3,G1,S1,sd.up u1,cD h1 fun _ _ z=>z.up u1⟩
def IR(T:Tab)(K:PySem.W.Frag)(μ:List Addr)(H:Hp)(Q:L2.St->Hp->Prop)(σ3:M3.St)(G':M3.Hh):Prop:=∀σ' H' μ',Up μ μ' H H'->Sim T K μ' H' G'->StD K H' μ' σ3 σ'->Q σ' H'
def tG(T:Tab)(K:PySem.W.Frag)(Y:EX)(g:M3.D->M3.St->M3.M M3.St):TG:=fun v σ H Q=>∃μ σ3 G d,Sim T K μ H G/\StD K H μ σ3 σ/\Den K H μ d v/\M3.run (g d σ3) G (IR T K μ H Q) (Y.x μ H)
def PG.of{tg:Expr}{t u:TG}(h:PG X tg t)(f:∀v σ H Q,u v σ H Q->t v σ H Q):PG X tg u:=fun pins s σ H v w Q I r q=>h pins s σ H v w Q I r (f v σ H Q q)
def Gq{i:Nat}{x:Str}(hN:X.N.Nodup)(hi:X.N[i]? =some x)(hx:Loc X.env.scope x)(hf:X.fn x=true\/X.env.scope.names.lookup x=some .local:=by first |exact .inl rfl |exact .inr rfl |assumption):PG X (.Name x pos) (tG T X.K Y (M3.gNm i)):=
 PG.of (sD hN hi hx hf) fun v σ H Q ⟨μ,σ3,G,d,S,sd,r,h⟩=>h _ H μ (Up.refl _ _) S (sd.set i r)
def tGs(K:PySem.W.Frag)(is:List Nat):TGs:=fun vs σ H Q=>∃μ σ3 ds σ3',StD K H μ σ3 σ/\az K H μ ds vs/\M3.lV is ds σ3=some σ3'/\∀σ',StD K H μ σ3' σ'->Q σ' H
def PGs.of{ts:List Expr}{t u:TGs}(h:PGs X ts t)(f:∀v σ H Q,u v σ H Q->t v σ H Q):PGs X ts u:=fun pins s σ H v w Q I r q=>h pins s σ H v w Q I r (f v σ H Q q)
def En:PGs X [] (tGs X.K []):=by
 refine PGs.of CZ fun vs σ H Q ⟨μ,σ3,ds,σ3',sd,r,e,h⟩=>?_
 cases ds with
 |nil=>
  cases e
  exact⟨r,h σ sd⟩
 |cons d t=>cases e
def sR{i:Nat}{is:List Nat}{x:Str}{ts:List Expr}(hN:X.N.Nodup)(hi:X.N[i]? =some x)(hx:Loc X.env.scope x)(ht:PGs X ts (tGs X.K is))(hf:X.fn x=true\/X.env.scope.names.lookup x=some .local:=by first |exact .inl rfl |exact .inr rfl |assumption)
 (hs:(assignEach (.Name x pos :: ts) X.env).map (·.2)=assign (.Name x pos) X.env :: (assignEach ts X.env).map (·.2):=by rfl):PGs X (.Name x pos :: ts) (tGs X.K (i :: is)):=by
 refine PGs.of (Bu (sD hN hi hx hf) ht hs) fun vs σ H Q ⟨μ,σ3,ds,σ3',sd,r,e,h⟩=>?_
 cases ds with
 |nil=>cases e
 |cons d t=>
  obtain⟨v,rv,rfl,d1,d2⟩:=r
  exact⟨v,rv,rfl,μ,σ3.set i (some d),t,σ3',sd.set i d1,d2,e,h⟩
theorem pQ:∀{is:List Nat} {ds:List M3.D} {σ σ':M3.St},M3.lV is ds σ=some σ'->ds.length=is.length
 | [],[],_,_,_=>rfl
 | [],_ :: _,_,_,h=>by cases h
 |_ :: _,[],_,_,h=>by cases h
 |i :: r,d :: t,_,_,h=>by
  have:=pQ (is:=r) (ds:=t) h
  simp [this]
def Fs{ts:List Expr}{k:Nat}{is:List Nat}(hc:X.calm=true)(h:PGs X ts (tGs X.K is))(hn:(assignEach ts X.env).length=is.length:=by rfl)(hst:(assignEach ts X.env).findIdx? (·.1)=none:=by rfl):PG X (.Tuple ts k pos) (tG T X.K Y (M3.gUn is)):=by
 refine PG.of (Hn hc h hn hst) fun v σ H Q ⟨μ,σ3,G,d,S,sd,r,h⟩=>?_
 cases d with
 |tup ds=>
  obtain⟨a,vs,rfl,sq,r⟩:=r
  unfold M3.gUn at h
  dsimp only at h
  cases q:M3.lV is ds σ3 with
  |none=>rw[q]at h;exact False.elim h
  |some σ3'=>
   rw[q]at h
   refine⟨a,vs,rfl,sq,by rw[<-r.length];exact pQ q,μ,σ3,ds,σ3',sd,r,q,fun σ' sd'=>h σ' H μ (Up.refl _ _) S sd'⟩
 |_=>exact False.elim h
def Jf{tg:Expr}{is:List Nat}(he:PE X e (tE T X.K Y fa))(hg:PG X tg (tG T X.K Y (M3.gUn is)))(hs:swapsWithSole [tg] e pos.line X.env=pure false:=by rfl)(hw:swappedStores [tg] e X.env=pure none:=by rfl)
 (h1:(assignEach [tg] X.env).map (·.2)=[assign tg X.env]:=by rfl):PS X (.Assign [tg] e pos) (tS T X.K Y (M3.sUn is fa)):=by
 refine PS.of (BI he hg hs hw h1) fun D σ H ⟨μ,σ3,G,S,sd,h⟩=>⟨μ,σ3,G,S,sd,bG h fun d G1 v H1 μ1 u1 S1 d1 h1=>?_⟩
 refine⟨μ1,σ3,G1,d,S1,sd.up u1,d1,cD (M3.aS h1) fun σ4 G2 q σ' H' μ' u' S' sd'=>?_⟩
 exact q σ' H' μ' (u1.trans u') S' sd'
def jB{Z:Nat->M3.Hh->Prop}{c:Prop} [Decidable c]{α:Type}{m:M3.M α}{G:M3.Hh}{P:α->M3.Hh->Prop}(h:M3.run (if c then m else M3.fail) G P Z):c/\M3.run m G P Z:=by
 by_cases hc:c
 · rw[if_pos hc]at h;exact⟨hc,h⟩
 · rw[if_neg hc]at h;exact False.elim h
def Dd:OpR X (binaryOp .Sub) (rI0 fun i j=>.int (i - j))/\Br2 T X.K Y M3.rR (rI0 fun i j=>.int (i - j)):=⟨GC,by
 intro μ H G x y v w Q S dx dy h
 cases x with
 |int i=>cases y with
  |int j=>exact⟨i,j,dx,dy,h _ H μ (Up.refl _ _) S rfl⟩
  |_=>exact False.elim h
 |_=>exact False.elim h⟩
def uV{i:Int}(h:M3.small i=true):-(2 ^ 64) < i/\i < 2 ^ 64:=of_decide_eq_true h
def De:OpR X (binaryOp .Mult) (fun x y H Q=>∃s k,x= .str s/\y= .int k/\(0<=k/\k<=1000/\s.length<=1000)/\Q (.str (Txt.mul s k)) H):=by
 intro pins s σ H x y v u Q I rx ry h
 obtain⟨z,k,rfl,rfl,⟨h0,h1,h2⟩,q⟩:=h
 obtain⟨t,rfl⟩:=rx
 obtain⟨t',rfl⟩:=ry
 refine SB.mul ⟨?_,fun _ _=>?_,fun _ _=>?_⟩ fun t' tk=>⟨.str _,H,I.tok _,⟨_,rfl⟩,q⟩
 · rw[qa_ (by omega),qa_ (by omega)];rfl
 · rename_i hk _
   have hk':0 < k:=by omega
   have h3:(z.length:Int)*k<=1000*1000:=Int.mul_le_mul (by omega) h1 h0 (by decide)
   have:=Int.le_ediv_of_mul_le hk' (show (z.length:Int)*k<=2 ^ 63 - 1 by omega)
   omega
 · have h3:z.length*k.toNat<=1000*1000:=Nat.mul_le_mul h2 (by omega)
   have h4:sizeLine=16777216:=sizeLine_eq
   show decide (z.length*k.toNat > sizeLine)=false
   exact qa_ (by omega)
def Eu:R2:=fun x y H Q=>rI DI (fun i j=>.int (i*j)) x y H Q\/((∃s k,x= .str s/\y= .int k/\(0<=k/\k<=1000/\s.length<=1000)/\Q (.str (Txt.mul s k)) H)\/Ht x y H Q)
theorem az.rep{K:PySem.W.Frag}{H:Hp}{μ:List Addr}{ds:List M3.D}{vs:List V}(h:az K H μ ds vs):∀k:Nat,az K H μ (List.replicate k ds).flatten (List.replicate k vs).flatten
 |0=>rfl
 |k+1=>by
  rw[List.replicate_succ,List.replicate_succ,List.flatten_cons,List.flatten_cons]
  exact h.append (az.rep h k)
def Cn:OpR X (binaryOp .Mult) Eu/\Br2 T X.K Y M3.eP Eu:=⟨Fq.or (De.or GA),by
 intro μ H G x y v w Q S dx dy h
 cases x with
 |int i=>cases y with
  |int j=>
   obtain⟨c,h⟩:=jB (c:=(M3.small i||M3.small j)=true) h
   refine .inl ⟨i,j,dx,dy,?_,h _ H μ (Up.refl _ _) S rfl⟩
   rcases Bool.or_eq_true _ _ |>.mp c with c |c
   · exact .inl (uV c)
   · exact .inr (uV c)
  |_=>exact False.elim h
 |str s=>cases y with
  |int k=>
   obtain⟨c,h⟩:=jB (c:=0<=k/\k<=1000/\s.length<=1000) h
   exact .inr (.inl ⟨s,k,dx,dy,c,h _ H μ (Up.refl _ _) S rfl⟩)
  |_=>exact False.elim h
 |ref n=>cases y with
  |int k=>
   unfold M3.run M3.eP at h
   dsimp only at h
   cases q1:G[n]? with
   |none=>rw[q1]at h;exact False.elim h
   |some o1=>
    cases o1 with
    |lst xs=>
     rw[q1]at h
     dsimp only at h
     by_cases c:0<=k/\k<=1000000/\xs.length*k.toNat<=M3.aC
     · rw[if_pos c]at h
       obtain⟨c1,c2,c3⟩:=c
       obtain⟨p,ep,rfl⟩:=dx
       obtain⟨vs,hp,rp⟩:=S.obj n p _ ep q1
       refine .inr (.inr ⟨p,k,vs,rfl,dy,hp,by omega,by omega,by rw[<-rp.length,<-cB];exact c3,fun t ht=>?_⟩)
       have u2:=Up.new (μ:=μ) (.lst (List.replicate k.toNat vs).flatten) ht
       refine h _ _ (μ++[t]) u2 (S.new ht rfl ⟨_,aO,az.up u2 (rp.rep k.toNat)⟩) ⟨t,?_,rfl⟩
       rw[<-S.len];simp
     · rw[if_neg c]at h;exact False.elim h
    |_=>rw[q1]at h;exact False.elim h
  |_=>exact False.elim h
 |_=>exact False.elim h⟩
def xD:OpR X (binaryOp .Mod) (rI (fun _ j=>0 < j) fun i j=>.int (i % j))/\Br2 T X.K Y M3.oMod (rI (fun _ j=>0 < j) fun i j=>.int (i % j)):=⟨EA,by
 intro μ H G x y v w Q S dx dy h
 cases x with
 |int i=>cases y with
  |int j=>
   obtain⟨c,h⟩:=jB (c:=0 < j) h
   exact⟨i,j,dx,dy,c,h _ H μ (Up.refl _ _) S rfl⟩
  |_=>exact False.elim h
 |_=>exact False.elim h⟩
def Cu:OpR X (binaryOp .FloorDiv) (rI ES fun i j=>.int (i / j))/\Br2 T X.K Y M3.oDiv (rI ES fun i j=>.int (i / j)):=⟨Cm,by
 intro μ H G x y v w Q S dx dy h
 cases x with
 |int i=>cases y with
  |int j=>
   obtain⟨c,h⟩:=jB (c:=0 < j/\j < 1073741824) h
   exact⟨i,j,dx,dy,c,h _ H μ (Up.refl _ _) S rfl⟩
  |_=>exact False.elim h
 |_=>exact False.elim h⟩
def D6(K:PySem.W.Frag):R2:=fun x y H Q=>rI0 (fun i j=>.int (i+j)) x y H Q\/(fun x y H Q=>(∃i j,x= .str i/\y= .str j/\i.length+j.length<=sizeLine/\Q (.str (i++j)) H)\/(fun x y H Q=>D7 K x y H Q\/Ih x y H Q) x y H Q) x y H Q
def xI:OpR X (binaryOp .Add) (D6 X.K)/\Br2 T X.K Y M3.fW (D6 X.K):=⟨Gf.or (wy.or (Dn.or FY)),by
 intro μ H G x y v w Q S dx dy h
 cases x with
 |int i=>cases y with
  |int j=>exact .inl ⟨i,j,dx,dy,h _ H μ (Up.refl _ _) S rfl⟩
  |_=>exact False.elim h
 |str p=>cases y with
  |str q=>
   obtain⟨c,h⟩:=jB (c:=p.length+q.length<=M3.aC) h
   exact .inr (.inl ⟨p,q,dx,dy,by rw[<-cB];exact c,h _ H μ (Up.refl _ _) S rfl⟩)
  |_=>exact False.elim h
 |tup ds=>cases y with
  |tup es=>
   obtain⟨⟨c1,c2⟩,h⟩:=jB (c:=ds≠ []/\ds.length+es.length<=M3.aC) h
   obtain⟨p,vs,rfl,sp,rp⟩:=dx
   obtain⟨q,ws,rfl,sq,rq⟩:=dy
   refine .inr (.inr (.inl ⟨p,q,vs,ws,rfl,rfl,sp,sq,?_,by rw[<-rp.length,<-rq.length,<-cB];exact c2,fun z=>?_,fun z t ht=>?_⟩))
   · intro z;subst z
     cases ds with
     |nil=>exact c1 rfl
     |cons d t=>obtain⟨_,_,e,_⟩:=rp;cases e
   · subst z
     refine h _ H μ (Up.refl _ _) S ⟨p,vs,rfl,sp,?_⟩
     have:es=[]:=by
      have:=rq.length
      cases es with
      |nil=>rfl
      |cons _ _=>simp at this
     subst this
     rw[qY_];exact rp
   · have u2:Up μ μ H (upd H t (.tup (vs++ws))):=Up.same (fU.new _ ht)
     exact h _ _ μ u2 (S.same (fU.new _ ht)) ⟨t,_,rfl,SqT.of aO,az.up u2 (rp.append rq)⟩
  |_=>exact False.elim h
 |ref i=>cases y with
  |ref j=>
   unfold M3.run M3.fW at h
   dsimp only at h
   cases q1:G[i]? with
   |none=>rw[q1]at h;exact False.elim h
   |some o1=>
    cases o1 with
    |lst xs=>
     cases q2:G[j]? with
     |none=>rw[q1,q2]at h;exact False.elim h
     |some o2=>
      cases o2 with
      |lst ys=>
       rw[q1,q2]at h
       dsimp only at h
       by_cases c:xs.length+ys.length<=M3.aC
       · rw[if_pos c]at h
         obtain⟨p,ep,rfl⟩:=dx
         obtain⟨q,eq,rfl⟩:=dy
         obtain⟨vs,hp,rp⟩:=S.obj i p _ ep q1
         obtain⟨ws,hq,rq⟩:=S.obj j q _ eq q2
         refine .inr (.inr (.inr ⟨p,q,vs,ws,rfl,rfl,hp,hq,by rw[<-rp.length,<-rq.length,<-cB];exact c,fun t ht=>?_⟩))
         have u2:=Up.new (μ:=μ) (.lst (vs++ws)) ht
         refine h _ _ (μ++[t]) u2 (S.new ht rfl ⟨_,aO,az.up u2 (rp.append rq)⟩) ⟨t,?_,rfl⟩
         rw[<-S.len];simp
       · rw[if_neg c]at h;exact False.elim h
      |_=>rw[q1,q2]at h;exact False.elim h
    |_=>rw[q1]at h;exact False.elim h
  |_=>exact False.elim h
 |_=>exact False.elim h⟩
def Ey:OpR X (compareOp .GtE) (rI0 fun i j=>.bl (decide (j<=i)))/\Br2 T X.K Y M3.oGe (rI0 fun i j=>.bl (decide (j<=i))):=⟨Il,by
 intro μ H G x y v w Q S dx dy h
 cases x with
 |int i=>cases y with
  |int j=>exact⟨i,j,dx,dy,h _ H μ (Up.refl _ _) S rfl⟩
  |_=>exact False.elim h
 |_=>exact False.elim h⟩
theorem dY:∀{ds:List M3.D} {ns:List Int},M3.intsOf ds=some ns->ds=ns.map M3.D.int
 | [],_,h=>by cases h;rfl
 |d :: r,ns,h=>by
  cases d with
  |int i=>
   have h:(M3.intsOf r).map (i :: ·)=some ns:=h
   cases q:M3.intsOf r with
   |none=>rw[q]at h;cases h
   |some m=>
    rw[q]at h
    cases h
    rw[dY q];rfl
  |_=>cases h
theorem tf:∀(a b:List Int),M3.eO a b=HT.lexLt a b
 | [],[]=>rfl
 | [],_ :: _=>rfl
 |_ :: _,[]=>rfl
 |a :: r,b :: t=>by
  show (if a=b then M3.eO r t else decide (a < b))=if a=b then HT.lexLt r t else decide (a < b)
  rw[tf r t]
def Cp(K:PySem.W.Frag):R2:=fun x y H Q=>rI0 (fun i j=>.bl (decide (i < j))) x y H Q\/Io K x y H Q
def FG(hu:X.A.units < cLine):OpR X (compareOp .Lt) (Cp X.K)/\Br2 T X.K Y M3.oLt (Cp X.K):=⟨IU.or (GJ hu),by
 intro μ H G x y v w Q S dx dy h
 cases x with
 |int i=>cases y with
  |int j=>exact .inl ⟨i,j,dx,dy,h _ H μ (Up.refl _ _) S rfl⟩
  |_=>exact False.elim h
 |tup ds=>cases y with
  |tup es=>
   unfold M3.oLt at h
   dsimp only at h
   cases q1:M3.intsOf ds with
   |none=>rw[q1]at h;exact False.elim h
   |some m=>
    cases q2:M3.intsOf es with
    |none=>rw[q1,q2]at h;exact False.elim h
    |some n=>
     rw[q1,q2]at h
     rw[dY q1]at dx
     rw[dY q2]at dy
     obtain⟨p,vs,rfl,sp,rp⟩:=dx
     obtain⟨q,ws,rfl,sq,rq⟩:=dy
     rw[az.ints rp]at sp
     rw[az.ints rq]at sq
     refine .inr ⟨p,q,m,n,rfl,rfl,sp,sq,?_⟩
     rw[<-tf]
     exact h _ H μ (Up.refl _ _) S rfl
  |_=>exact False.elim h
 |_=>exact False.elim h⟩
end
open PySem PySem.Spec PyProof.Rows L2 PySem.SeqAt
section
variable{X:Cx}{T:Tab}{Y:EX}{pins:List (Addr×Obj)}{σ:L2.St}{H:Hp}{s:Shared}{μ:List Addr}{G:M3.Hh}
theorem mT{f:M3.D->M3.D->Option Bool}:∀{xs ys:List M3.D} {b:Bool},M3.eqZ f xs ys=some b->∃e:Nat->Bool,(∀(j:Nat) x y,xs[j]? =some x->ys[j]? =some y->f x y=some (e j))/\b=(List.range (min xs.length ys.length)).all e
 | [],ys,b,h=>⟨fun _=>true,(fun j x y h=>by simp at h),by cases ys <;> (cases h;simp)⟩
 |x :: xs,[],b,h=>⟨fun _=>true,(fun j x y _ h=>by simp at h),by cases h;simp⟩
 |x :: xs,y :: ys,b,h=>by
  unfold M3.eqZ at h
  cases q:f x y with
  |none=>rw[q]at h;cases h
  |some p=>
   cases q2:M3.eqZ f xs ys with
   |none=>rw[q,q2]at h;cases h
   |some r=>
    rw[q,q2]at h
    cases h
    obtain⟨e,h1,h2⟩:=mT q2
    refine⟨fun j=>match j with
     |0=>p
     |j+1=>e j,fun j a b e1 e2=>?_,?_⟩
    · cases j with
      |zero=>
       simp at e1 e2
       subst e1 e2
       exact q
      |succ j=>exact h1 j a b (by simpa using e1) (by simpa using e2)
    · rw[h2]
      simp only[List.length_cons,Nat.succ_min_succ,List.range_succ_eq_map,List.all_cons,List.all_map]
      rfl
def xo(I:Inv X pins σ H s){a:Addr}{vs ws:List V}(h1:SqL X.K H a vs)(h2:SqT X.K H a ws):False:=by
 obtain⟨its,_,⟨o,n,e,c,_⟩,_⟩:=I.list h1
 obtain⟨its2,_,⟨o2,e2,c2,_⟩,_⟩:=I.tuple h2
 rw[e]at e2
 cases e2
 rw[c]at c2
 injection c2 with c3
 exact absurd c3 (by decide)
def dG(S:Sim T X.K μ H G){n:Nat}{a:Addr}{xs:List M3.D}(e:μ[n]? =some a)(h:M3.listOf G n=some xs):∃vs,SqL X.K H a vs/\az X.K H μ xs vs:=by
 unfold M3.listOf at h
 cases q:G[n]? with
 |none=>rw[q]at h;cases h
 |some o=>
  rw[q]at h
  have ob:=S.obj n a o e q
  cases o with
  |lst ys=>cases h;obtain⟨vs,e1,r⟩:=ob;exact⟨vs,SqL.of e1,r⟩
  |frz ys=>cases h;obtain⟨vs,e1,r⟩:=ob;exact⟨vs,e1.sq,r⟩
  |_=>cases h
def sc:V->Option M3.D
 | .non=>some .non
 | .bl b=>some (.bl b)
 | .int i=>some (.int i)
 | .str x=>some (.str x)
 |_=>none
def jX{K:PySem.W.Frag}{x d:M3.D}{v:V}(h:Den K H μ x v)(e:sc v=some d):x=d:=by
 cases x with
 |non=>cases (show v= .non from h);cases e;rfl
 |bl b=>cases (show v= .bl b from h);cases e;rfl
 |int i=>cases (show v= .int i from h);cases e;rfl
 |str z=>cases (show v= .str z from h);cases e;rfl
 |ref n=>obtain⟨a,_,rfl⟩:=h;cases e
 |tup ds=>obtain⟨a,vs,rfl,_⟩:=h;cases e
def fD{K:PySem.W.Frag}{x:M3.D}{v:V}(h:Den K H μ x v)(e:sc v=none):(∃n a,x= .ref n/\v= .ref a/\μ[n]? =some a)\/∃ds a vs,x= .tup ds/\v= .ref a/\SqT K H a vs/\az K H μ ds vs:=by
 cases x with
 |non=>cases (show v= .non from h);cases e
 |bl b=>cases (show v= .bl b from h);cases e
 |int i=>cases (show v= .int i from h);cases e
 |str z=>cases (show v= .str z from h);cases e
 |ref n=>obtain⟨a,e1,rfl⟩:=h;exact .inl ⟨n,a,rfl,rfl,e1⟩
 |tup ds=>obtain⟨a,vs,rfl,h1,h2⟩:=h;exact .inr ⟨ds,a,vs,rfl,rfl,h1,h2⟩
def Ee{k:Nat}{v w:V}{d y:M3.D}{b:Bool}(dy:Den X.K H μ y w)(hv:sc v=some d)(hw:sc w=none)(h:M3.eqG G k d y=some b):b=false:=by
 cases k with
 |zero=>cases h
 |succ k=>
  rcases fD dy hw with ⟨n,a,rfl,rfl,_⟩ |⟨ds,a,vs,rfl,rfl,_⟩ <;> cases v <;> (try cases hv) <;> (try cases h) <;> rfl
def El{k:Nat}{v w:V}{d y:M3.D}{b:Bool}(dy:Den X.K H μ y w)(hv:sc v=some d)(hw:sc w=none)(h:M3.eqG G k y d=some b):b=false:=by
 cases k with
 |zero=>cases h
 |succ k=>
  rcases fD dy hw with ⟨n,a,rfl,rfl,_⟩ |⟨ds,a,vs,rfl,rfl,_⟩ <;> cases v <;> (try cases hv) <;> (try cases h) <;> rfl
def kC{k n m:Nat}{b:Bool}(h:M3.eqG G (k+1) (.ref n) (.ref m)=some b):∃xs ys,M3.listOf G n=some xs/\M3.listOf G m=some ys/\(if xs.length=ys.length then M3.eqZ (M3.eqG G k) xs ys else some false)=some b:=by
 have h:(match M3.listOf G n,M3.listOf G m with
  |some a,some b=>if a.length=b.length then M3.eqZ (M3.eqG G k) a b else some false
  |_,_=>none)=some b:=h
 cases q1:M3.listOf G n with
 |none=>rw[q1]at h;cases h
 |some xs=>
  cases q2:M3.listOf G m with
  |none=>rw[q1,q2]at h;cases h
  |some ys=>rw[q1,q2]at h;exact⟨xs,ys,rfl,rfl,h⟩
def mP{k:Nat}{ds es:List M3.D}{b:Bool}(h:M3.eqG G (k+1) (.tup ds) (.tup es)=some b):∃p,M3.eqZ (M3.eqG G k) ds es=some p/\b=(p&&decide (ds.length=es.length)):=by
 have h:(M3.eqZ (M3.eqG G k) ds es).map (·&&decide (ds.length=es.length))=some b:=h
 cases q:M3.eqZ (M3.eqG G k) ds es with
 |none=>rw[q]at h;cases h
 |some p=>rw[q]at h;cases h;exact⟨p,rfl,rfl⟩
theorem BA(I:Inv X pins σ H s)(S:Sim T X.K μ H G):∀(k:Nat) {x y x' y':M3.D} {v w:V} {b b':Bool},Den X.K H μ x v->Den X.K H μ x' v->Den X.K H μ y w->Den X.K H μ y' w->
 M3.eqG G k x y=some b->M3.eqG G k x' y'=some b'->b=b'
 |0,_,_,_,_,_,_,_,_,_,_,_,_,h,_=>by cases h
 |k+1,x,y,x',y',v,w,b,b',dx,dx',dy,dy',h,h'=>by
  have items:∀{xs xs' ys ys':List M3.D} {vs ws:List V} {p q:Bool},az X.K H μ xs vs->az X.K H μ xs' vs->az X.K H μ ys ws->az X.K H μ ys' ws->M3.eqZ (M3.eqG G k) xs ys=some p->M3.eqZ (M3.eqG G k) xs' ys'=some q->p=q:=by
   intro xs xs' ys ys' vs ws p q r1 r2 r3 r4 e1 e2
   obtain⟨f,hf,rfl⟩:=mT e1
   obtain⟨g,hg,rfl⟩:=mT e2
   have l1:=r1.length
   have l2:=r2.length
   have l3:=r3.length
   have l4:=r4.length
   rw[show min xs'.length ys'.length=min xs.length ys.length by omega]
   have key:∀j∈List.range (min xs.length ys.length),f j=g j:=by
    intro j hj
    have hj:=List.mem_range.mp hj
    have j1:j < xs.length:=by omega
    have j2:j < ys.length:=by omega
    have j3:j < xs'.length:=by omega
    have j4:j < ys'.length:=by omega
    obtain⟨v1,a1,d1⟩:=r1.get (qA_ j1)
    obtain⟨v2,a2,d2⟩:=r2.get (qA_ j3)
    obtain⟨v3,a3,d3⟩:=r3.get (qA_ j2)
    obtain⟨v4,a4,d4⟩:=r4.get (qA_ j4)
    rw[a1]at a2;cases a2
    rw[a3]at a4;cases a4
    exact BA I S k d1 d2 d3 d4 (hf j _ _ (qA_ j1) (qA_ j2)) (hg j _ _ (qA_ j3) (qA_ j4))
   generalize List.range (min xs.length ys.length)=L at key
   induction L with
   |nil=>rfl
   |cons j r ih=>rw[List.all_cons,List.all_cons,key j qI_,ih fun i hi=>key i (qR_ _ hi)]
  cases hv:sc v with
  |some d1=>
   have e1:=jX dx hv
   have e2:=jX dx' hv
   cases hw:sc w with
   |some d2=>
    have e3:=jX dy hw
    have e4:=jX dy' hw
    subst e1 e2 e3 e4
    rw[h]at h'
    cases h'
    rfl
   |none=>
    subst e1 e2
    rw[Ee dy hv hw h,Ee dy' hv hw h']
  |none=>
   cases hw:sc w with
   |some d2=>
    have e3:=jX dy hw
    have e4:=jX dy' hw
    subst e3 e4
    rw[El dx hw hv h,El dx' hw hv h']
   |none=>
    rcases fD dx hv with ⟨n,a,rfl,rfl,en⟩ |⟨ds,a,vs,rfl,rfl,sq,r⟩
    · rcases fD dy hw with ⟨m,c,rfl,rfl,em⟩ |⟨es,c,ws,rfl,rfl,sq2,r2⟩
      · obtain⟨xs,ys,l1,l2,h⟩:=kC h
        obtain⟨vs1,q1,r1⟩:=dG S en l1
        obtain⟨vs2,q2,r2⟩:=dG S em l2
        rcases fD dx' hv with ⟨n',a',rfl,ea,en'⟩ |⟨ds',a',vs',rfl,ea,sq',r'⟩
        · cases ea
          rcases fD dy' hw with ⟨m',c',rfl,ec,em'⟩ |⟨es',c',ws',rfl,ec,sq2',r2'⟩
          · cases ec
            obtain⟨xs',ys',l1',l2',h'⟩:=kC h'
            obtain⟨vs1',q1',r1'⟩:=dG S en' l1'
            obtain⟨vs2',q2',r2'⟩:=dG S em' l2'
            cases I.kh q1 q1'
            cases I.kh q2 q2'
            have z1:=r1.length
            have z2:=r1'.length
            have z3:=r2.length
            have z4:=r2'.length
            by_cases c:xs.length=ys.length
            · rw[if_pos c]at h
              rw[if_pos (by omega)]at h'
              exact items r1 r1' r2 r2' h h'
            · rw[if_neg c]at h
              rw[if_neg (by omega)]at h'
              cases h;cases h';rfl
          · cases h'
        · cases ea
          exact(xo I q1 sq').elim
      · cases h
    · rcases fD dy hw with ⟨m,c,rfl,rfl,em⟩ |⟨es,c,ws,rfl,rfl,sq2,r2⟩
      · cases h
      · obtain⟨p,hz,rfl⟩:=mP h
        rcases fD dx' hv with ⟨n',a',rfl,ea,en'⟩ |⟨ds',a',vs',rfl,ea,sq',r'⟩
        · cases ea
          rcases fD dy' hw with ⟨m',c',rfl,ec,em'⟩ |⟨es',c',ws',rfl,ec,sq2',r2'⟩
          · obtain⟨xs',ys',l1',l2',h'⟩:=kC h'
            obtain⟨vs1',q1',r1'⟩:=dG S en' l1'
            exact(xo I q1' sq).elim
          · cases h'
        · cases ea
          rcases fD dy' hw with ⟨m',c',rfl,ec,em'⟩ |⟨es',c',ws',rfl,ec,sq2',r2'⟩
          · cases h'
          · cases ec
            obtain⟨p',hz',rfl⟩:=mP h'
            cases I.kX sq sq'
            cases I.kX sq2 sq2'
            have z1:=r.length
            have z2:=r'.length
            have z3:=r2.length
            have z4:=r2'.length
            rw[items r r' r2 r2' hz hz',z1,z2,z3,z4]
theorem sV(I:Inv X pins σ H s)(S:Sim T X.K μ H G):∀(k:Nat) {x y:M3.D} {v:V} {b:Bool},Den X.K H μ x v->Den X.K H μ y v->M3.eqG G k x y=some b->b=true
 |0,_,_,_,_,_,_,h=>by cases h
 |k+1,x,y,v,b,dx,dy,h=>by
  have items:∀{xs ys:List M3.D} {vs:List V} {p:Bool},az X.K H μ xs vs->az X.K H μ ys vs->M3.eqZ (M3.eqG G k) xs ys=some p->p=true:=by
   intro xs ys vs p r1 r2 e1
   obtain⟨f,hf,rfl⟩:=mT e1
   rw[List.all_eq_true]
   intro j hj
   have hj:=List.mem_range.mp hj
   have j1:j < xs.length:=by omega
   have j2:j < ys.length:=by omega
   obtain⟨v1,a1,d1⟩:=r1.get (qA_ j1)
   obtain⟨v2,a2,d2⟩:=r2.get (qA_ j2)
   rw[a1]at a2;cases a2
   exact sV I S k d1 d2 (hf j _ _ (qA_ j1) (qA_ j2))
  cases hv:sc v with
  |some d=>
   have e1:=jX dx hv
   have e2:=jX dy hv
   subst e1 e2
   cases v with
   |non=>cases hv;cases h;rfl
   |bl c=>cases hv;cases h;simp
   |int c=>cases hv;cases h;simp
   |str c=>cases hv;cases h;simp
   |_=>cases hv
  |none=>
   rcases fD dx hv with ⟨n,a,rfl,rfl,en⟩ |⟨ds,a,vs,rfl,rfl,sq,r⟩
   · rcases fD dy hv with ⟨m,c,rfl,ec,em⟩ |⟨es,c,ws,rfl,ec,sq2,r2⟩
     · cases ec
       obtain⟨xs,ys,l1,l2,h⟩:=kC h
       obtain⟨vs1,q1,r1⟩:=dG S en l1
       obtain⟨vs2,q2,r2⟩:=dG S em l2
       cases I.kh q1 q2
       rw[if_pos (r1.length.trans r2.length.symm)]at h
       exact items r1 r2 h
     · cases h
   · rcases fD dy hv with ⟨m,c,rfl,ec,em⟩ |⟨es,c,ws,rfl,ec,sq2,r2⟩
     · cases h
     · cases ec
       obtain⟨p,hz,rfl⟩:=mP h
       cases I.kX sq sq2
       rw[items r r2 hz,qZ_ (r.length.trans r2.length.symm)]
       rfl
def xB{K:PySem.W.Frag}{ds:List M3.D}{vs:List V}{its:List Value}(r:az K H μ ds vs)(q:Vals vs its){j:Nat}(h:j < its.toArray.size):∃d v,ds[j]? =some d/\Den K H μ d v/\RelV v its.toArray[j]:=by
 have hl:j < its.length:=by simpa using h
 have h2:j < vs.length:=by rw[q.length];exact hl
 obtain⟨u,e,rv⟩:=q.get (qA_ h2)
 obtain⟨d,e1,r1⟩:=r.get' (qA_ h2)
 refine⟨d,_,e1,r1,?_⟩
 rw[qA_ hl]at e
 cases e
 simpa using rv
theorem xy(I:Inv X pins σ H s)(S:Sim T X.K μ H G):∀(k:Nat) {x y:M3.D} {v w:V} {u u':Value} {b:Bool} {A:Around},A.units+k < cLine->Den X.K H μ x v->Den X.K H μ y w->RelV v u->RelV w u'->M3.eqG G k x y=some b->
 EqAt A s u u' b/\RcAt A s u u' b/\RcNeAt A s u u' (!b)
 |0,_,_,_,_,_,_,_,_,_,_,_,_,_,h=>by cases h
 |k+1,x,y,v,w,u,u',b,A,hu,dx,dy,ru,ru',h=>by
  have hu0:A.units < cLine:=by omega
  have hu1:A.in1.units+k < cLine:=by show A.units+1+k < cLine;omega
  have items:∀{xs ys:List M3.D} {vs ws:List V} {is js:List Value} {p:Bool},az X.K H μ xs vs->az X.K H μ ys ws->Vals vs is->Vals ws js->M3.eqZ (M3.eqG G k) xs ys=some p->
   ∃e:Nat->Bool,(∀j (h1:j < is.toArray.size) (h2:j < js.toArray.size),EqAt A.in1 s is.toArray[j] js.toArray[j] (e j))/\p=(List.range (min is.toArray.size js.toArray.size)).all e:=by
   intro xs ys vs ws is js p r1 r2 q1 q2 hz
   obtain⟨e,he,rfl⟩:=mT hz
   refine⟨e,fun j h1 h2=>?_,?_⟩
   · obtain⟨d1,v1,a1,b1,c1⟩:=xB r1 q1 h1
     obtain⟨d2,v2,a2,b2,c2⟩:=xB r2 q2 h2
     exact(xy I S k hu1 b1 b2 c1 c2 (he j _ _ a1 a2)).1
   · have l1:=r1.length
     have l2:=r2.length
     have l3:=q1.length
     have l4:=q2.length
     rw[show min is.toArray.size js.toArray.size=min xs.length ys.length by simp;omega]
  cases x with
  |non=>
   cases (show v= .non from dx)
   cases (show u=Value.none from ru)
   cases y with
   |non=>cases (show w= .non from dy);cases (show u'=Value.none from ru');cases h;exact⟨.same _,.none_none,.none_none⟩
   |int j=>cases (show w= .int j from dy);obtain⟨t,rfl⟩:=(show ∃t,u'=Value.int j t from ru');cases h;exact⟨.none_int _ _,.none_int _ _,.none_int _ _⟩
   |str j=>cases (show w= .str j from dy);obtain⟨t,rfl⟩:=(show ∃t,u'=Value.str j t from ru');cases h;exact⟨.none_str _ _,.none_str _ _,.none_str _ _⟩
   |tup es=>obtain⟨a,vs,rfl,sq,r⟩:=dy;cases (show u'=Value.ref a from ru');cases h;obtain⟨its,_,p,_⟩:=I.tuple sq;exact⟨.none_tuple p hu0,.none_tuple p hu0,.none_tuple p hu0⟩
   |bl j=>cases h
   |ref j=>cases h
  |bl i=>
   cases (show v= .bl i from dx)
   cases (show u=Value.bool i from ru)
   cases y with
   |bl j=>cases (show w= .bl j from dy);cases (show u'=Value.bool j from ru');cases h;exact⟨.bool_bool _ _,.bool_bool _ _,.bool_bool _ _⟩
   |_=>cases h
  |int i=>
   cases (show v= .int i from dx)
   obtain⟨t,rfl⟩:=(show ∃t,u=Value.int i t from ru)
   cases y with
   |non=>cases (show w= .non from dy);cases (show u'=Value.none from ru');cases h;exact⟨.int_none _ _,.int_none _ _,.int_none _ _⟩
   |int j=>
    cases (show w= .int j from dy);obtain⟨t',rfl⟩:=(show ∃t,u'=Value.int j t from ru');cases h
    rw[<-Bool.beq_eq_decide_eq]
    exact⟨.int_int _ _ _ _,.int_int _ _ _ _,.int_int _ _ _ _⟩
   |str j=>cases (show w= .str j from dy);obtain⟨t',rfl⟩:=(show ∃t,u'=Value.str j t from ru');cases h;exact⟨.int_str _ _ _ _,.int_str _ _ _ _,.int_str _ _ _ _⟩
   |tup es=>obtain⟨a,vs,rfl,sq,r⟩:=dy;cases (show u'=Value.ref a from ru');cases h;obtain⟨its,_,p,_⟩:=I.tuple sq;exact⟨.int_tuple _ _ p hu0,.int_tuple _ _ p hu0,.int_tuple _ _ p hu0⟩
   |bl j=>cases h
   |ref j=>cases h
  |str i=>
   cases (show v= .str i from dx)
   obtain⟨t,rfl⟩:=(show ∃t,u=Value.str i t from ru)
   cases y with
   |non=>cases (show w= .non from dy);cases (show u'=Value.none from ru');cases h;exact⟨.str_none _ _,.str_none _ _,.str_none _ _⟩
   |str j=>
    cases (show w= .str j from dy);obtain⟨t',rfl⟩:=(show ∃t,u'=Value.str j t from ru');cases h
    rw[show decide (i=j)=(i==j)from rfl]
    exact⟨.str_str _ _ _ _,.str_str _ _ _ _,.str_str _ _ _ _⟩
   |int j=>cases (show w= .int j from dy);obtain⟨t',rfl⟩:=(show ∃t,u'=Value.int j t from ru');cases h;exact⟨.str_int _ _ _ _,.str_int _ _ _ _,.str_int _ _ _ _⟩
   |tup es=>cases h
   |bl j=>cases h
   |ref j=>cases h
  |tup ds=>
   obtain⟨a,vs,rfl,sq,r⟩:=dx
   cases (show u=Value.ref a from ru)
   obtain⟨is,q1,p1,_⟩:=I.tuple sq
   cases y with
   |non=>cases (show w= .non from dy);cases (show u'=Value.none from ru');cases h;exact⟨.tuple_none p1 hu0,.tuple_none p1 hu0,.tuple_none p1 hu0⟩
   |int j=>cases (show w= .int j from dy);obtain⟨t,rfl⟩:=(show ∃t,u'=Value.int j t from ru');cases h;exact⟨.tuple_int _ _ p1 hu0,.tuple_int _ _ p1 hu0,.tuple_int _ _ p1 hu0⟩
   |tup es=>
    obtain⟨c,ws,rfl,sq2,r2⟩:=dy
    cases (show u'=Value.ref c from ru')
    obtain⟨js,q2,p2,_⟩:=I.tuple sq2
    obtain⟨p,hz,hb⟩:=mP h
    obtain⟨e,he,hp⟩:=items r r2 q1 q2 hz
    have l1:=r.length
    have l2:=r2.length
    have l3:=q1.length
    have l4:=q2.length
    have hb':b=((List.range (min is.toArray.size js.toArray.size)).all e&&is.toArray.size==js.toArray.size):=by
     rw[hb,hp]
     congr 1
     rw[Bool.beq_eq_decide_eq]
     exact decide_eq_decide.mpr (by simp;omega)
    have rc:RcAt A s (.ref a) (.ref c) b:=by rw[hb'];exact .tuples p1 p2 hu0 he
    have rn:RcNeAt A s (.ref a) (.ref c) (!b):=by rw[hb'];exact .tuples p1 p2 hu0 he
    refine⟨?_,rc,rn⟩
    by_cases hac:a=c
    · subst hac
      have d2:Den X.K H μ (.tup ds) (.ref a):=⟨a,vs,rfl,sq,r⟩
      have d3:Den X.K H μ (.tup es) (.ref a):=⟨a,ws,rfl,sq2,r2⟩
      rw[sV I S (k+1) d2 d3 h]
      exact .same _
    · exact .of_refs hac rc
   |_=>cases h
  |ref n=>
   cases y with
   |ref m=>
    obtain⟨xs,ys,l1,l2,hz⟩:=kC h
    obtain⟨a,ea,rfl⟩:=id dx
    obtain⟨c,ec,rfl⟩:=id dy
    cases (show u=Value.ref a from ru)
    cases (show u'=Value.ref c from ru')
    obtain⟨vs,sq,r⟩:=dG S ea l1
    obtain⟨ws,sq2,r2⟩:=dG S ec l2
    obtain⟨is,q1,p1,_⟩:=I.list sq
    obtain⟨js,q2,p2,_⟩:=I.list sq2
    have z1:=r.length
    have z2:=r2.length
    have z3:=q1.length
    have z4:=q2.length
    have two:RcAt A s (.ref a) (.ref c) b/\RcNeAt A s (.ref a) (.ref c) (!b):=by
     by_cases hl:xs.length=ys.length
     · rw[if_pos hl]at hz
       obtain⟨e,he,hp⟩:=items r r2 q1 q2 hz
       have hsz:is.toArray.size=js.toArray.size:=by simp;omega
       rw[show min is.toArray.size js.toArray.size=is.toArray.size by omega]at hp
       rw[hp]
       exact⟨.lists p1.isList p2.isList hsz hu0 he,.lists p1.isList p2.isList hsz hu0 he⟩
     · rw[if_neg hl]at hz
       cases hz
       have hsz:(is.toArray.size !=js.toArray.size)=true:=by simp;omega
       exact⟨.lists_lengths p1.isList p2.isList hsz hu0,.lists_lengths p1.isList p2.isList hsz hu0⟩
    refine⟨?_,two.1,two.2⟩
    by_cases hac:a=c
    · subst hac
      rw[sV I S (k+1) dx dy h]
      exact .same _
    · exact .of_refs hac two.1
   |_=>cases h
end
section
variable{X:Cx}{T:Tab}{Y:EX}
def qC(T:Tab)(K:PySem.W.Frag)(neg:Bool):R2:=fun v w H Q=>∃μ G x y b,Sim T K μ H G/\Den K H μ x v/\Den K H μ y w/\M3.eqG G 8 x y=some b/\Q (.bl (if neg then !b else b)) H
def FQ(hu:X.A.units+8 < cLine):OpR X (compareOp .Eq) (qC T X.K false):=by
 intro pins s σ H v w u u' Q I r r' h
 obtain⟨μ,G,x,y,b,S,dx,dy,e,q⟩:=h
 exact(xy I S 8 hu dx dy r r' e).2.1 _ _ _ _ ⟨.bl b,H,I,rfl,q⟩
def EW(hu:X.A.units+8 < cLine):OpR X (compareOp .NotEq) (qC T X.K true):=by
 intro pins s σ H v w u u' Q I r r' h
 obtain⟨μ,G,x,y,b,S,dx,dy,e,q⟩:=h
 exact(xy I S 8 hu dx dy r r' e).2.2 _ _ _ _ ⟨.bl (!b),H,I,rfl,q⟩
def FN(hu:X.A.units+8 < cLine):OpR X (compareOp .Eq) (qC T X.K false)/\Br2 T X.K Y M3.oEq (qC T X.K false):=⟨FQ hu,by
 intro μ H G x y v w Q S dx dy h
 unfold M3.run M3.oEq at h
 cases q:M3.eqG G 8 x y with
 |none=>rw[q]at h;exact False.elim h
 |some b=>
  rw[q]at h
  exact⟨μ,G,x,y,b,S,dx,dy,q,h _ H μ (Up.refl _ _) S rfl⟩⟩
def FJ(hu:X.A.units+8 < cLine):OpR X (compareOp .NotEq) (qC T X.K true)/\Br2 T X.K Y M3.oNe (qC T X.K true):=⟨EW hu,by
 intro μ H G x y v w Q S dx dy h
 unfold M3.run M3.oNe at h
 cases q:M3.eqG G 8 x y with
 |none=>rw[q]at h;exact False.elim h
 |some b=>
  rw[q]at h
  exact⟨μ,G,x,y,b,S,dx,dy,q,h _ H μ (Up.refl _ _) S rfl⟩⟩
end
section
variable{X:Cx}{T:Tab}{Y:EX}{pins:List (Addr×Obj)}{σ:L2.St}{H:Hp}{s:Shared}{μ:List Addr}{G:M3.Hh}
open Classical in
noncomputable def eU(K:PySem.W.Frag)(H:Hp)(μ:List Addr)(G:M3.Hh)(x:M3.D)(u:Value):Bool:=
 if h:∃b d v,Den K H μ d v/\RelV v u/\M3.eqG G 8 d x=some b then h.choose else false
def IK(I:Inv X pins σ H s)(S:Sim T X.K μ H G){x d:M3.D}{v w:V}{u:Value}{b:Bool}(dx:Den X.K H μ x w)(dd:Den X.K H μ d v)(r:RelV v u)(e:M3.eqG G 8 d x=some b):eU X.K H μ G x u=b:=by
 have h:∃b d v,Den X.K H μ d v/\RelV v u/\M3.eqG G 8 d x=some b:=⟨b,d,v,dd,r,e⟩
 unfold eU
 rw[dif_pos h]
 obtain⟨d',v',dd',r',e'⟩:=h.choose_spec
 have hv:v'=v:=r'.inj r
 subst hv
 exact BA I S 8 dd' dd dx dx e' e
theorem Ba(I:Inv X pins σ H s)(S:Sim T X.K μ H G){A:Around}(hu:A.units+8 < cLine){x:M3.D}{w:V}{u':Value}(dx:Den X.K H μ x w)(rx:RelV w u'):
 ∀{ys:List M3.D} {vs:List V} {its:List Value} {b:Bool},az X.K H μ ys vs->Vals vs its->M3.oo G x ys=some b->(∀u∈its,EqAt A s u u' (eU X.K H μ G x u))/\its.any (eU X.K H μ G x)=b
 | [],_,_,_,r,q,h=>by
   cases (show _=[]from r)
   cases q
   cases h
   exact⟨fun u z=>(by cases z),rfl⟩
 |y :: ys,_,its,b,⟨v,vs,e,d,r⟩,q,h=>by
  subst e
  cases q with
  |@cons _ u _ us rv q=>
   unfold M3.oo at h
   cases e1:M3.eqG G 8 y x with
   |none=>rw[e1]at h;cases h
   |some p=>
    cases e2:M3.oo G x ys with
    |none=>rw[e1,e2]at h;cases h
    |some p2=>
     rw[e1,e2]at h
     cases h
     obtain⟨h1,h2⟩:=Ba I S hu dx rx r q e2
     have eu:=IK I S dx d rv e1
     refine⟨fun u' hu'=>?_,?_⟩
     · rcases qS_.mp hu' with rfl |z
       · rw[eu];exact(xy I S 8 hu d dx rv rx e1).1
       · exact h1 u' z
     · rw[List.any_cons,eu,h2]
theorem tM{κ:Type} [DecidableEq κ]{K:PySem.W.Frag}:∀{kvs:List (κ×M3.D)} {ws:List (κ×V)} (k:κ),Paired (fun(p:κ×M3.D) (q:κ×V)=>p.1=q.1/\Den K H μ p.2 q.2) kvs ws->
 (M3.look kvs k=none/\jI ws k=none)\/∃d v,M3.look kvs k=some d/\jI ws k=some v/\Den K H μ d v
 |_,_,k,.nil=>.inl ⟨rfl,rfl⟩
 |(k1,d) :: kvs,(k2,v) :: ws,k,.cons ⟨h1,h2⟩ t=>by
  cases (show k1=k2 from h1)
  by_cases h:k1=k
  · subst h
    exact .inr ⟨d,v,by simp [M3.look],by simp [jI],h2⟩
  · have e1:M3.look ((k1,d) :: kvs) k=M3.look kvs k:=by simp [M3.look,h]
    have e2:jI ((k1,v) :: ws) k=jI ws k:=by simp [jI,h]
    rw[e1,e2]
    exact tM k t
def t8{x:M3.D}{k:M3.Key}{K:PySem.W.Frag}{v:V}(h:M3.pZ x=some k)(d:Den K H μ x v):v=kV k:=by
 cases x with
 |int i=>cases h;exact d
 |str z=>cases h;exact d
 |_=>cases h
end
section
variable{X:Cx}{T:Tab}{Y:EX}
def sA(T:Tab)(K:PySem.W.Frag)(neg:Bool):R2:=fun v w H Q=>∃μ G x y b,Sim T K μ H G/\Den K H μ x v/\Den K H μ y w/\M3.inG G x y=some b/\Q (.bl (if neg then !b else b)) H
def xt(hu:X.A.units+9 < cLine)(neg:Bool){pins:List (Addr×Obj)}{s:Shared}{σ:L2.St}{H:Hp}{v w:V}{u u':Value}{Q:VK}(I:Inv X pins σ H s)(r:RelV v u)(r':RelV w u')(h:sA T X.K neg v w H Q):
 wpAny (model X.prog X.w) X.A (compareOp (if neg then .NotIn else .In) u u') (EP X pins σ Q) X.xe s:=by
 obtain⟨μ,G,x,y,b,S,dx,dy,e,q⟩:=h
 have hu1:X.A.in1.units+8 < cLine:=by show X.A.units+1+8 < cLine;omega
 have lists:∀{a:Addr} {vs:List V} {ys:List M3.D},SqL X.K H a vs->az X.K H μ ys vs->M3.oo G x ys=some b->u'= .ref a->wpAny (model X.prog X.w) X.A (compareOp (if neg then .NotIn else .In) u u') (EP X pins σ Q) X.xe s:=by
  intro a vs ys sq rs hm eu
  subst eu
  obtain⟨its,qv,p,_⟩:=I.list sq
  obtain⟨h1,h2⟩:=Ba I S hu1 dx r rs qv hm
  have h3:its.toArray.any (eU X.K H μ G x)=b:=by simpa using h2
  cases neg with
  |false=>exact in_listAt _ p.isList (fun y hy=>h1 y (by simpa using hy)) ⟨.bl b,H,I,by rw[h3];rfl,q⟩
  |true=>exact notIn_listAt _ p.isList (fun y hy=>h1 y (by simpa using hy)) ⟨.bl (!b),H,I,by rw[h3];rfl,q⟩
 cases y with
 |tup ys=>
  obtain⟨a,vs,rfl,sq,rs⟩:=dy
  cases (show u'=Value.ref a from r')
  obtain⟨its,qv,p,_⟩:=I.tuple sq
  obtain⟨h1,h2⟩:=Ba I S hu1 dx r rs qv e
  have h3:its.toArray.any (eU X.K H μ G x)=b:=by simpa using h2
  cases neg with
  |false=>exact in_tupleAt _ p (fun y hy=>h1 y (by simpa using hy)) ⟨.bl b,H,I,by rw[h3];rfl,q⟩
  |true=>exact notIn_tupleAt _ p (fun y hy=>h1 y (by simpa using hy)) ⟨.bl (!b),H,I,by rw[h3];rfl,q⟩
 |ref n=>
  obtain⟨a,ea,rfl⟩:=dy
  cases (show u'=Value.ref a from r')
  unfold M3.inG at e
  dsimp only at e
  cases qn:G[n]? with
  |none=>rw[qn]at e;cases e
  |some o=>
   rw[qn]at e
   have ob:=S.obj n a o ea qn
   cases o with
   |lst ys=>
    obtain⟨vs,e1,rs⟩:=ob
    exact lists (SqL.of e1) rs e rfl
   |frz ys=>
    obtain⟨vs,e1,rs⟩:=ob
    exact lists e1.sq rs e rfl
   |dK kvs=>
    obtain⟨ws,e1,rs⟩:=ob
    dsimp only at e
    cases qk:M3.pZ x with
    |none=>rw[qk]at e;cases e
    |some k=>
     rw[qk]at e
     have e:some (M3.look kvs k).isSome=some b:=e
     have hb:(jI ws k).isSome=b:=by
      rcases tM k rs with ⟨h1,h2⟩ |⟨d,v',h1,h2,_⟩
      · rw[h2];rw[h1]at e;cases e;rfl
      · rw[h2];rw[h1]at e;cases e;rfl
     cases t8 qk dx
     cases neg with
     |false=>exact JO (by omega) I (pG.k e1) r fun s' I'=>⟨.bl b,H,I',by rw[hb];rfl,q⟩
     |true=>exact DD (by omega) I (pG.k e1) r fun s' I'=>⟨.bl (!b),H,I',by rw[hb];rfl,q⟩
   |dF kvs=>cases e
   |dT kvs=>cases e
   |ins C fs=>cases e
 |_=>cases e
def Fe(hu:X.A.units+9 < cLine):OpR X (compareOp .In) (sA T X.K false)/\Br2 T X.K Y M3.oIn (sA T X.K false):=⟨fun pins s σ H v w u u' Q I r r' h=>xt hu false I r r' h,by
 intro μ H G x y v w Q S dx dy h
 unfold M3.run M3.oIn at h
 cases q:M3.inG G x y with
 |none=>rw[q]at h;exact False.elim h
 |some b=>
  rw[q]at h
  exact⟨μ,G,x,y,b,S,dx,dy,q,h _ H μ (Up.refl _ _) S rfl⟩⟩
def zj(hu:X.A.units+9 < cLine):OpR X (compareOp .NotIn) (sA T X.K true)/\Br2 T X.K Y M3.il (sA T X.K true):=⟨fun pins s σ H v w u u' Q I r r' h=>xt hu true I r r' h,by
 intro μ H G x y v w Q S dx dy h
 unfold M3.run M3.il at h
 cases q:M3.inG G x y with
 |none=>rw[q]at h;exact False.elim h
 |some b=>
  rw[q]at h
  exact⟨μ,G,x,y,b,S,dx,dy,q,h _ H μ (Up.refl _ _) S rfl⟩⟩
end
end L3
namespace HT
open PySem PyProof.Rows
def AY(A:Around)(s:Shared)(a:Int)(t:Tok)(c:Int)(u:Tok)(prog:Program)(w:World)(E:Value->Shared->Prop)(Q:Value->Shared->Prop)(h:Q (.bool (decide (c < a))) s):
 wpAny (model prog w) A (richCompare .Gt (.int a t) (.int c u)) Q E s:=
 (PyProof.Rows.gt_int h:wpAny (model prog w) A (compareOp .Gt (.int a t) (.int c u)) Q E s)
section
open PySem.SeqAt
open PySem.AutoSeq1 (wpAny_loadPart')
open PySem.MeetsSeq PySem.MeetsSeq2 PySem.MeetsSeq3
def qI(l b:Addr)(items items2:Array Value)(n n2:Nat)(dd dd2:Option Addr)(sl sl2:Array (Option Value))(ns ms:List Int)(hi:IntsAre items.toList ns)(hj:IntsAre items2.toList ms):
 Meets (Builtin.«tuple.__gt__» ⟨[.ref l,.ref b],[]⟩)
  (fun _ R s=>s.heap.get? l=some {cls:= .type "tuple",dict:=dd,data:= .seq items n,slots:=sl}/\s.heap.get? b=some {cls:= .type "tuple",dict:=dd2,data:= .seq items2 n2,slots:=sl2}/\
    R (.ok (.ret (.bool (lexLt ms ns)))) s):=
 .of_wp fun prog w A R s h=>by
  obtain⟨hp,g,d,tk,os⟩:=s;obtain⟨hl,hb,h⟩:=h
  have f2:=AutoSeq1.sub_tuple_tuple
  have z1:items.size=ns.length:=by rw[<-hi.length];simp
  have z2:items2.size=ms.length:=by rw[<-hj.length];simp
  wp_walk using wpAny_loadPart' hl,wpAny_loadPart' hb,wpAny_forIn_list _ (fun rest b s'=>b.1=none/\s'=⟨hp,g,d,tk,os⟩/\∃(vs ws:List Value) (ns' ms':List Int),rest=vs.zip ws/\
   IntsAre vs ns'/\IntsAre ws ms'/\ns'.length+items2.size=ms'.length+items.size/\R (.ok (.ret (.bool (lexLt ms' ns')))) ⟨hp,g,d,tk,os⟩) _
  case turn=>
   rintro⟨y,x⟩ rest b s' ⟨hb',rfl,vs,ws,ns',ms',hz,hvi,hwi,hlen,hR⟩
   cases hvi with
   |nil=>rw[List.zip_nil_left]at hz;cases hz
   |cons a t hvi'=>
    cases hwi with
    |nil=>rw[List.zip_nil_right]at hz;cases hz
    |cons c u hwi'=>
     rw[List.zip_cons_cons]at hz
     injection hz with hyx hrest
     injection hyx with hy hx
     subst hy hx
     rw[oS]at hR
     simp only[List.length_cons]at hlen
     obtain⟨e,he,hiff⟩:=oX A.in1 ⟨hp,g,d,tk,os⟩ a t c u
     refine wpAny_bind (he prog w _ _ ?_)
     cases e with
     |true=>
      rw[if_pos (hiff.mp rfl).symm]at hR
      wp_walk
      exact⟨rfl,rfl,_,_,_,_,hrest,hvi',hwi',by omega,hR⟩
     |false=>
      rw[if_neg (fun q=>absurd (hiff.mpr (Eq.symm q)) qC_)]at hR
      have hri:=AY A.in1 ⟨hp,g,d,tk,os⟩ a t c u prog w
      wp_walk using hri
      exact⟨_,rfl,by simpa using hR⟩
  case fin=>
   rintro⟨b1,b2⟩ s' ⟨hb',rfl,vs,ws,ns',ms',hz,hvi,hwi,hlen,hR⟩
   simp only at hb'
   subst hb'
   have hv:lexLt ms' ns'=decide (items2.size < items.size):=by
    cases hvi with
    |nil=>
     cases hwi with
     |nil=>
      simp only[List.length_nil]at hlen
      rw[lG]
      exact(qa_ (by omega)).symm
     |cons c u hw=>
      simp only[List.length_nil,List.length_cons]at hlen
      rw[ki]
      exact(qa_ (by omega)).symm
    |cons a t hv=>
     cases hwi with
     |nil=>
      simp only[List.length_nil,List.length_cons]at hlen
      rw[jP]
      exact(qZ_ (by omega)).symm
     |cons c u hw=>
      rw[List.zip_cons_cons]at hz
      cases hz
   rw[hv]at hR
   wp_walk
   exact⟨_,rfl,by simpa [Builtin.Tuple.tupleCompareSizes] using hR⟩
  case h=>
   exact⟨rfl,rfl,items.toList,items2.toList,ns,ms,rfl,hi,hj,by omega,h⟩
end
def w9{prog:Program}{w:World}{A:Around}{E:Value->Shared->Prop}{s:Shared}{l b:Addr}{items items2:Array Value}{ns ms:List Int}{Q:Value->Shared->Prop}(hl:IsTup s.heap l items)(hb:IsTup s.heap b items2)(hi:IntsAre items.toList ns)(hj:IntsAre items2.toList ms)
 (hu:A.units < cLine) (h:Q (.bool (lexLt ms ns)) s):wpAny (model prog w) A (compareOp .Gt (.ref l) (.ref b)) Q E s:=by
 obtain⟨⟨cls,dd,data,sl⟩,ho,hc,n,hd⟩:=id hl
 obtain⟨⟨cls2,dd2,data2,sl2⟩,ho2,hc2,n2,hd2⟩:=id hb
 simp only at hc hd hc2 hd2
 subst hc hd hc2 hd2
 exact richCompare_meets_room (op:= .Gt) ⟨_,ho,rfl⟩ ⟨_,ho2,rfl⟩ PySem.F.slot_tuple_gt PySem.F.entry_tuple_gt (PySem.F.args_tuple_gt_2 _ _) (qI l b items items2 n n2 dd dd2 sl sl2 ns ms hi hj)
  ⟨ho,ho2,show Value.bool (lexLt ms ns)≠Value.notImplemented/\Q (.bool (lexLt ms ns)) s from⟨(fun x=>nomatch x),h⟩⟩ hu
end HT
namespace L3
open PySem PySem.Spec PyProof.Rows L2 PySem.SeqAt
section
variable{X:Cx}{T:Tab}{Y:EX}{a b e:Expr}{es:List Expr}{fa fb:M3.E3}{ta tb:M3.T3}{f3:M3.A3}{pos:Pos}{rest:List Expr}
def HA(K:PySem.W.Frag):R2:=fun x y H Q=>∃a b ns ms,x= .ref a/\y= .ref b/\SqT K H a (ns.map V.int)/\SqT K H b (ms.map V.int)/\Q (.bl (HT.lexLt ms ns)) H
def Hk(hu:X.A.units < cLine):OpR X (compareOp .Gt) (HA X.K):=by
 intro pins s σ H x y v u Q I rx ry h
 obtain⟨a,b,ns,ms,rfl,rfl,ha,hb,q⟩:=h
 cases rx
 cases ry
 obtain⟨its,r1,p1,_⟩:=I.tuple ha
 obtain⟨its2,r2,p2,_⟩:=I.tuple hb
 have i1:IntsAre its.toArray.toList ns:=intsAre_of r1
 have i2:IntsAre its2.toArray.toList ms:=intsAre_of r2
 exact HT.w9 p1 p2 i1 i2 hu ⟨.bl (HT.lexLt ms ns),H,I,rfl,q⟩
def B5(K:PySem.W.Frag):R2:=fun x y H Q=>rI0 (fun i j=>.bl (decide (j < i))) x y H Q\/HA K x y H Q
def ER(hu:X.A.units < cLine):OpR X (compareOp .Gt) (B5 X.K)/\Br2 T X.K Y M3.oGt (B5 X.K):=⟨HD.or (Hk hu),by
 intro μ H G x y v w Q S dx dy h
 cases x with
 |int i=>cases y with
  |int j=>exact .inl ⟨i,j,dx,dy,h _ H μ (Up.refl _ _) S rfl⟩
  |_=>exact False.elim h
 |tup ds=>cases y with
  |tup es=>
   unfold M3.oGt at h
   dsimp only at h
   cases q1:M3.intsOf ds with
   |none=>rw[q1]at h;exact False.elim h
   |some m=>
    cases q2:M3.intsOf es with
    |none=>rw[q1,q2]at h;exact False.elim h
    |some n=>
     rw[q1,q2]at h
     rw[dY q1]at dx
     rw[dY q2]at dy
     obtain⟨p,vs,rfl,sp,rp⟩:=dx
     obtain⟨q,ws,rfl,sq,rq⟩:=dy
     rw[az.ints rp]at sp
     rw[az.ints rq]at sq
     refine .inr ⟨p,q,m,n,rfl,rfl,sp,sq,?_⟩
     rw[<-tf]
     exact h _ H μ (Up.refl _ _) S rfl
  |_=>exact False.elim h
 |_=>exact False.elim h⟩
def wJ{K:PySem.W.Frag}{H:Hp}{μ:List Addr}{xs:List M3.D}{vs:List V}{i:Int}{d:M3.D}(r:az K H μ xs vs)(h:M3.atI xs i=some d):∃v,L2.atI vs i=some v/\Den K H μ d v:=by
 unfold M3.atI at h
 unfold L2.atI
 rw[r.length]at h
 have e:M3.ixN vs.length i=L2.ixN vs.length i:=rfl
 rw[e]at h
 cases q:L2.ixN vs.length i with
 |none=>rw[q]at h;cases h
 |some j=>rw[q]at h;exact r.get h
def mX{Z:Nat->M3.Hh->Prop}{o:Option M3.D}{G:M3.Hh}{P:M3.D->M3.Hh->Prop}(h:M3.run (M3.mQ o) G P Z):∃d,o=some d/\P d G:=by
 cases o with
 |none=>exact False.elim h
 |some d=>exact⟨d,rfl,h⟩
def C8(hu:X.A.units+1 < cLine):IxR X (fun x y H Q=>∃a v,x= .ref a/\pG H a y (some v)/\Q v H):=by
 intro value slice pins s σ H x y v u Q I rx ry h hs
 obtain⟨a,z,rfl,g,q⟩:=h
 cases (show v=Value.ref a from rx)
 exact tail_any (uY I g) PySem.F.slot_dict_getitem.lookup (yh hu I g ry fun w' s3 I3 rw'=>⟨z,H,I3,rw',q⟩) hs
def JW(K:PySem.W.Frag):R2:=fun x y H Q=>IW K x y H Q\/(fun x y H Q=>Jc K x y H Q\/∃a v,x= .ref a/\pG H a y (some v)/\Q v H) x y H Q
def Fi{K:PySem.W.Frag}:Br2 T K Y M3.oIx (JW K):=by
 intro μ H G x y v w Q S dx dy h
 cases x with
 |tup xs=>
  cases y with
  |int i=>
   obtain⟨d,e,q⟩:=mX h
   obtain⟨p,vs,rfl,sq,r⟩:=dx
   obtain⟨z,e2,r2⟩:=wJ r e
   exact .inr (.inl ⟨p,vs,i,z,rfl,dy,sq,e2,q z H μ (Up.refl _ _) S r2⟩)
  |_=>exact False.elim h
 |ref n=>
  unfold M3.run M3.oIx at h
  dsimp only at h
  obtain⟨p,ep,rfl⟩:=dx
  cases qn:G[n]? with
  |none=>rw[qn]at h;exact False.elim h
  |some o=>
   have ob:=S.obj n p o ep qn
   cases o with
   |lst xs=>
    cases y with
    |int i=>
     rw[qn]at h
     obtain⟨d,e,q⟩:=mX (P:=cW T K μ H Q) h
     obtain⟨vs,e1,r⟩:=ob
     obtain⟨z,e2,r2⟩:=wJ r e
     exact .inl ⟨p,vs,i,z,rfl,dy,SqL.of e1,e2,q z H μ (Up.refl _ _) S r2⟩
    |_=>rw[qn]at h;exact False.elim h
   |frz xs=>
    cases y with
    |int i=>
     rw[qn]at h
     obtain⟨d,e,q⟩:=mX (P:=cW T K μ H Q) h
     obtain⟨vs,e1,r⟩:=ob
     obtain⟨z,e2,r2⟩:=wJ r e
     exact .inl ⟨p,vs,i,z,rfl,dy,e1.sq,e2,q z H μ (Up.refl _ _) S r2⟩
    |_=>rw[qn]at h;exact False.elim h
   |dK kvs=>
    have h2:M3.run (fun G=>match M3.pZ y with
     |some k=>M3.mQ (M3.look kvs k) G
     |none=>none) G (cW T K μ H Q) (Y.x μ H):=by
     rw[qn]at h
     cases y <;> exact h
    unfold M3.run at h2
    dsimp only at h2
    cases qk:M3.pZ y with
    |none=>rw[qk]at h2;exact False.elim h2
    |some k=>
     rw[qk]at h2
     obtain⟨d,e,q⟩:=mX (P:=cW T K μ H Q) h2
     obtain⟨ws,e1,r⟩:=ob
     cases t8 qk dy
     rcases tM k r with ⟨z,_⟩ |⟨d',z,l1,l2,r2⟩
     · rw[z]at e;cases e
     · rw[l1]at e;cases e
       exact .inr (.inr ⟨p,z,rfl,by rw[<-l2];exact pG.k e1,q z H μ (Up.refl _ _) S r2⟩)
   |dF kvs=>rw[qn]at h;cases y <;> exact False.elim h
   |dT kvs=>rw[qn]at h;cases y <;> exact False.elim h
   |ins C fs=>rw[qn]at h;cases y <;> exact False.elim h
 |_=>exact False.elim h
def JL(hu:X.A.units+1 < cLine)(ha:PE X a (tE T X.K Y fa))(hb:PE X b (tE T X.K Y fb))(hs:r9 b:=by intro _ _;rfl):PE X (.Subscript a b pos) (tE T X.K Y (M3.eOp M3.oIx fa fb)):=
 PE.of (Jj (Di.or (F6.or (C8 hu))) ha hb hs) fun _ _ _ h=>Df Fi h
end
section
variable{X:Cx}{T:Tab}{Y:EX}{a b e o:Expr}{es:List Expr}{fa fb:M3.E3}{ta tb:M3.T3}{f3:M3.A3}{pos p:Pos}{rest:List Expr}{g:List M3.D->M3.M M3.D}
def BrA(T:Tab)(K:PySem.W.Frag)(Y:EX)(g:List M3.D->M3.M M3.D)(r:List V->Hp->VK->Prop):Prop:=
 ∀μ H G ds vs Q,Sim T K μ H G->az K H μ ds vs->M3.run (g ds) G (cW T K μ H Q) (Y.x μ H)->r vs H Q
def Bi{K:PySem.W.Frag}{r:List V->Hp->VK->Prop}(br:BrA T K Y g r){σ:L2.St}{H:Hp}{Q:VK}(h:tE T K Y (M3.av g f3) σ H Q):tCB r (tA T K Y f3) σ H Q:=by
 obtain⟨μ,σ3,G,S,sd,h⟩:=h
 exact⟨μ,σ3,G,S,sd,nX h fun ds G1 vs H1 μ1 u1 S1 d1 h1=>br μ1 H1 G1 ds vs Q S1 d1 (cD h1 fun _ _ q=>q.up u1)⟩
def sI{x:Str}{id:String}{r:List V->Hp->VK->Prop}(hc:fw X (.builtin id) r)(br:BrA T X.K Y g r)(hm:X.mg x=none)(hv:bootBuiltins x=some (.builtin id))(ha:PA X (e :: es) (tA T X.K Y f3))(hg:Gl X x:=by rfl)(hn:x≠"__name__":=by decide)(hdb:(x==("__debug__":Str))=false:=by decide)
 (he:starEach (e :: es) X.env=(false,eval e X.env) :: starEach es X.env:=by rfl) (hpl:(backTo pos (starEach es X.env)).any (·.1)=false:=by rfl):PE X (.Call (.Name x p) (e :: es) [] pos) (tE T X.K Y (M3.av g f3)):=
 PE.of (oZ hc hg hm hv ha hn hdb he hpl) fun _ _ _ h=>Bi br h
def uP{x:Str}{id:String}{r:List V->Hp->VK->Prop}(hc:fw X (.type id) r)(br:BrA T X.K Y g r)(hm:X.mg x=none)(hv:bootBuiltins x=some (.type id))(ha:PA X (e :: es) (tA T X.K Y f3))(hg:Gl X x:=by rfl)(hn:x≠"__name__":=by decide)(hdb:(x==("__debug__":Str))=false:=by decide)
 (he:starEach (e :: es) X.env=(false,eval e X.env) :: starEach es X.env:=by rfl) (hpl:(backTo pos (starEach es X.env)).any (·.1)=false:=by rfl):PE X (.Call (.Name x p) (e :: es) [] pos) (tE T X.K Y (M3.av g f3)):=
 PE.of (yH hc hg hm hv ha hn hdb he hpl) fun _ _ _ h=>Bi br h
def jV{K:PySem.W.Frag}{H:Hp}{μ:List Addr}{d:M3.D}{vs:List V}(h:az K H μ [d] vs):∃v,vs=[v]/\Den K H μ d v:=by
 obtain⟨v,r,rfl,h,t⟩:=h
 cases (show r=[]from t)
 exact⟨v,rfl,h⟩
def Jm{K:PySem.W.Frag}{H:Hp}{μ:List Addr}{d c:M3.D}{vs:List V}(h:az K H μ [d,c] vs):∃v w,vs=[v,w]/\Den K H μ d v/\Den K H μ c w:=by
 obtain⟨v,r,rfl,h,t⟩:=h
 obtain⟨w,rfl,h2⟩:=jV t
 exact⟨v,w,rfl,h,h2⟩
def JR(K:PySem.W.Frag):List V->Hp->VK->Prop:=fun xs H Q=>(∃x n,xs=[x]/\HK K x H n/\Q (.int n) H)\/∃a kvs,xs=[V.ref a]/\H a=some (.dK kvs)/\Q (.int kvs.length) H
def EU{K:PySem.W.Frag}:BrA T K Y M3.cQ (JR K):=by
 intro μ H G ds vs Q S d h
 unfold M3.run M3.cQ at h
 match ds,d,h with
 | [.tup xs],d,h=>
   obtain⟨v,rfl,a,ws,rfl,sq,r⟩:=jV d
   dsimp only at h
   by_cases c:xs.length<=M3.aC
   · rw[if_pos c]at h
     refine .inl ⟨_,xs.length,rfl,.inr ⟨ws,sq,r.length⟩,h _ H μ (Up.refl _ _) S rfl⟩
   · rw[if_neg c]at h;exact False.elim h
 | [.str x],d,h=>
   obtain⟨v,rfl,d'⟩:=jV d
   cases (show v= .str x from d')
   dsimp only at h
   by_cases c:x.length<=M3.aC
   · rw[if_pos c]at h
     exact .inl ⟨_,x.length,rfl,⟨by rw[<-cB];exact c,rfl⟩,h _ H μ (Up.refl _ _) S rfl⟩
   · rw[if_neg c]at h;exact False.elim h
 | [.ref n],d,h=>
   obtain⟨v,rfl,a,ea,rfl⟩:=jV d
   dsimp only at h
   cases q:G[n]? with
   |none=>rw[q]at h;exact False.elim h
   |some o=>
    rw[q]at h
    have ob:=S.obj n a o ea q
    cases o with
    |lst xs=>obtain⟨ws,e1,r⟩:=ob;exact .inl ⟨_,xs.length,rfl,.inl ⟨ws,SqL.of e1,r.length⟩,h _ H μ (Up.refl _ _) S rfl⟩
    |frz xs=>obtain⟨ws,e1,r⟩:=ob;exact .inl ⟨_,xs.length,rfl,.inl ⟨ws,e1.sq,r.length⟩,h _ H μ (Up.refl _ _) S rfl⟩
    |dK kvs=>obtain⟨ws,e1,r⟩:=ob;exact .inr ⟨a,ws,rfl,e1,by rw[<-Paired.length r];exact h _ H μ (Up.refl _ _) S rfl⟩
    |dF kvs=>exact False.elim h
    |dT kvs=>exact False.elim h
    |ins C fs=>exact False.elim h
 | [],_,h=>exact False.elim h
 | [.non],_,h=>exact False.elim h
 | [.bl _],_,h=>exact False.elim h
 | [.int _],_,h=>exact False.elim h
 |x :: _ :: _,_,h=>cases x <;> exact False.elim h
def Bg(hm:X.mg "len"=none)(ha:PA X (e :: es) (tA T X.K Y f3))(hg:Gl X "len":=by rfl)(he:starEach (e :: es) X.env=(false,eval e X.env) :: starEach es X.env:=by rfl)(hpl:(backTo pos (starEach es X.env)).any (·.1)=false:=by rfl):
 PE X (.Call (.Name "len" p) (e :: es) [] pos) (tE T X.K Y (M3.av M3.cQ f3)):=sI (AK.or yY) EU hm boot_len ha hg (by decide) (by decide) he hpl
theorem vg:∀(r:List Int) (m:Int),M3.mK m r∈m :: r
 | [],m=>qI_
 |x :: r,m=>by
  have h:=vg r (if x > m then x else m)
  show M3.mK (if x > m then x else m) r∈m :: x :: r
  rcases qS_.mp h with h |h
  · rw[h];split
    · exact qR_ _ qI_
    · exact qI_
  · exact qR_ _ (qR_ _ h)
theorem tj:∀(r:List Int) (m a:Int),a∈m :: r->a<=M3.mK m r
 | [],m,a,h=>by simp at h;exact Int.le_of_eq h
 |x :: r,m,a,h=>by
  show a<=M3.mK (if x > m then x else m) r
  have h1:=tj r (if x > m then x else m) (if x > m then x else m) qI_
  rcases qS_.mp h with h |h
  · subst h;split at h1 <;> (try split) <;> omega
  · rcases qS_.mp h with h |h
    · subst h;split at h1 <;> (try split) <;> omega
    · exact tj r _ a (qR_ _ h)
def zi(hc:X.calm=true):fw X (.builtin "max") (fun xs H Q=>∃a m r,xs=[.ref a]/\SqL X.K H a ((m :: r).map V.int)/\Q (.int (M3.mK m r)) H):=by
 intro pins s σ H xs us Q I rv h
 obtain⟨a,m,r,rfl,sq,q⟩:=h
 obtain⟨u,rfl,ru⟩:=vals1 rv
 cases ru
 obtain⟨its,qv,pl,_⟩:=I.list sq
 have hi:IntsAre its (m :: r):=intsAre_of qv
 obtain⟨xs,e⟩:=hi.allInts.items
 have hns:m :: r=xs.toList.map (·.1):=by rw[<-hi.numsOf,<-nums_intItems,<-e]
 have hsz:0 < xs.size:=by
  have h3:=congrArg List.length hns
  rw[qM_,Array.length_toList]at h3
  simp at h3;omega
 have hl:=pl.isList
 rw[e]at hl
 refine max_intList (I.ok.hd hc) hl hsz fun v h' tk hv hk=>?_
 obtain⟨t,rfl⟩:=intItems_at hv
 obtain⟨h1,h2⟩:=argBest_gt (numAt xs) (xs.size - 1)
 have hmem:numAt xs (argBest (fun i j=>decide (numAt xs i > numAt xs j)) (xs.size - 1))∈m :: r:=by
  rw[hns,numAt_eq];exact getD_mem (by rw[qM_,Array.length_toList];omega)
 have hle:M3.mK m r<=numAt xs (argBest (fun i j=>decide (numAt xs i > numAt xs j)) (xs.size - 1)):=by
  have hM:=vg r m
  rw[hns]at hM
  obtain⟨j,hj,ej⟩:=mem_getD hM
  rw[qM_,Array.length_toList]at hj
  rw[<-ej,<-numAt_eq];exact h2 j (by omega)
 have heq:numAt xs (argBest (fun i j=>decide (numAt xs i > numAt xs j)) (xs.size - 1))=M3.mK m r:=Int.le_antisymm (tj r m _ hmem) hle
 exact⟨.int _,H,I.kept hk,⟨t,by rw[heq]⟩,q⟩
def JN(K:PySem.W.Frag):List V->Hp->VK->Prop:=fun xs H Q=>(∃i j,xs=[.int i,.int j]/\Q (.int (if j > i then j else i)) H)\/∃a m r,xs=[.ref a]/\SqL K H a ((m :: r).map V.int)/\Q (.int (M3.mK m r)) H
def Gh{K:PySem.W.Frag}:BrA T K Y M3.yL (JN K):=by
 intro μ H G ds vs Q S d h
 unfold M3.run M3.yL at h
 match ds,d,h with
 | [.int i,.int j],d,h=>
   obtain⟨v,w,rfl,d1,d2⟩:=Jm d
   cases d1;cases d2
   exact .inl ⟨_,_,rfl,h _ H μ (Up.refl _ _) S rfl⟩
 | [.ref n],d,h=>
   obtain⟨v,rfl,a,ea,rfl⟩:=jV d
   dsimp only at h
   cases q:G[n]? with
   |none=>rw[q]at h;exact False.elim h
   |some o=>
    rw[q]at h
    have ob:=S.obj n a o ea q
    cases o with
    |lst xs=>
     obtain⟨ws,e1,r⟩:=ob
     dsimp only at h
     cases qi:M3.intsOf xs with
     |none=>rw[qi]at h;exact False.elim h
     |some ns=>
      rw[qi]at h
      cases ns with
      |nil=>exact False.elim h
      |cons m t=>
       rw[dY qi]at r
       rw[az.ints r]at e1
       exact .inr ⟨a,m,t,rfl,SqL.of e1,h _ H μ (Up.refl _ _) S rfl⟩
    |_=>exact False.elim h
 | [],_,h=>exact False.elim h
 | [.non],_,h=>exact False.elim h
 | [.bl _],_,h=>exact False.elim h
 | [.int _],_,h=>exact False.elim h
 | [.str _],_,h=>exact False.elim h
 | [.tup _],_,h=>exact False.elim h
 | .non :: _ :: _,_,h=>exact False.elim h
 | .bl _ :: _ :: _,_,h=>exact False.elim h
 | .str _ :: _ :: _,_,h=>exact False.elim h
 | .tup _ :: _ :: _,_,h=>exact False.elim h
 | .ref _ :: _ :: _,_,h=>exact False.elim h
 | .int _ :: .non :: _,_,h=>exact False.elim h
 | .int _ :: .bl _ :: _,_,h=>exact False.elim h
 | .int _ :: .str _ :: _,_,h=>exact False.elim h
 | .int _ :: .tup _ :: _,_,h=>exact False.elim h
 | .int _ :: .ref _ :: _,_,h=>exact False.elim h
 | .int _ :: .int _ :: _ :: _,_,h=>exact False.elim h
def AI(hc:X.calm=true)(hm:X.mg "max"=none)(ha:PA X (e :: es) (tA T X.K Y f3))(hg:Gl X "max":=by rfl)(he:starEach (e :: es) X.env=(false,eval e X.env) :: starEach es X.env:=by rfl)(hpl:(backTo pos (starEach es X.env)).any (·.1)=false:=by rfl):
 PE X (.Call (.Name "max" p) (e :: es) [] pos) (tE T X.K Y (M3.av M3.yL f3)):=sI ((yw hc).or (zi hc)) Gh hm boot_max ha hg (by decide) (by decide) he hpl
def B7{K:PySem.W.Frag}:BrA T K Y M3.oi (fun xs H Q=>∃p ys,xs=[.ref p]/\(SqL K H p ys\/SqT K H p ys)/\∀l,H l=none->Q (.ref l) (upd H l (.lst ys))):=by
 intro μ H G ds vs Q S d h
 have fin:∀{xs:List M3.D} {ws:List V},az K H μ xs ws->cW T K μ H Q (.ref G.length) (G++[.lst xs])->∀l,H l=none->Q (.ref l) (upd H l (.lst ws)):=by
  intro xs ws r q l hl
  have u2:=Up.new (μ:=μ) (.lst ws) hl
  refine q _ _ (μ++[l]) u2 (S.new hl rfl ⟨ws,aO,az.up u2 r⟩) ⟨l,?_,rfl⟩
  rw[<-S.len];simp
 unfold M3.run M3.oi at h
 match ds,d,h with
 | [.tup xs],d,h=>
   obtain⟨v,rfl,a,ws,rfl,sq,r⟩:=jV d
   dsimp only at h
   by_cases c:xs.length<=M3.aC
   · rw[if_pos c]at h
     exact⟨a,ws,rfl,.inr sq,fin r h⟩
   · rw[if_neg c]at h;exact False.elim h
 | [.ref n],d,h=>
   obtain⟨v,rfl,a,ea,rfl⟩:=jV d
   dsimp only at h
   cases q:G[n]? with
   |none=>rw[q]at h;exact False.elim h
   |some o=>
    rw[q]at h
    have ob:=S.obj n a o ea q
    cases o with
    |lst xs=>obtain⟨ws,e1,r⟩:=ob;exact⟨a,ws,rfl,.inl (SqL.of e1),fin r h⟩
    |frz xs=>obtain⟨ws,e1,r⟩:=ob;exact⟨a,ws,rfl,.inl e1.sq,fin r h⟩
    |_=>exact False.elim h
 | [],_,h=>exact False.elim h
 | [.non],_,h=>exact False.elim h
 | [.bl _],_,h=>exact False.elim h
 | [.int _],_,h=>exact False.elim h
 | [.str _],_,h=>exact False.elim h
 |x :: _ :: _,_,h=>cases x <;> exact False.elim h
def xP(hm:X.mg "list"=none)(ha:PA X (e :: es) (tA T X.K Y f3))(hg:Gl X "list":=by rfl)(he:starEach (e :: es) X.env=(false,eval e X.env) :: starEach es X.env:=by rfl)(hpl:(backTo pos (starEach es X.env)).any (·.1)=false:=by rfl):
 PE X (.Call (.Name "list" p) (e :: es) [] pos) (tE T X.K Y (M3.av M3.oi f3)):=uP sQ B7 hm boot_list ha hg (by decide) (by decide) he hpl
def zg:fw X (.type "int") (fun xs H Q=>∃x n,xs=[.str x]/\PySem.intText? x=some n/\x.length<=640/\Q (.int n) H):=by
 intro pins s σ H xs us Q I r h
 obtain⟨x,n,rfl,hn,hl,q⟩:=h
 obtain⟨u,rfl,t,rfl⟩:=vals1 r
 exact PySem.W.KIN.call_text hn hl ⟨.int n,H,I.tok _,⟨_,rfl⟩,q⟩
def JC:List V->Hp->VK->Prop:=fun xs H Q=>((∃i,xs=[.int i]/\Q (.int i) H)\/∃k,xs=[.bl k]/\Q (.int (if k then 1 else 0)) H)\/∃x n,xs=[.str x]/\PySem.intText? x=some n/\x.length<=640/\Q (.int n) H
def Fd{K:PySem.W.Frag}:BrA T K Y M3.se JC:=by
 intro μ H G ds vs Q S d h
 unfold M3.run M3.se at h
 match ds,d,h with
 | [.int i],d,h=>obtain⟨v,rfl,d'⟩:=jV d;cases d';exact .inl (.inl ⟨_,rfl,h _ H μ (Up.refl _ _) S rfl⟩)
 | [.bl i],d,h=>obtain⟨v,rfl,d'⟩:=jV d;cases d';exact .inl (.inr ⟨_,rfl,h _ H μ (Up.refl _ _) S rfl⟩)
 | [.str x],d,h=>
   obtain⟨v,rfl,d'⟩:=jV d
   cases (show v= .str x from d')
   dsimp only at h
   cases q:PySem.intText? x with
   |none=>rw[q]at h;exact False.elim h
   |some n=>
    rw[q]at h
    dsimp only at h
    by_cases c:x.length<=640
    · rw[if_pos c]at h
      exact .inr ⟨x,n,rfl,q,c,h _ H μ (Up.refl _ _) S rfl⟩
    · rw[if_neg c]at h;exact False.elim h
 | [],_,h=>exact False.elim h
 | [.non],_,h=>exact False.elim h
 | [.ref _],_,h=>exact False.elim h
 | [.tup _],_,h=>exact False.elim h
 |x :: _ :: _,_,h=>cases x <;> exact False.elim h
def AS(hm:X.mg "int"=none)(ha:PA X (e :: es) (tA T X.K Y f3))(hg:Gl X "int":=by rfl)(he:starEach (e :: es) X.env=(false,eval e X.env) :: starEach es X.env:=by rfl)(hpl:(backTo pos (starEach es X.env)).any (·.1)=false:=by rfl):
 PE X (.Call (.Name "int" p) (e :: es) [] pos) (tE T X.K Y (M3.av M3.se f3)):=uP (yO.or zg) Fd hm boot_int ha hg (by decide) (by decide) he hpl
def kn:M3.Kd->String
 | .non=>"NoneType" | .bl=>"bool" | .int=>"int" | .str=>"str" | .tup=>"tuple" | .lst=>"list" | .dic=>"dict"
def TyD(K:PySem.W.Frag)(H:Hp):V->M3.Kd->Prop
 | .non,k=>k= .non
 | .bl _,k=>k= .bl
 | .int _,k=>k= .int
 | .str _,k=>k= .str
 | .ref a,k=>(k= .lst/\∃xs,SqL K H a xs)\/(k= .tup/\∃xs,SqT K H a xs)\/(k= .dic/\((∃kvs,H a=some (.dK kvs))\/∃kvs,H a=some (.dT kvs)))
 |_,_=>False
def iR(K:PySem.W.Frag)(k c:M3.Kd):PySem.W.kitOne K (.type (kn k)) (.type (kn c))=some (M3.jW k c):=by
 cases k <;> cases c <;> rfl
def B9:fw X (.builtin "isinstance") (fun xs H Q=>∃x k c,xs=[x,.ty (kn c)]/\TyD X.K H x k/\Q (.bl (M3.jW k c)) H):=by
 intro pins s σ H xs us Q I r h
 obtain⟨x,k,c,rfl,ty,q⟩:=h
 obtain⟨u,w',rfl,ru,rc⟩:=vals2 r
 cases (show w'=Value.type (kn c)from rc)
 have fin:∀tk,EP X pins σ Q (.bool (M3.jW k c)) {s with toks:=tk}:=fun tk=>⟨.bl _,H,I.tok tk,rfl,q⟩
 cases x with
 |non=>cases (show u=Value.none from ru);cases (show k= .non from ty);exact PySem.W.kia_one PySem.W.kitx_none I.kIn True.intro (iR X.K .non c) (fun z=>nomatch z) fin
 |bl y=>cases (show u=Value.bool y from ru);cases (show k= .bl from ty);exact PySem.W.kia_one PySem.W.kitx_bool I.kIn True.intro (iR X.K .bl c) (fun z=>nomatch z) fin
 |int y=>obtain⟨t,rfl⟩:=(show ∃t,u=Value.int y t from ru);cases (show k= .int from ty);exact PySem.W.kia_one PySem.W.kitx_int I.kIn True.intro (iR X.K .int c) (fun z=>nomatch z) fin
 |str y=>obtain⟨t,rfl⟩:=(show ∃t,u=Value.str y t from ru);cases (show k= .str from ty);exact PySem.W.kia_one PySem.W.kitx_str I.kIn True.intro (iR X.K .str c) (fun z=>nomatch z) fin
 |ref a=>
  cases (show u=Value.ref a from ru)
  rcases ty with ⟨rfl,xs,sq⟩ |⟨rfl,xs,sq⟩ |⟨rfl,⟨kvs,ea⟩ |⟨kvs,ea⟩⟩
  · obtain⟨its,_,⟨ob,n,h1,h2,_⟩,_⟩:=I.list sq
    exact PySem.W.kia_one PySem.W.kitx_list I.kIn ⟨ob,h1,h2⟩ (iR X.K .lst c) (fun z=>nomatch z) fin
  · obtain⟨its,_,⟨ob,h1,h2,_⟩,_⟩:=I.tuple sq
    exact PySem.W.kia_one PySem.W.kitx_tuple I.kIn ⟨ob,h1,h2⟩ (iR X.K .tup c) (fun z=>nomatch z) fin
  · obtain⟨_,_,vs,_,pd⟩:=(show bR X.prog X.w H s.heap a (.dK kvs)from I.hok a _ ea)
    obtain⟨ob,es,ep,h1,h2,_⟩:=pd
    exact PySem.W.kia_one PySem.W.kitx_dict I.kIn ⟨ob,h1,h2.1⟩ (iR X.K .dic c) (fun z=>nomatch z) fin
  · obtain⟨_,_,xs,_,ob,es,ep,h1,h2,_⟩:=(show bR X.prog X.w H s.heap a (.dT kvs)from I.hok a _ ea)
    exact PySem.W.kia_one PySem.W.kitx_dict I.kIn ⟨ob,h1,h2.1⟩ (iR X.K .dic c) (fun z=>nomatch z) fin
 |_=>exact False.elim ty
def D8{K:PySem.W.Frag}{μ:List Addr}{H:Hp}{G:M3.Hh}(S:Sim T K μ H G){d:M3.D}{v:V}{k:M3.Kd}(r:Den K H μ d v)(h:M3.kdOf G d=some k):TyD K H v k:=by
 cases d with
 |non=>cases (show v= .non from r);cases h;rfl
 |bl _=>cases r;cases h;rfl
 |int _=>cases r;cases h;rfl
 |str _=>cases r;cases h;rfl
 |tup ds=>obtain⟨a,vs,rfl,sq,_⟩:=r;cases h;exact .inr (.inl ⟨rfl,vs,sq⟩)
 |ref n=>
  obtain⟨a,ea,rfl⟩:=r
  unfold M3.kdOf at h
  dsimp only at h
  cases q:G[n]? with
  |none=>rw[q]at h;cases h
  |some ob=>
   rw[q]at h
   have od:=S.obj n a ob ea q
   cases ob with
   |lst xs=>cases h;obtain⟨vs,e1,_⟩:=od;exact .inl ⟨rfl,vs,SqL.of e1⟩
   |frz xs=>cases h;obtain⟨vs,e1,_⟩:=od;exact .inl ⟨rfl,vs,e1.sq⟩
   |dK kvs=>cases h;obtain⟨vs,e1,_⟩:=od;exact .inr (.inr ⟨rfl,.inl ⟨vs,e1⟩⟩)
   |dF kvs=>cases h
   |dT kvs=>cases h
   |ins C fs=>cases h
def Jl(c:M3.Kd){n:Str}{p2:Pos}(hi:X.mg "isinstance"=none)(hm:X.mg n=none)(ha:PE X e (tE T X.K Y fa))(hn:bootBuiltins n=some (.type (kn c)):=by first |exact boot_int |exact boot_bool |exact boot_str |exact boot_tuple |exact boot_list |exact boot_dict)
 (hg:Gl X "isinstance":=by rfl) (hg2:Gl X n:=by rfl) (hn2:n≠"__name__":=by decide) (hdb:(n==("__debug__":Str))=false:=by decide)
 (he:starEach [e,.Name n p2] X.env=(false,eval e X.env) :: starEach [.Name n p2] X.env:=by rfl) (he2:starEach [.Name n p2] X.env=(false,eval (.Name n p2) X.env) :: starEach [] X.env:=by rfl)
 (hpl:(backTo pos (starEach [.Name n p2] X.env)).any (·.1)=false:=by rfl):PE X (.Call (.Name "isinstance" p) [e,.Name n p2] [] pos) (tE T X.K Y (M3.av (M3.bIs c) (M3.aa fa M3.ai))):=by
 refine PE.of (oZ B9 hg hi boot_isinstance (dU ha (dU (tq hg2 hm hn (v:= .ty (kn c)) rfl hn2 hdb) jA he2) he) (by decide) (by decide) he hpl) fun σ H Q ⟨μ,σ3,G,S,sd,h⟩=>?_
 refine⟨μ,σ3,G,S,sd,bG (M3.aS h) fun d G1 v H1 μ1 u1 S1 d1 h1=>?_⟩
 have h2:M3.run (M3.bIs c [d]) G1 (cW T X.K μ H Q) (Y.x μ H):=h1
 unfold M3.run M3.bIs at h2
 dsimp only at h2
 cases q:M3.kdOf G1 d with
 |none=>rw[q]at h2;exact False.elim h2
 |some k=>
  rw[q]at h2
  exact⟨v,k,c,rfl,D8 S1 d1 q,h2 _ H1 μ1 u1 S1 rfl⟩
def wq{Z:Nat->M3.Hh->Prop}{x:M3.D}{G:M3.Hh}{P:Unit->M3.Hh->Prop}(h:M3.run (M3.isL x) G P Z):∃n xs,x= .ref n/\G[n]? =some (.lst xs)/\P () G:=by
 unfold M3.run M3.isL at h
 cases x with
 |ref n=>
  dsimp only at h
  cases q:G[n]? with
  |none=>rw[q]at h;exact False.elim h
  |some o=>
   rw[q]at h
   cases o with
   |lst xs=>exact⟨n,xs,rfl,q,h⟩
   |_=>exact False.elim h
 |_=>exact False.elim h
def yC{Z:Nat->M3.Hh->Prop}{n:Nat}{y:M3.D}{G:M3.Hh}{P:M3.D->M3.Hh->Prop}(h:M3.run (M3.gN (.ref n) y) G P Z):∃xs,G[n]? =some (.lst xs)/\xs.length < M3.aC/\P .non (G.set n (.lst (xs++[y]))):=by
 unfold M3.run M3.gN at h
 dsimp only at h
 cases q:G[n]? with
 |none=>rw[q]at h;exact False.elim h
 |some o=>
  rw[q]at h
  cases o with
  |lst xs=>
   dsimp only at h
   by_cases c:xs.length < M3.aC
   · rw[if_pos c]at h;exact⟨xs,rfl,c,h⟩
   · rw[if_neg c]at h;exact False.elim h
  |_=>exact False.elim h
def uX{apos:Pos}(ho:PE X o (tE T X.K Y fa))(he:PE X e (tE T X.K Y fb))
 (hbase:attributeBase o "append" X.env (eval o X.env)=eval o X.env:=by rfl)
 (hfew:((backTo pos (starEach (e :: []) X.env)).all (fun x=>!x.1)&&(backToKw pos (keywordEach [] X.env)).all (fun x=>x.1.isSome)
   &&decide ((e :: ([]:List Expr)).length+([]:List Keyword).length+(if ([]:List Keyword).isEmpty then 0 else 1) < 30))=true:=by rfl)
 (hline:(apos.endLine==pos.line)=true:=by rfl) (hs:starEach (e :: []) X.env=(false,eval e X.env) :: starEach [] X.env:=by rfl) (hplain:(backTo pos (starEach [] X.env)).any (·.1)=false:=by rfl):
 PE X (.Call (.Attribute o "append" apos) [e] [] pos) (tE T X.K Y (M3.pV fa fb)):=by
 refine PE.of (Bs PySem.F.plainAttrs_list PySem.F.slot_list_append PySem.F.type_list_append rC ho (dU he jA hs) hbase hfew hline hs hplain) fun σ H Q ⟨μ,σ3,G,S,sd,h⟩=>⟨μ,σ3,G,S,sd,bG h fun d G1 v H1 μ1 u1 S1 d1 h1=>?_⟩
 obtain⟨n,xs,rfl,q,h1⟩:=wq (M3.aS h1)
 obtain⟨a,ea,rfl⟩:=id d1
 obtain⟨vs,e1,r1⟩:=S1.obj n a _ ea q
 refine⟨.inl ⟨rfl,vs,SqL.of e1⟩,μ1,σ3,G1,S1,sd.up u1,bG h1 fun y G2 w H2 μ2 u2 S2 d2 h2=>?_⟩
 obtain⟨xs2,q2,hl,h3⟩:=yC h2
 have ea2:=u2.at ea
 obtain⟨vs2,e2,r2⟩:=S2.obj n a _ ea2 q2
 have up:=Up.set S2 (.lst (vs2++[w])) ea2 q2 rfl
 refine⟨a,vs2,w,rfl,rfl,e2,by rw[<-r2.length,<-cB];exact hl,?_⟩
 exact h3 _ _ μ2 ((u1.trans u2).trans up) (S2.set ea2 q2 rfl rfl ⟨_,aO,az.up up (r2.append (az.one d2))⟩) rfl
def Hq{op:UnaryOp}{g1:M3.D->M3.M M3.D}{r:V->Hp->VK->Prop}(br:UnR X (unaryOp op) r/\∀μ H G x v Q,Sim T X.K μ H G->Den X.K H μ x v->M3.run (g1 x) G (cW T X.K μ H Q) (Y.x μ H)->r v H Q)(ha:PE X a (tE T X.K Y fa)):PE X (.UnaryOp op a pos) (tE T X.K Y (M3.eUn g1 fa)):=
 PE.of (HV br.1 ha) fun σ H Q ⟨μ,σ3,G,S,sd,h⟩=>⟨μ,σ3,G,S,sd,bG h fun x G1 v H1 μ1 u1 S1 d1 h1=>br.2 μ1 H1 G1 x v Q S1 d1 (cD h1 fun _ _ q=>q.up u1)⟩
def DL:UnR X (unaryOp .USub) (rU fun i=>.int (-i))/\∀μ H G x v Q,Sim T X.K μ H G->Den X.K H μ x v->M3.run (M3.Cr x) G (cW T X.K μ H Q) (Y.x μ H)->rU (fun i=>.int (-i)) v H Q:=⟨Fb,by
 intro μ H G x v Q S d h
 cases x with
 |int i=>exact⟨i,d,h _ H μ (Up.refl _ _) S rfl⟩
 |_=>exact False.elim h⟩
structure wd (T:Tab) (K:PySem.W.Frag) (μ:List Addr) (H:Hp) (src:M3.Src) (J:It):Prop where
 go:∀(i:Nat) d μ' H' G',Up μ μ' H H'->Sim T K μ' H' G'->src.ck G'=true->src.xs[i]? =some d->J.go i H'
 yld:∀(i:Nat) d v μ' H' H'' G',Up μ μ' H H'->Sim T K μ' H' G'->src.ck G'=true->src.xs[i]? =some d->J.yld i H' v H''->fU H' H''/\Den K H'' μ' d v
 stop:∀μ' H' G',Up μ μ' H H'->Sim T K μ' H' G'->src.ck G'=true->J.stop src.xs.length H'
def Ia(T:Tab)(K:PySem.W.Frag)(μ:List Addr)(H:Hp)(R:It->Hp->Prop)(src:M3.Src)(G':M3.Hh):Prop:=∀J H' μ',Up μ μ' H H'->Sim T K μ' H' G'->wd T K μ' H' src J->R J H'
def tI(T:Tab)(K:PySem.W.Frag)(Y:EX)(f:M3.I3):TI:=fun σ H R=>∃μ σ3 G,Sim T K μ H G/\StD K H μ σ3 σ/\M3.run (f σ3) G (Ia T K μ H R) (Y.x μ H)
def PI.of{tg it:Expr}{t u:TI}(h:PI X tg it t)(f:∀σ H R,u σ H R->t σ H R):PI X tg it u:=fun pins s σ H R I q=>h pins s σ H R I (f σ H R q)
def J4(K:PySem.W.Frag)(tl:TE):TI:=fun σ H R=>tl σ H fun x H1=>∃a,x= .ref a/\(((∃xs,SqL K H1 a xs)/\R (Itl K a) H1)\/((∃xs,SqT K H1 a xs)/\R (Itt K a) H1))
def F7{tg l:Expr}{tl:TE}(hl:PE X l tl):PI X tg l (J4 X.K tl):=by
 intro pins s σ H R I h
 refine thn (hl pins s σ H _ I h) fun v s1 ⟨x,H1,I1,r1,q1⟩=>?_
 obtain⟨a,e,q⟩:=q1
 subst e
 cases r1
 rcases q with ⟨⟨xs,hq⟩,q⟩ |⟨⟨xs,hq⟩,q⟩
 · obtain⟨its,rv,pl,hz⟩:=I1.list hq
   refine wpAny_pyIter_list pl.isList ?_
   refine⟨s1.heap.objs.size,[s1.heap.objs.size],_,_,H1,rfl,I1.kept (t':=s1.toks) fun b o e=>Heap.get?_push_of_some _ e,zc a _,⟨_,Heap.get?_push_size _ rfl,rfl,rfl⟩,fun b hb=>?_,q⟩
   have e:b=s1.heap.objs.size:=by simpa using hb
   subst e
   exact I1.Ap (qO_ _) (I1.hok.fresh (qO_ _))
 · obtain⟨its,rv,pl,hz⟩:=I1.tuple hq
   refine wpAny_pyIter_tuple (show s1.heap.IsTuple a its.toArray from pl) ?_
   refine⟨s1.heap.objs.size,[s1.heap.objs.size],_,_,H1,rfl,I1.kept (t':=s1.toks) fun b o e=>Heap.get?_push_of_some _ e,wx a _,⟨_,Heap.get?_push_size _ rfl,rfl,rfl⟩,fun b hb=>?_,q⟩
   have e:b=s1.heap.objs.size:=by simpa using hb
   subst e
   exact I1.Ap (qO_ _) (I1.hok.fresh (qO_ _))
def src_list{K:PySem.W.Frag}{μ:List Addr}{H:Hp}{n:Nat}{a:Addr}{xs:List M3.D}{o:M3.O}{ck:M3.Hh->Bool}(ea:μ[n]? =some a)(hck:∀G',ck G'=true->G'[n]? =some o)(ho:o= .lst xs\/o= .frz xs):wd T K μ H ⟨xs,ck⟩ (Itl K a):=by
 have key:∀{μ' H' G'},Up μ μ' H H'->Sim T K μ' H' G'->ck G'=true->∃vs,SqL K H' a vs/\az K H' μ' xs vs:=by
  intro μ' H' G' u S c
  have ob:=S.obj n a o (u.at ea) (hck G' c)
  rcases ho with rfl |rfl
  · obtain⟨vs,e1,r⟩:=ob;exact⟨vs,SqL.of e1,r⟩
  · obtain⟨vs,e1,r⟩:=ob;exact⟨vs,e1.sq,r⟩
 refine⟨fun i d μ' H' G' u S c e=>?_,fun i d v μ' H' H'' G' u S c e y=>?_,fun μ' H' G' u S c=>?_⟩
 · obtain⟨vs,sq,r⟩:=key u S c
   obtain⟨v,e1,_⟩:=r.get e
   exact⟨vs,v,sq,e1⟩
 · obtain⟨vs,sq,r⟩:=key u S c
   obtain⟨w,e1,dw⟩:=r.get e
   have:=y.2 vs sq
   rw[e1]at this
   cases this
   obtain⟨rfl,_⟩:=y;exact⟨fun _ _ z=>z,dw⟩
 · obtain⟨vs,sq,r⟩:=key u S c
   exact⟨vs,sq,Nat.le_of_eq r.length.symm⟩
def rV{tg:Expr}{f:M3.E3}(h:PE X e (tE T X.K Y f)):PI X tg e (tI T X.K Y (M3.iOf f)):=by
 refine PI.of (F7 h) fun σ H R ⟨μ,σ3,G,S,sd,h⟩=>⟨μ,σ3,G,S,sd,bG h fun d G1 v H1 μ1 u1 S1 d1 h1=>?_⟩
 cases d with
 |tup ds=>
  obtain⟨a,vs,rfl,sq,r⟩:=d1
  refine⟨a,rfl,.inr ⟨⟨vs,sq⟩,h1 _ H1 μ1 u1 S1 ⟨fun i d μ' H' G' u S c e=>?_,fun i d v μ' H' H'' G' u S c e y=>?_,fun μ' H' G' u S c=>?_⟩⟩⟩
  · obtain⟨v,e1,_⟩:=r.get e
    exact⟨vs,v,SqT.keeps u.keeps sq,e1⟩
  · obtain⟨w,e1,dw⟩:=r.get e
    have:=y.2 vs (SqT.keeps u.keeps sq)
    rw[e1]at this
    cases this
    obtain⟨rfl,_⟩:=y;exact⟨fun _ _ z=>z,Den.up u dw⟩
  · exact⟨vs,SqT.keeps u.keeps sq,Nat.le_of_eq r.length.symm⟩
 |ref n=>
  obtain⟨a,ea,rfl⟩:=d1
  unfold M3.run M3.srcOf at h1
  dsimp only at h1
  cases q:G1[n]? with
  |none=>rw[q]at h1;exact False.elim h1
  |some o=>
   have ob:=S1.obj n a o ea q
   cases o with
   |lst xs=>
    rw[q]at h1
    obtain⟨vs,e1,r⟩:=ob
    exact⟨a,rfl,.inl ⟨⟨vs,SqL.of e1⟩,h1 _ H1 μ1 u1 S1 (src_list ea (fun G' c=>of_decide_eq_true c) (.inl rfl))⟩⟩
   |frz xs=>
    rw[q]at h1
    obtain⟨vs,e1,r⟩:=ob
    exact⟨a,rfl,.inl ⟨⟨vs,e1.sq⟩,h1 _ H1 μ1 u1 S1 (src_list ea (fun G' c=>of_decide_eq_true c) (.inr rfl))⟩⟩
   |_=>rw[q]at h1;exact False.elim h1
 |_=>exact False.elim h1
def J0{K:PySem.W.Frag}{μ:List Addr}{H:Hp}(i:Int)(n:Nat):wd T K μ H ⟨M3.rng i n,fun _=>true⟩ (Itr i n):=by
 refine⟨fun j d μ' H' G' u S c e=>(M3.mM e).2,fun j d v μ' H' H'' G' u S c e y=>?_,fun μ' H' G' u S c=>Nat.le_of_eq M3.oE.symm⟩
 obtain⟨rfl,_⟩:=M3.mM e
 obtain⟨rfl,y⟩:=y;exact⟨fun _ _ z=>z,y⟩
def u0{i:Int}(h:M3.rF i=true):-(2 ^ 62)<=i/\i < 2 ^ 62:=of_decide_eq_true h
def lM{tg:Expr}(hm:X.mg "range"=none)(ha:PE X a (tE T X.K Y fa))(hg:Gl X "range":=by rfl)(hs:starEach [a] X.env=[(false,eval a X.env)]:=by rfl):PI X tg (.Call (.Name "range" p) [a] [] pos) (tI T X.K Y (M3.gc fa)):=by
 refine PI.of (yM hg hm (dU ha jA hs) hs) fun σ H R ⟨μ,σ3,G,S,sd,h⟩=>⟨μ,σ3,G,S,sd,bG h fun d G1 v H1 μ1 u1 S1 d1 h1=>?_⟩
 cases d with
 |int j=>
  cases (show v= .int j from d1)
  obtain⟨c,h1⟩:=jB (c:=M3.rF j=true) h1
  exact⟨j,rfl,(u0 c).1,(u0 c).2,h1 _ H1 μ1 u1 S1 (J0 0 j.toNat)⟩
 |_=>exact False.elim h1
def uZ{Z:Nat->M3.Hh->Prop}{ck:M3.Hh->Bool}{body:M3.D->M3.St->M3.M (M3.Fl×M3.St)}{σ:M3.St}{G:M3.Hh}{P:M3.Fl×M3.St->M3.Hh->Prop}(h:M3.run (M3.forL ck body [] σ) G P Z):ck G=true/\P (.next,σ) G:=by
 unfold M3.run M3.forL at h
 by_cases c:ck G=true
 · rw[if_pos c]at h;exact⟨c,h⟩
 · rw[if_neg c]at h;exact False.elim h
def DX(ck:M3.Hh->Bool)(body:M3.D->M3.St->M3.M (M3.Fl×M3.St))(r:List M3.D)(p:M3.Fl×M3.St):M3.M (M3.Fl×M3.St):=match p.1 with
 | .next=>M3.forL ck body r p.2
 | .cont=>M3.forL ck body r p.2
 | .brk=>M3.ret (.next,p.2)
 | .ret d=>M3.ret (.ret d,p.2)
def rl{Z:Nat->M3.Hh->Prop}{ck:M3.Hh->Bool}{body:M3.D->M3.St->M3.M (M3.Fl×M3.St)}{x:M3.D}{r:List M3.D}{σ:M3.St}{G:M3.Hh}{P:M3.Fl×M3.St->M3.Hh->Prop}(h:M3.run (M3.forL ck body (x :: r) σ) G P Z):
 ck G=true/\M3.run (M3.bnd (body x σ) (DX ck body r)) G P Z:=by
 have e:M3.forL ck body (x :: r) σ G=if ck G then M3.bnd (body x σ) (DX ck body r) G else none:=by
  conv=>lhs;unfold M3.forL
  rfl
 unfold M3.run at h
 rw[e]at h
 by_cases c:ck G=true
 · rw[if_pos c]at h;exact⟨c,h⟩
 · rw[if_neg c]at h;exact False.elim h
def zq{tg iter:Expr}{body:List Stmt}{it:M3.I3}{g:M3.D->M3.St->M3.M M3.St}{f:M3.S3}(hp:PassesOwn (model X.prog X.w) X.A X.env X.xe)(hc:X.calm=true)(hi:PI X tg iter (tI T X.K Y it))(hg:PG X tg (tG T X.K Y g))(hb:PSs X body (tS T X.K Y f))
 (hs:∀x,foldedSetIterable iter X.env x=pure x:=by intro _;rfl):PS X (.For tg iter body [] pos) (tS T X.K Y (M3.jM it g f)):=by
 refine PS.of (AB hp hc hi hg hb hs) fun D σ H ⟨μ,σ3,G,S,sd,h⟩=>⟨μ,σ3,G,S,sd,cD (M3.aS h) fun src G1 q J H1 μ1 u1 S1 sr=>?_⟩
 have q:M3.run (M3.forL src.ck (fun x σ=>M3.bnd (g x σ) f) src.xs σ3) G1 (eL T X.K μ H D) (Y.x μ1 H1):=Y.upE u1 q
 refine⟨fun i m σ' H'=>m=src.xs.length - i/\i<=src.xs.length/\∃μ' σ3' G',Up μ1 μ' H1 H'/\Sim T X.K μ' H' G'/\StD X.K H' μ' σ3' σ'/\M3.run (M3.forL src.ck (fun x σ=>M3.bnd (g x σ) f) (src.xs.drop i) σ3') G' (eL T X.K μ H D) (Y.x μ' H'),
  ⟨_,rfl,qf_ _,μ1,σ3,G1,Up.refl _ _,S1,sd.up u1,q⟩,?_⟩
 rintro i m σ' H' ⟨rfl,hi,μ',σ3',G',u',S',sd',q'⟩
 by_cases hlt:i < src.xs.length
 · rw[List.drop_eq_getElem_cons hlt]at q'
   obtain⟨c,q2⟩:=rl q'
   have ex:src.xs[i]? =some src.xs[i]:=qA_ hlt
   refine .inr ⟨sr.go i _ μ' H' G' u' S' c ex,fun σ2 H2=>∃μ2 σ4 G2,Up μ1 μ2 H1 H2/\Sim T X.K μ2 H2 G2/\StD X.K H2 μ2 σ4 σ2/\M3.run (M3.forL src.ck (fun x σ=>M3.bnd (g x σ) f) (src.xs.drop (i+1)) σ4) G2 (eL T X.K μ H D) (Y.x μ2 H2),
    fun σ2 H2 hN=>⟨_,by omega,rfl,hlt,hN⟩,fun x H'' y=>?_⟩
   obtain⟨sm,dx⟩:=sr.yld i _ x μ' H' H'' G' u' S' c ex y
   have us:Up μ' μ' H' H'':=Up.same sm
   refine⟨μ',σ3',G',_,S'.same sm,sd'.up us,dx,cD (Y.upE us (M3.aS (M3.aS q2))) fun σ5 G5 q5 σ6 H6 μ6 u6 S6 sd6=>?_⟩
   have u6:=us.trans u6
   refine⟨μ6,σ5,G5,S6,sd6,cD (Y.upE u6 q5) fun p G7 q7 σ7 H7 μ7 u7 S7 sd7=>?_⟩
   obtain⟨fl,σ8⟩:=p
   have up:=(u1.trans u').trans (u6.trans u7)
   cases fl with
   |next=>exact⟨μ7,σ8,G7,u'.trans (u6.trans u7),S7,sd7,Y.upE (u6.trans u7) q7⟩
   |cont=>exact⟨μ7,σ8,G7,u'.trans (u6.trans u7),S7,sd7,Y.upE (u6.trans u7) q7⟩
   |brk=>exact q7 σ7 H7 μ7 up S7 sd7
   |ret d=>exact q7 σ7 H7 μ7 up S7 sd7
 · have e:i=src.xs.length:=by omega
   subst e
   rw[List.drop_length]at q'
   obtain⟨c,q2⟩:=uZ q'
   exact .inl ⟨sr.stop μ' H' G' u' S' c,q2 σ' H' μ' (u1.trans u') S' sd'⟩
def EX.of(T:Tab)(K:PySem.W.Frag)(E:XK):EX:=⟨fun μ H c G=>∀Ca dx H' μ',T.cls c=some Ca->Up μ μ' H H'->Sim T K μ' H' G->E (.ref Ca) dx H',fun u h Ca dx H' μ' e u' S=>h Ca dx H' μ' e (u.trans u') S⟩
def sp3(T:Tab)(K:PySem.W.Frag)(n:Nat)(f:List M3.D->M3.M M3.D):Sp:=fun vs H Q E=>vs.length=n/\∃μ ds G,Sim T K μ H G/\az K H μ ds vs/\M3.run (f ds) G (cW T K μ H Q) ((EX.of T K E).x μ H)
structure Fn3 (P:Program) (w:World) (K:PySem.W.Frag) (mg:Str->Option Value) (base:Heap) (CX:CXT) (T:Tab) (k:Nat) (x:Str) (n:Nat) (f:List M3.D->M3.M M3.D):Prop where
 ex:∃fa fd ps,aQ P w K mg base CX k fa fd ps (sp3 T K n f)/\mg x=some (.ref fa)/\PySem.W.keepIn K (.ref fa)=true/\Binds K fd ps []
 len:∀ds G (Q:M3.D->M3.Hh->Prop) (Z:Nat->M3.Hh->Prop),M3.run (f ds) G Q Z->ds.length=n
def x_call{CX:CXT}{E:XK}{x:Str}{k n:Nat}{f:List M3.D->M3.M M3.D}(F:Fn3 X.prog X.w X.K X.mg X.base CX T k x n f)(hr:dC k X.A)(hx:fm CX X E)(ha:PA X (e :: es) (tA T X.K (EX.of T X.K E) f3))(hg:Gl X x:=by rfl)(hdb:(x==("__debug__":Str))=false:=by decide)
 (he:starEach (e :: es) X.env=(false,eval e X.env) :: starEach es X.env:=by rfl) (hpl:(backTo pos (starEach es X.env)).any (·.1)=false:=by rfl):PE X (.Call (.Name x p) (e :: es) [] pos) (tE T X.K (EX.of T X.K E) (M3.av f f3)):=by
 obtain⟨fa,fd,ps,G,hm,hk,hb⟩:=F.ex
 refine PE.of (DU G hr hg hm hk hb .nil hx ha hdb he hpl) fun σ H Q ⟨μ,σ3,G,S,sd,h⟩=>⟨μ,σ3,G,S,sd,nX h fun ds G1 vs H1 μ1 u1 S1 d1 h1=>?_⟩
 show sp3 T X.K n f (vs++[]) H1 Q E
 rw[qY_]
 exact⟨by rw[<-d1.length];exact F.len _ _ _ _ h1,μ1,ds,G1,S1,d1,cD h1 fun _ _ z=>z.up u1⟩
def oR{Z:Nat->M3.Hh->Prop}{n:Nat}{pad:M3.St}{body:M3.S3}{ds:List M3.D}{G:M3.Hh}{Q:M3.D->M3.Hh->Prop}(h:M3.run (M3.fnM n pad body ds) G Q Z):ds.length=n:=by
 unfold M3.fnM at h
 exact(jB h).1
def StD.start{K:PySem.W.Frag}{H:Hp}{μ:List Addr}:∀{ds:List M3.D} {vs:List V} (k:Nat),az K H μ ds vs->StD K H μ (ds.map some++List.replicate k none) (vs.map some++List.replicate k none):=by
 intro ds vs k r
 refine⟨by simp [r.length],fun i d e=>?_⟩
 by_cases h:i < ds.length
 · rw[qK_ (by simpa using h),qQ_]at e
   cases q:ds[i]? with
   |none=>rw[q]at e;cases e
   |some d'=>
    rw[q]at e
    cases e
    obtain⟨v,e1,r1⟩:=r.get q
    refine⟨v,?_,r1⟩
    rw[qK_ (by simpa using (qB_.mp e1).1),qQ_,e1];rfl
 · rw[qL_ (by simpa using h),List.getElem?_replicate]at e
   split at e <;> cases e
def iE{X:Cx}{E:XK}:fm CX0 X E:=fun _ _ _ _ _ _ _ h=>h.elim
def bb{P:Program}{w:World}{K:PySem.W.Frag}{mg:Str->Option Value}{base:Heap}{x qual:Str}{st:Stmt}{fa:Addr}{fd:FuncData}{N ps:List Str}{k n:Nat}{pad:M3.St}{body:M3.S3}(F:Fun K x qual st fa fd)(S:aq N ps (aj st))
 (hn:ps.length=n) (hpad:pad=List.replicate (N.length - n) none)
 (h:∀(cdv:Value) (A:Around) (outer:List Env) (s:Shared) (H:Hp) (E:XK),dC k (A.deeper (envOfC qual (aj st) s.heap.objs.size fa cdv))->PSs (lA CX0 P w K mg base N qual (aj st) fa cdv A outer s H E).nox (gj st) (tS T K (EX.of T K E) body)):
 aQ P w K mg base CX0 (k+1) fa fd ps (sp3 T K n (M3.fnM n pad body)):=by
 refine F.ok S (fun vs H Q E q=>by rw[hn];exact q.1) (fun cdv A outer s H vs Q E hr q=>⟨_,h cdv A outer s H E hr,?_⟩)
 obtain⟨hl,μ,ds,G,Sm,d,q⟩:=q
 unfold M3.fnM at q
 obtain⟨c,q⟩:=jB q
 have e1:L2.start N vs=vs.map some++List.replicate (N.length - n) none:=by unfold L2.start;rw[hl]
 rw[e1]
 refine⟨μ,_,G,Sm,by rw[hpad];exact StD.start _ d,cD (M3.aS q) fun r G1 q1 σ' H' μ' u S' sd'=>?_⟩
 obtain⟨fl,σ2⟩:=r
 cases fl with
 |next=>exact q1 .non H' μ' u S' rfl
 |brk=>exact False.elim q1
 |cont=>exact False.elim q1
 |ret d=>exact fun v dv=>q1 v H' μ' u S' dv
def fn3{P:Program}{w:World}{K:PySem.W.Frag}{mg:Str->Option Value}{base:Heap}{x qual:Str}{st:Stmt}{fa:Addr}{fd:FuncData}{N ps:List Str}{k n:Nat}{pad:M3.St}{body:M3.S3}(F:Fun K x qual st fa fd)(S:aq N ps (aj st))(hm:mg x=some (.ref fa))(hb:Binds K fd ps [])
 (hn:ps.length=n) (hpad:pad=List.replicate (N.length - n) none)
 (h:∀(cdv:Value) (A:Around) (outer:List Env) (s:Shared) (H:Hp) (E:XK),dC k (A.deeper (envOfC qual (aj st) s.heap.objs.size fa cdv))->PSs (lA CX0 P w K mg base N qual (aj st) fa cdv A outer s H E).nox (gj st) (tS T K (EX.of T K E) body)):
 Fn3 P w K mg base CX0 T (k+1) x n (M3.fnM n pad body):=⟨⟨fa,fd,ps,bb F S hn hpad h,hm,F.kp,hb⟩,fun ds G Q Z q=>oR q⟩
end
structure Blk (X:Cx) (x:Str) (caps:List (Str×Nat)) (scope:Scope) (cl:List (Str×Addr)):Prop where
 kind:scope.kind= .function
 F0:∀y∈scope.names,y.2≠.cell
 loc:∀y∈scope.names,y.2= .local->scope.names.lookup y.1=some .local
 own:scope.names.lookup x=some .local
 Dx:closureFor scope X.env=pure cl
 nd:(x :: caps.map (·.1)).Nodup
 sub:∀y c,cl.lookup y=some c->X.env.cells.lookup y=some c
 has:∀y,((relabel scope X.env).names.lookup y=some .cell\/(relabel scope X.env).names.lookup y=some .free)->∃c,cl.lookup y=some c
 nox:cl.lookup x=none
 cap:∀(j:Nat) y i,caps[j]? =some (y,i)->X.N[i]? =some y/\(X.env.kindOf y=some .cell\/X.env.kindOf y=some .free)/\((relabel scope X.env).names.lookup y=some .cell\/(relabel scope X.env).names.lookup y=some .free)
def blk(X:Cx)(x:Str)(caps:List (Str×Nat))(scope:Scope)(cl:List (Str×Addr))(s₃:Shared)(H₃:Hp)(C:Addr)(fp:List Addr)(E':Value->Shared->Prop):Cx:=
 {X with N:=x :: caps.map (·.1),s₀:=s₃,H₀:=H₃,env:=compEnvC scope cl C X.env,outer:=X.stack,stack:=X.stack,ex:=fp,fn:=fun y=>decide (y=x),xe:=E'}
def σ0(σ:L2.St)(caps:List (Str×Nat)):L2.St:=none :: caps.map fun p=>(σ[p.2]?).join
section
variable{X:Cx}{x:Str}{caps:List (Str×Nat)}{scope:Scope}{cl:List (Str×Addr)}{pins:List (Addr×Obj)}{σ:L2.St}{H:Hp}{s₃:Shared}{fp:List Addr}{E':Value->Shared->Prop}
def EV(B:Blk X x caps scope cl)(I:L2.Inv X pins σ H s₃)(hf:∀b∈fp,nz X pins H b)(hfl:∀b∈fp,b < s₃.heap.objs.size):(blk X x caps scope cl s₃ H s₃.heap.objs.size fp E').Ok where
 mod:=I.mod
 kind:=B.kind
 glob:=I.ok.glob
 blt:=I.ok.blt
 above:=qO_ _
 inj:=fun y z c h1 h2=>I.ok.inj y z c (B.sub y c h1) (B.sub z c h2)
 has:=fun y hy=>B.has y hy
 cab:=fun y c hy h=>by
  have e:y=x:=of_decide_eq_true hy
  subst e
  rw[show (blk X y caps scope cl s₃ H s₃.heap.objs.size fp E').env.cells.lookup y=cl.lookup y from rfl,B.nox]at h
  cases h
 hd:=I.ok.hd
 frames:=I.ok.frames
 stk:= .inl rfl
 exf:=fun b hb=>⟨Nat.ne_of_lt (hfl b hb),fun y c e=>(hf b hb).2.2.2.2.1 y c (B.sub y c e)⟩
 bs:=I.bs
 bsz:=Nat.le_trans I.ok.bsz I.sz
 wB:=fun b o e hb=>by
  rcases (hf b hb).2.2.2.1 with z |z
  · exact I.ok.wB b o e z
  · exact absurd (qd_ (Heap.lt_size e) (Nat.le_trans I.ok.bsz z)) (qe_ _)
 yZ:=fun b hb z=>by
  rcases qS_.mp (I.j7 b z)with e |e
  · exact(hf b hb).2.1 e
  · exact(hf b hb).2.2.1 e
 mD:=I.stack
 frf:=I.oF
def Cq(B:Blk X x caps scope cl)(I:L2.Inv X pins σ H s₃)(hf:∀b∈fp,nz X pins H b)(hfl:∀b∈fp,b < s₃.heap.objs.size){h₁:Heap}{tk:Nat}{m:Str->Option Value}(hns:h₁.Ns s₃.heap.objs.size m)(hk:∀b o,s₃.heap.get? b=some o->h₁.get? b=some o):
 L2.Inv (blk X x caps scope cl s₃ H s₃.heap.objs.size fp E') pins (σ0 σ caps) H {s₃ with heap:=h₁,toks:=tk}:=by
 refine⟨EV B I hf hfl,rfl,I.bare,Un.kept hk,⟨m,hns,fun i y v e1 e2 e3=>?_⟩,fun y c e=>?_,I.hok.fresh (qO_ _),fun y c e=>I.gf y c (B.sub y c e),fun p hp=>?_,I.hok.kept hk,by simp [σ0,blk]⟩
 · cases i with
   |zero=>simp [σ0]at e2
   |succ j=>
    have e2:(caps.map fun p=>(σ[p.2]?).join)[j]? =some (some v):=by simpa [σ0] using e2
    have e1:(caps.map (·.1))[j]? =some y:=by simpa [blk] using e1
    rw[qQ_]at e1 e2
    cases q:caps[j]? with
    |none=>rw[q]at e1;cases e1
    |some p=>
     obtain⟨y',i⟩:=p
     rw[q]at e1 e2
     cases e1
     have e2:(σ[i]?).join=some v:=Option.some.inj e2
     have e3:σ[i]? =some (some v):=by
      cases z:σ[i]? with
      |none=>rw[z]at e2;cases e2
      |some w=>rw[z]at e2;exact congrArg some e2
     obtain⟨h1,h2,h3⟩:=B.cap j y' i q
     obtain⟨m',_,hl⟩:=I.loc
     obtain⟨u,ru,l⟩:=hl i y' v h1 e3 (h2.elim (fun z=>.inr (.inl z)) fun z=>.inr (.inr z))
     refine⟨u,ru,.inr ⟨h3,?_⟩⟩
     rcases l with ⟨k,_⟩ |⟨_,c,ec,⟨ob,ho,hd⟩⟩
     · rcases h2 with z |z
       · rw[z]at k;cases k
       · rw[z]at k;cases k
     · obtain⟨c',ec'⟩:=B.has y' h3
       have:=B.sub y' c' ec'
       rw[ec]at this
       cases this
       exact⟨c,ec',ob,hk _ _ ho,hd⟩
 · obtain⟨v,ob,ho,hd⟩:=I.cell y c (B.sub y c e)
   exact⟨v,ob,hk _ _ ho,hd⟩
 · obtain⟨e,n,ne,nf,d⟩:=I.pin p hp
   refine⟨hk _ _ e,n,Nat.ne_of_lt (Heap.lt_size e),fun z=>?_,d⟩
   rcases qS_.mp (I.j7 p.1 z)with q |q
   · exact ne q
   · exact nf q
end
theorem Sim.lt{X:Cx}{T:Tab}{pins:List (Addr×Obj)}{σ:L2.St}{H:Hp}{s:Shared}{μ:List Addr}{G:M3.Hh}(I:L2.Inv X pins σ H s)(S:Sim T X.K μ H G):∀a∈μ,a < s.heap.objs.size:=by
 intro a ha
 obtain⟨n,hn,e⟩:=List.getElem_of_mem ha
 have e1:μ[n]? =some a:=by rw[<-e];exact qA_ hn
 have hg:n < G.length:=by rw[<-S.len];exact hn
 have ob:=S.obj n a _ e1 (qA_ hg)
 generalize G[n]=o at ob
 cases q:isF o with
 |false=>
  obtain⟨u,hu⟩:=ob.live q
  exact I.hok.lt hu
 |true=>
  cases o with
  |frz xs=>
   obtain⟨vs,sq,_⟩:=ob
   obtain⟨its,_,⟨ob',n',e',_⟩,_⟩:=I.list sq.sq
   exact Heap.lt_size e'
  |_=>cases q
def PTs(X:Cx)(ifs:List Expr)(t:TT):Prop:=
 ∀(pins:List (Addr×Obj)) (s:Shared) (σ:L2.St) (H:Hp) (Q:Bool->Hp->Prop),L2.Inv X pins σ H s->t σ H Q->
  wpAny (model X.prog X.w) X.A (forIn ifs true fun c r=>if r=true then do let ok <-isTrue c X.env (eval c X.env);pure (ForInStep.yield ok)else pure (ForInStep.yield r)) (TP X pins σ Q) X.xe s
def e9{X:Cx}{T:Tab}{Y:EX}:PTs X [] (tT T X.K Y M3.jE):=fun pins s σ H Q I ⟨μ,σ3,G,S,sd,h⟩=>wpAny_tests_nil ⟨H,I,h H μ (Up.refl _ _) S⟩
def CY{X:Cx}{T:Tab}{Y:EX}{c:Expr}{f:M3.T3}(h:PT X c (tT T X.K Y f)):PTs X [c] (tT T X.K Y f):=fun pins s σ H Q I q=>wpAny_tests_one (h pins s σ H Q I q)
def yR{Z:Nat->M3.Hh->Prop}{ck:M3.Hh->Bool}{cond:M3.D->M3.M Bool}{elt:M3.D->M3.M M3.D}{acc:List M3.D}{G:M3.Hh}{P:List M3.D->M3.Hh->Prop}(h:M3.run (M3.b8 ck cond elt [] acc) G P Z):ck G=true/\P acc G:=by
 unfold M3.run M3.b8 at h
 by_cases c:ck G=true
 · rw[if_pos c]at h;exact⟨c,h⟩
 · rw[if_neg c]at h;exact False.elim h
def zw(ck:M3.Hh->Bool)(cond:M3.D->M3.M Bool)(elt:M3.D->M3.M M3.D)(x:M3.D)(r acc:List M3.D)(c:Bool):M3.M (List M3.D):=
 if c then M3.bnd (elt x) (fun y=>if acc.length < M3.aC then M3.b8 ck cond elt r (acc++[y])else M3.fail)else M3.b8 ck cond elt r acc
def wc{Z:Nat->M3.Hh->Prop}{ck:M3.Hh->Bool}{cond:M3.D->M3.M Bool}{elt:M3.D->M3.M M3.D}{x:M3.D}{r acc:List M3.D}{G:M3.Hh}{P:List M3.D->M3.Hh->Prop}(h:M3.run (M3.b8 ck cond elt (x :: r) acc) G P Z):
 ck G=true/\M3.run (M3.bnd (cond x) (zw ck cond elt x r acc)) G P Z:=by
 have e:M3.b8 ck cond elt (x :: r) acc G=if ck G then M3.bnd (cond x) (zw ck cond elt x r acc) G else none:=by
  conv=>lhs;unfold M3.b8
  rfl
 unfold M3.run at h
 rw[e]at h
 by_cases c:ck G=true
 · rw[if_pos c]at h;exact⟨c,h⟩
 · rw[if_neg c]at h;exact False.elim h
theorem StD.ef{K:PySem.W.Frag}{H:Hp}{μ:List Addr}{σ3:M3.St}{σ:L2.St}(sd:StD K H μ σ3 σ)(caps:List (Str×Nat))(o:Option V):StD K H μ (none :: M3.ef σ3 (caps.map (·.2))) (o :: caps.map fun p=>(σ[p.2]?).join):=by
 refine⟨by simp [M3.ef],fun i d e=>?_⟩
 cases i with
 |zero=>simp at e
 |succ j=>
  have e:(M3.ef σ3 (caps.map (·.2)))[j]? =some (some d):=by simpa using e
  unfold M3.ef at e
  rw[qQ_,qQ_]at e
  cases q:caps[j]? with
  |none=>rw[q]at e;cases e
  |some p=>
   rw[q]at e
   have e:(σ3[p.2]?).join=some d:=Option.some.inj e
   have e3:σ3[p.2]? =some (some d):=by
    cases z:σ3[p.2]? with
    |none=>rw[z]at e;cases e
    |some w=>rw[z]at e;exact congrArg some e
   obtain⟨v,h1,h2⟩:=sd.at_ _ _ e3
   refine⟨v,?_,h2⟩
   show (caps.map fun p=>(σ[p.2]?).join)[j]? =some (some v)
   rw[qQ_,q]
   show some (σ[p.2]?).join=some (some v)
   rw[h1];rfl
section
variable{X:Cx}{T:Tab}{Y:EX}{elt iter:Expr}{x:Str}{px:Pos}{ifs:List Expr}{scope:Scope}{cl:List (Str×Addr)}{caps:List (Str×Nat)}{pos:Pos}{fe:M3.E3}{ft:M3.T3}
def Up.off{μ μ1:List Addr}{H H1:Hp}{p:Addr}{ws ws':List V}(u:Up μ μ1 H H1)(hp:H p=none)(hw:H1 p=some (.lst ws)):Up μ μ1 H (upd H1 p (.lst ws')):=by
 refine⟨u.pre,⟨fun b xs e=>?_,fun b o v e=>?_⟩,fun b o e n=>?_⟩
 · rw[aJ (cp e hp)];exact u.keeps.tup b xs e
 · rw[aJ (cp e hp)];exact u.keeps.frz b o v e
 · rw[aJ (cp e hp)];exact u.rest b o e n
def Sim.off{T:Tab}{K:PySem.W.Frag}{μ:List Addr}{H:Hp}{G:M3.Hh}{p:Addr}{ws ws':List V}(S:Sim T K μ H G)(hp:p∉μ)(hw:H p=some (.lst ws)):Sim T K μ (upd H p (.lst ws')) G:=by
 have k:Keeps H (upd H p (.lst ws')):=Keeps.write hw (fun _ z=>nomatch z) (fun _ _ z=>nomatch z)
 refine⟨S.len,fun n a o e1 e2=>(S.obj n a o e1 e2).mono (List.prefix_refl _) k fun y e=>?_,S.inj⟩
 rw[aJ (by rintro rfl;exact hp (qD_ e1))]
 exact e
def FV{α:Type}{K:PySem.W.Frag}{μ:List Addr}{H:Hp}{m:M3.M M3.D}{k:M3.D->M3.M α}{G:M3.Hh}{P:α->M3.Hh->Prop}{R:VK}{Z:Nat->M3.Hh->Prop}(h:M3.run (M3.bnd m k) G P Z)(hz:∀c G,Z c G->Y.x μ H c G)
 (f:∀d G1 v H1 μ1,Up μ μ1 H H1->Sim T K μ1 H1 G1->Den K H1 μ1 d v->M3.run (k d) G1 P Z->R v H1):M3.run m G (cW T K μ H R) (Y.x μ H):=
 M3.au (M3.aS h) (fun d G1 q v H1 μ1 u S r=>f d G1 v H1 μ1 u S r q) hz
def Gv{α:Type}{K:PySem.W.Frag}{μ:List Addr}{H:Hp}{m:M3.M Bool}{k:Bool->M3.M α}{G:M3.Hh}{P:α->M3.Hh->Prop}{R:Bool->Hp->Prop}{Z:Nat->M3.Hh->Prop}(h:M3.run (M3.bnd m k) G P Z)(hz:∀c G,Z c G->Y.x μ H c G)
 (f:∀b G1 H1 μ1,Up μ μ1 H H1->Sim T K μ1 H1 G1->M3.run (k b) G1 P Z->R b H1):M3.run m G (nR T K μ H R) (Y.x μ H):=
 M3.au (M3.aS h) (fun d G1 q H1 μ1 u S=>f d G1 H1 μ1 u S q) hz
structure JM (X:Cx) (T:Tab) (pins:List (Addr×Obj)) (σ:L2.St) (μ:List Addr) (H:Hp) (P:List M3.D->M3.Hh->Prop) (sz:Nat) (p C:Addr) (s':Shared):Prop where
 ex:∃ys ws H' μ' G',L2.Inv X pins σ H' s'/\Up μ μ' H H'/\Sim T X.K μ' H' G'/\H' p=some (.lst ws)/\p∉μ'/\az X.K H' μ' ys ws/\P ys G'/\H' C=none/\H p=none
 ns:∃m,s'.heap.Ns C m
 ge:sz<=C
def rb(B:Blk X x caps scope cl)(hc:X.calm=true)(he:∀s₃ H₃ C fp E',PE (blk X x caps scope cl s₃ H₃ C fp E') elt (tE T X.K Y fe))(ht:∀s₃ H₃ C fp E',PTs (blk X x caps scope cl s₃ H₃ C fp E') ifs (tT T X.K Y ft))
 {pins:List (Addr×Obj)} {σ:L2.St} {H:Hp} {s₂:Shared} {it:Addr} {fp:List Addr} {tn:Nat->Heap->Prop} {J:It} {μ:List Addr} {σ3:M3.St} {G:M3.Hh} {src:M3.Src} {E:Value->Shared->Prop}
 (I:L2.Inv X pins σ H s₂) (Tn:Turn X.prog X.w X.K (.Name x px) J fp it tn) (st:tn 0 s₂.heap) (hf:∀b∈fp,nz X pins H b) (S:Sim T X.K μ H G) (sd:StD X.K H μ σ3 σ) (sr:wd T X.K μ H src J)
 {P:List M3.D->M3.Hh->Prop} (h:M3.run (M3.b8 src.ck (fun z=>ft (some z :: M3.ef σ3 (caps.map (·.2)))) (fun z=>fe (some z :: M3.ef σ3 (caps.map (·.2)))) src.xs []) G P (Y.x μ H))
 {RR:Value->Addr->Result->Shared->Prop} (fin:∀p C s',JM X T pins σ μ H P s₂.heap.objs.size p C s'->RR (.ref p) C (.ok .next) s'):
 wpAny (model X.prog X.w) X.A (newList []) (fun acc s₃=>wpAny (model X.prog X.w) X.A (newFunctionEnv scope X.env.globals cl [] X.env.qual none .none (some X.env)) (fun cenv s₄=>
  codeAny (model X.prog X.w) X.A (.compStart (.ListComp elt [⟨.Name x px,iter,ifs,0⟩] scope pos) 0 (.ref it) acc {cenv with scope:=relabel scope X.env}) (RR acc cenv.locals) s₄) E s₃) E s₂:=by
 refine wpAny_newObj_type (wpAny_newFunctionEnv B.F0 (by intro y hy;simp at hy) (fun h₁ hns₁ hsb₁=>?_) B.kind)
 have hp0:H s₂.heap.objs.size=none:=I.hok.fresh (qO_ _)
 have I3:L2.Inv X pins σ (upd H s₂.heap.objs.size (.lst [])) {s₂ with heap:=s₂.heap.push {cls:= .type "list",data:= .seq ([]:List Value).toArray},toks:=s₂.toks}:=
  I.laid (t':=s₂.toks) (fun b u e=>Heap.get?_push_of_some _ e) (qO_ _) ⟨qf_ _,[],0,.nil,Heap.get?_push_size _ rfl⟩
 have hpμ:s₂.heap.objs.size∉μ:=fun z=>qe_ _ (S.lt I _ z)
 have S3:=S.same (fU.new (.lst []) hp0)
 have up0:Up μ μ H (upd H s₂.heap.objs.size (.lst [])):=Up.same (fU.new _ hp0)
 have hfl:∀b∈fp,b < s₂.heap.objs.size:=fun b hb=>by
  obtain⟨o,e,_⟩:=Tn.obj 0 _ st b hb
  exact Heap.lt_size e
 have hf3:∀b∈fp,nz X pins (upd H s₂.heap.objs.size (.lst [])) b:=fun b hb=>⟨by rw[aJ (Nat.ne_of_lt (hfl b hb))];exact(hf b hb).1,(hf b hb).2⟩
 generalize hpp:s₂.heap.objs.size=p at*
 generalize hH3:upd H p (.lst [])=H₃ at*
 have hpH:H₃ p=some (.lst []):=by rw[<-hH3];exact aO
 generalize hs3:({s₂ with heap:=s₂.heap.push {cls:= .type "list",data:= .seq ([]:List Value).toArray},toks:=s₂.toks}:Shared)=s₃ at*
 have hsz3:s₃.heap.objs.size=p+1:=by rw[<-hs3];show (s₂.heap.push _).objs.size=p+1;rw[Heap.size_push,hpp]
 have hfl3:∀b∈fp,b < s₃.heap.objs.size:=fun b hb=>by rw[hsz3];exact Nat.lt_succ_of_lt (hfl b hb)
 have e3:s₂.heap.push {cls:= .type "list",data:= .seq ([]:List Value).toArray}=s₃.heap:=by rw[<-hs3]
 have keep1:∀b o,s₃.heap.get? b=some o->h₁.get? b=some o:=fun b o e=>(hsb₁.2 b (Nat.ne_of_lt (Heap.lt_size e))).trans (Heap.get?_push_of_some _ e)
 generalize hC:s₃.heap.objs.size=C at*
 have I4:∀E',L2.Inv (blk X x caps scope cl s₃ H₃ C fp E') pins (σ0 σ caps) H₃ {s₃ with heap:=h₁,toks:=s₃.toks+([]:List (Str×Value)).length}:=fun E'=>by
  subst hC
  exact Cq B I3 hf3 hfl3 hns₁ keep1
 have hch:∀b∈fp,(b∈X.ex\/X.s₀.heap.objs.size<=b)/\b≠X.env.locals/\(∀x c,X.env.cells.lookup x=some c->c≠b)/\∀q∈X.pn++pins,q.1≠b:=fun b hb=>⟨(hf b hb).2.2.2.1,(hf b hb).2.1,(hf b hb).2.2.2.2.1,(hf b hb).2.2.2.2.2⟩
 have tn1:tn 0 h₁:=Tn.keep 0 _ _ st fun b hb o e=>keep1 b o (by rw[<-e3];exact Heap.get?_push_of_some _ e)
 have loop:∀s₄:Shared,s₄={s₃ with heap:=h₁,toks:=s₃.toks+([]:List (Str×Value)).length}->
  codeAny (model X.prog X.w) X.A (.compLoop (.ListComp elt [⟨.Name x px,iter,ifs,0⟩] scope pos) 0 (.ref it) (.ref p) (compEnvC scope cl C X.env)) (RR (.ref p) C) s₄:=by
  rintro s₄ rfl
  generalize hE:notedBy (model X.prog X.w) X.A (compEnvC scope cl C X.env) (fun e s'=>RR (.ref p) C (.error e) s')=E'
  refine codeAny_compLoop_tests (fun k s'=>∃(i:Nat),∃ys ws o H' μ' G',L2.Inv (blk X x caps scope cl s₃ H₃ C fp E') pins (o :: caps.map fun q=>(σ[q.2]?).join) H' s'/\tn i s'.heap/\(∀b∈fp,H' b=none)/\i<=src.xs.length/\k=src.xs.length+1 - i/\
   Up μ μ' H H'/\Sim T X.K μ' H' G'/\H' p=some (.lst ws)/\p∉μ'/\az X.K H' μ' ys ws/\M3.run (M3.b8 src.ck (fun z=>ft (some z :: M3.ef σ3 (caps.map (·.2)))) (fun z=>fe (some z :: M3.ef σ3 (caps.map (·.2)))) (src.xs.drop i) ys) G' P (Y.x μ H)) ?_ (src.xs.length+1)
   ⟨0,[],[],none,H₃,μ,G,I4 E',tn1,fun b hb=>(hf3 b hb).1,qf_ _,rfl,up0,S3,hpH,hpμ,rfl,h⟩
  rintro k s' ⟨i,ys,ws,o,H',μ',G',I',tn',fr',hi,rfl,up',S',hpw,hpm,dws,q'⟩
  rw[hE]
  have fpok:∀{H'':Hp},(∀b∈fp,H'' b=none)->∀b∈fp,nz (blk X x caps scope cl s₃ H₃ C fp E') pins H'' b:=fun {H''} hn b hb=>by
   refine⟨hn b hb,?_,fun z=>?_,.inl hb,fun y c e=>(hf b hb).2.2.2.2.1 y c (B.sub y c e),(hf b hb).2.2.2.2.2⟩
   · exact Nat.ne_of_lt (hfl3 b hb)
   · rcases qS_.mp (I3.j7 b z)with e |e
     · exact(hf b hb).2.1 e
     · exact(hf b hb).2.2.1 e
  by_cases hlt:i < src.xs.length
  · rw[List.drop_eq_getElem_cons hlt]at q'
    obtain⟨c,q2⟩:=wc q'
    have ex:src.xs[i]? =some src.xs[i]:=qA_ hlt
    generalize src.xs[i]=d at ex q2
    refine wpAny_mono (Tn.item (blk X x caps scope cl s₃ H₃ C fp E') rfl rfl rfl hc i pins s' _ H' E' I' (fpok fr') tn' (sr.go i d μ' H' G' up' S' c ex)) (fun r s1 ⟨u,hr,h1⟩=>?_) fun _ _ z=>z
    subst hr
    have go:wpAny (model X.prog X.w) X.A (letOwnedTupleGo (.Name x px) (.ref it) u >>= fun _=>assign (.Name x px) (compEnvC scope cl C X.env) u) (fun _ s₂=>
     wpAny (model X.prog X.w) X.A (forIn ifs true fun c r=>if r=true then do let ok <-isTrue c (compEnvC scope cl C X.env) (eval c (compEnvC scope cl C X.env));pure (ForInStep.yield ok)else pure (ForInStep.yield r)) (fun ok s₃'=>
      if ok=true then wpAny (model X.prog X.w) X.A (eval elt (compEnvC scope cl C X.env)) (fun y s₄=>
       wpAny (model X.prog X.w) X.A (call (.builtin "list.append") [.ref p,y]) (fun _ s₅=>∃m,m < src.xs.length+1 - i/\∃(i:Nat),∃ys ws o H' μ' G',L2.Inv (blk X x caps scope cl s₃ H₃ C fp E') pins (o :: caps.map fun q=>(σ[q.2]?).join) H' s₅/\tn i s₅.heap/\(∀b∈fp,H' b=none)/\i<=src.xs.length/\m=src.xs.length+1 - i/\
    Up μ μ' H H'/\Sim T X.K μ' H' G'/\H' p=some (.lst ws)/\p∉μ'/\az X.K H' μ' ys ws/\M3.run (M3.b8 src.ck (fun z=>ft (some z :: M3.ef σ3 (caps.map (·.2)))) (fun z=>fe (some z :: M3.ef σ3 (caps.map (·.2)))) (src.xs.drop i) ys) G' P (Y.x μ H)) E' s₄) E' s₃'
     else ∃m,m < src.xs.length+1 - i/\∃(i:Nat),∃ys ws o H' μ' G',L2.Inv (blk X x caps scope cl s₃ H₃ C fp E') pins (o :: caps.map fun q=>(σ[q.2]?).join) H' s₃'/\tn i s₃'.heap/\(∀b∈fp,H' b=none)/\i<=src.xs.length/\m=src.xs.length+1 - i/\
    Up μ μ' H H'/\Sim T X.K μ' H' G'/\H' p=some (.lst ws)/\p∉μ'/\az X.K H' μ' ys ws/\M3.run (M3.b8 src.ck (fun z=>ft (some z :: M3.ef σ3 (caps.map (·.2)))) (fun z=>fe (some z :: M3.ef σ3 (caps.map (·.2)))) (src.xs.drop i) ys) G' P (Y.x μ H)) E' s₂) E' s1:=by
     refine wpAny_bind (thn h1 fun _ s2 ⟨xv,H'',I5,r5,y5,tn5,fr5⟩=>?_)
     obtain⟨sm,dx⟩:=sr.yld i d xv μ' H' H'' G' up' S' c ex y5
     have us:Up μ' μ' H' H'':=Up.same sm
     have up':=up'.trans us
     have S':=S'.same sm
     have hpw:=sm _ _ hpw
     have dws:=az.up us dws
     have I5':=I5.pinned (fpok fr5) (Tn.obj _ _ tn5)
     have back:∀{σ7:L2.St} {H7:Hp} {s7:Shared},L2.Inv (blk X x caps scope cl s₃ H₃ C fp E') (pins++pI fp s2.heap) σ7 H7 s7->tn (i+1) s7.heap/\∀b∈fp,H7 b=none:=fun {σ7 H7 s7} I7=>by
      refine⟨Tn.keep _ _ _ tn5 fun b hb ob eb=>(I7.pin (b,ob) (qE_ _ (qE_ _ (jx hb eb)))).1,fun b hb=>?_⟩
      obtain⟨ob,eb,_⟩:=Tn.obj _ _ tn5 b hb
      exact(I7.pin (b,ob) (qE_ _ (qE_ _ (jx hb eb)))).2.1
     refine thn (sD (X:=blk X x caps scope cl s₃ H₃ C fp E') (i:=0) (pos:=px) B.nd rfl (.inl (lookup_relabel_local B.own)) (.inl (qZ_ rfl)) _ s2 _ _ xv u (fun σ2 H2=>σ2=some xv :: caps.map (fun q=>(σ[q.2]?).join)/\H2=H'') I5' r5 ⟨rfl,rfl⟩) fun _ s3 ⟨σ6,H6,I6,e6,e7⟩=>?_
     subst e6 e7
     have sd6:StD X.K H6 μ' (some d :: M3.ef σ3 (caps.map (·.2))) (some xv :: caps.map fun q=>(σ[q.2]?).join):=((sd.up up').ef caps (some xv)).set 0 dx
     refine thn (ht s₃ H₃ C fp E' _ s3 _ H6 (fun b H8=>∃μ8 G8,Up μ' μ8 H6 H8/\Sim T X.K μ8 H8 G8/\M3.run (zw src.ck (fun z=>ft (some z :: M3.ef σ3 (caps.map (·.2)))) (fun z=>fe (some z :: M3.ef σ3 (caps.map (·.2)))) d (src.xs.drop (i+1)) ys b) G8 P (Y.x μ H)) I6
      ⟨μ',_,G',S',sd6,Gv (Y:=Y) q2 (fun _ _ z=>Y.up up' z) fun b G8 H8 μ8 u8 S8 h8=>⟨μ8,G8,u8,S8,h8⟩⟩) fun b s4 ⟨H8,I8,μ8,G8,u8,S8,h8⟩=>?_
     obtain⟨hpw8,hpm8⟩:=u8.rest p _ hpw hpm
     cases b with
     |false=>
      obtain⟨tn8,fr8⟩:=back I8
      exact⟨_,by omega,i+1,ys,ws,some xv,H8,μ8,G8,I8.kF,tn8,fr8,hlt,rfl,up'.trans u8,S8,hpw8,hpm8,az.up u8 dws,h8⟩
     |true=>
      refine thn (he s₃ H₃ C fp E' _ s4 _ H8 (fun v H9=>∃y μ9 G9,Up μ8 μ9 H8 H9/\Sim T X.K μ9 H9 G9/\Den X.K H9 μ9 y v/\M3.run (if ys.length < M3.aC then M3.b8 src.ck (fun z=>ft (some z :: M3.ef σ3 (caps.map (·.2)))) (fun z=>fe (some z :: M3.ef σ3 (caps.map (·.2)))) (src.xs.drop (i+1)) (ys++[y])else M3.fail) G9 P (Y.x μ H)) I8
       ⟨μ8,_,G8,S8,sd6.up u8,FV (Y:=Y) h8 (fun _ _ z=>Y.up (up'.trans u8) z) fun y G9 v H9 μ9 u9 S9 d9 h9=>⟨y,μ9,G9,u9,S9,d9,h9⟩⟩) fun yv s5 ⟨v,H9,I9,rv,y,μ9,G9,u9,S9,d9,h9⟩=>?_
      obtain⟨hpw9,hpm9⟩:=u9.rest p _ hpw8 hpm8
      obtain⟨hl,h9⟩:=jB h9
      have dws9:=az.up (u8.trans u9) dws
      refine thn (rC (X:=blk X x caps scope cl s₃ H₃ C fp E') _ s5 _ H9 (.ref p) [v] (.ref p) [yv] (fun _ H10=>H10=upd H9 p (.lst (ws++[v]))) I9 rfl (.cons rv .nil) ⟨p,ws,v,rfl,rfl,hpw9,by rw[<-dws9.length,<-cB];exact hl,rfl⟩) fun _ s6 ⟨_,H10,I10,_,e10⟩=>?_
      subst e10
      obtain⟨tn10,fr10⟩:=back I10
      have k10:Keeps H9 (upd H9 p (.lst (ws++[v]))):=Keeps.write hpw9 (fun _ z=>nomatch z) (fun _ _ z=>nomatch z)
      exact⟨_,by omega,i+1,ys++[y],ws++[v],some xv,_,μ9,G9,I10.kF,tn10,fr10,hlt,rfl,((up'.trans u8).trans u9).off hp0 hpw9,S9.off hpm9 hpw9,aO,hpm9,az.mono (List.prefix_refl _) k10 (dws9.append (az.one d9)),h9⟩
    exact go
  · have e:i=src.xs.length:=by omega
    subst e
    rw[List.drop_length]at q'
    obtain⟨c,q2⟩:=yR q'
    refine wpAny_mono (Tn.done (blk X x caps scope cl s₃ H₃ C fp E') rfl rfl rfl hc _ pins s' _ H' E' I' (fpok fr') tn' (sr.stop μ' H' G' up' S' c)) (fun r s1 ⟨hr,I5⟩=>?_) fun _ _ z=>z
    subst hr
    have I6:L2.Inv X pins σ H' s1:=I3.zY (ch:=fp) I5.os I5.base I5.hok I5.bare hch
    obtain⟨m,hm,_⟩:=I5.loc
    exact fin p C s1 ⟨⟨ys,ws,H',μ',G',I6,up',S',hpw,hpm,dws,q2,I5.free,hp0⟩,⟨m,hm⟩,by rw[hsz3];exact Nat.le_succ _⟩
 exact codeAny_compStart_list (loop _ rfl) (Tn.self _ 0 _ _ _ tn1 (loop _ rfl))
end
def Sim.adopt{T:Tab}{K:PySem.W.Frag}{μ:List Addr}{H:Hp}{G:M3.Hh}{p:Addr}{ws:List V}{ys:List M3.D}(S:Sim T K μ H G)(hp:p∉μ)(hw:H p=some (.lst ws))(d:az K H μ ys ws):Sim T K (μ++[p]) H (G++[.lst ys]):=by
 have pre:μ <+: μ++[p]:=⟨[p],rfl⟩
 have old:∀(n:Nat) a o',(μ++[p])[n]? =some a->(G++[.lst ys])[n]? =some o'->(μ[n]? =some a/\G[n]? =some o')\/(n=G.length/\a=p/\o'= .lst ys):=by
  intro n a o' e1 e2
  by_cases h:n < G.length
  · rw[qK_ (by rw[S.len];exact h)]at e1
    rw[qK_ h]at e2
    exact .inl ⟨e1,e2⟩
  · have hn:n=G.length:=by
     have:=(qB_.mp e2).1
     rw[qN_]at this
     simp at this
     omega
    subst hn
    rw[<-S.len]at e1
    simp at e1 e2
    exact .inr ⟨rfl,e1.symm,e2.symm⟩
 refine⟨by simp [S.len],fun n a o' e1 e2=>?_,fun n m a o1 o2 hnm e1 e2 e3 e4=>?_⟩
 · rcases old n a o' e1 e2 with ⟨h1,h2⟩ |⟨_,rfl,rfl⟩
   · exact(S.obj n a o' h1 h2).mono pre (Keeps.refl _) fun _ z=>z
   · exact⟨ws,hw,az.mono pre (Keeps.refl _) d⟩
 · rcases old n a o1 e1 e3 with ⟨h1,h2⟩ |⟨rfl,rfl,rfl⟩
   · rcases old m a o2 e2 e4 with ⟨h3,h4⟩ |⟨rfl,rfl,rfl⟩
     · exact S.inj n m a o1 o2 hnm h1 h3 h2 h4
     · exact absurd (qD_ h1) hp
   · rcases old m a o2 e2 e4 with ⟨h3,h4⟩ |⟨h3,_,_⟩
     · exact absurd (qD_ h3) hp
     · exact absurd h3.symm hnm
def Up.adopt{μ μ':List Addr}{H H':Hp}{p:Addr}(u:Up μ μ' H H')(hp:H p=none):Up μ (μ'++[p]) H H':=
 ⟨u.pre.trans ⟨[p],rfl⟩,u.keeps,fun b o e n=>⟨(u.rest b o e n).1,fun z=>by
   rcases qG_.mp z with z |z
   · exact(u.rest b o e n).2 z
   · simp at z;subst z;rw[hp]at e;cases e⟩⟩
section
variable{X:Cx}{T:Tab}{Y:EX}{elt iter:Expr}{x:Str}{px:Pos}{ifs:List Expr}{scope:Scope}{cl:List (Str×Addr)}{caps:List (Str×Nat)}{pos:Pos}{fe:M3.E3}{ft:M3.T3}{it:M3.I3}
def yc{pins:List (Addr×Obj)}{σ σ':L2.St}{H H':Hp}{s₂ s':Shared}{C:Addr}(I:L2.Inv X pins σ H s₂)(hge:s₂.heap.objs.size<=C)(I':L2.Inv X pins σ' H' s')(hC:H' C=none){h':Heap}(hs:Heap.SameBut C s'.heap h'):L2.Inv X pins σ' H' {s' with heap:=h'}:=by
 refine I'.turned (t':=s'.toks) (it:=C) (fun b o hb e=>(hs.2 b hb).trans e) hC (Nat.ne_of_gt (qd_ I.lt hge)) (.inr (Nat.le_trans I.sz hge)) (fun y c e z=>?_) fun q hq z=>?_
 · obtain⟨v,w⟩:=I.cell y c e
   exact absurd (qd_ w.lt (by rw[z];exact hge)) (qe_ _)
 · exact absurd (qd_ (Heap.lt_size (I.pin q hq).1) (by rw[z];exact hge)) (qe_ _)
def m7(B:Blk X x caps scope cl)(hc:X.calm=true)(hi:PI X (.Name x px) iter (tI T X.K Y it))(ht:∀s₃ H₃ C fp E',PTs (blk X x caps scope cl s₃ H₃ C fp E') ifs (tT T X.K Y ft))(he:∀s₃ H₃ C fp E',PE (blk X x caps scope cl s₃ H₃ C fp E') elt (tE T X.K Y fe))
 (hs:∀x,foldedSetIterable iter X.env x=pure x:=by intro _;rfl):PE X (.ListComp elt [⟨.Name x px,iter,ifs,0⟩] scope pos) (tE T X.K Y (M3.gb it (caps.map (·.2)) ft fe)):=by
 intro pins s σ H Q I ⟨μ,σ3,G,S,sd,h⟩
 rw[eval_ListComp]
 refine wpAny_comprehension_free (use:=none) rfl hs B.Dx B.kind B.loc (thn (hi pins s σ H (fun J H1=>∃src μ1 G1,Up μ μ1 H H1/\Sim T X.K μ1 H1 G1/\wd T X.K μ1 H1 src J/\
  M3.run (M3.bnd (M3.b8 src.ck (fun x=>ft (some x :: M3.ef σ3 (caps.map (·.2)))) (fun x=>fe (some x :: M3.ef σ3 (caps.map (·.2)))) src.xs []) fun ys=>M3.new (.lst ys)) G1 (cW T X.K μ H Q) (Y.x μ1 H1)) I
  ⟨μ,σ3,G,S,sd,cD (M3.aS h) fun src G1 q J H1 μ1 u1 S1 sr=>⟨src,μ1,G1,u1,S1,sr,Y.upE u1 q⟩⟩) fun v s1 h1=>thn h1 fun itv s2 h2=>?_)
 obtain⟨ita,fp,tn,J,H1,e,I2,Tn,st2,f2,src,μ1,G1,u1,S1,sr,q⟩:=h2
 subst e
 refine rb (RR:=fun acc C=>compPost (model X.prog X.w) X.A X.xe none (EP X pins σ Q) acc C) B hc he ht I2 Tn st2 f2 S1 (sd.up u1) sr (M3.aS q) fun p C s' ce=>?_
 obtain⟨⟨ys,ws,H',μ',G',I',u',S',hpw,hpm,d,hP,hC,hp0⟩,⟨m,hm⟩,hge⟩:=ce
 refine⟨m,hm,fun h' hsb=>⟨.ref p,H',yc I2 hge I' hC hsb,rfl,?_⟩⟩
 refine hP _ H' (μ'++[p]) (u1.trans (u'.adopt hp0)) (S'.adopt hpm hpw d) ⟨p,?_,rfl⟩
 rw[<-S'.len];simp
def gv{i:Nat}{y:Str}{py spos:Pos}(B:Blk X x caps scope cl)(hc:X.calm=true)(hN:X.N.Nodup)(hiN:X.N[i]? =some y)(hy:X.env.scope.names.lookup y=some .local)
 (hi:PI X (.Name x px) iter (tI T X.K Y it)) (ht:∀s₃ H₃ C fp E',PTs (blk X x caps scope cl s₃ H₃ C fp E') ifs (tT T X.K Y ft)) (he:∀s₃ H₃ C fp E',PE (blk X x caps scope cl s₃ H₃ C fp E') elt (tE T X.K Y fe))
 (hsw:swapsWith (.ListComp elt [⟨.Name x px,iter,ifs,0⟩] scope pos) (some (.Name y py)) spos.line X.env=pure true:=by rfl)
 (hs:∀x,foldedSetIterable iter X.env x=pure x:=by intro _;rfl):PS X (.Assign [.Name y py] (.ListComp elt [⟨.Name x px,iter,ifs,0⟩] scope pos) spos) (tS T X.K Y (M3.bu i (M3.gb it (caps.map (·.2)) ft fe))):=by
 intro pins s σ H D I ⟨μ,σ3,G,S,sd,h⟩
 rw[exec_Assign_Name_used _ _ _ _ hsw]
 refine wpAny_bind (wpAny_standAt (wpAny_bind ?_))
 show wpAny _ X.A (do let _ <-comprehension (.ListComp elt [⟨.Name x px,iter,ifs,0⟩] scope pos) scope X.env _ (newList []) false (eval iter X.env) (some (assign (.Name y py) X.env))) _ _ s
 refine wpAny_bind (wpAny_mono (wpAny_comprehension_free (use:=some (assign (.Name y py) X.env)) (Q:=fun _ s'=>SP X pins D .next s') rfl hs B.Dx B.kind B.loc
  (thn (hi pins s σ H (fun J H1=>∃src μ1 G1,Up μ μ1 H H1/\Sim T X.K μ1 H1 G1/\wd T X.K μ1 H1 src J/\
  M3.run (M3.bnd (M3.b8 src.ck (fun x=>ft (some x :: M3.ef σ3 (caps.map (·.2)))) (fun x=>fe (some x :: M3.ef σ3 (caps.map (·.2)))) src.xs []) fun ys=>M3.bnd (M3.new (.lst ys)) fun d=>M3.ret (.next,σ3.set i (some d))) G1 (eL T X.K μ H D) (Y.x μ1 H1)) I
  ⟨μ,σ3,G,S,sd,cD (M3.aS (by
    have h:M3.run (M3.bnd (M3.bnd (it σ3) fun src=>M3.bnd (M3.b8 src.ck (fun x=>ft (some x :: M3.ef σ3 (caps.map (·.2)))) (fun x=>fe (some x :: M3.ef σ3 (caps.map (·.2)))) src.xs []) fun ys=>M3.new (.lst ys)) fun d=>M3.ret (.next,σ3.set i (some d))) G (eL T X.K μ H D) (Y.x μ H):=h
    rw[M3.kZ]at h
    exact h)) fun src G1 q J H1 μ1 u1 S1 sr=>⟨src,μ1,G1,u1,S1,sr,Y.upE u1 (by rw[M3.kZ]at q;exact q)⟩⟩) fun v s1 h1=>thn h1 fun itv s2 h2=>?_)) (fun _ s' hq=>wpAny_pure (wpAny_pure hq)) fun _ _ e=>e)
 obtain⟨ita,fp,tn,J,H1,e,I2,Tn,st2,f2,src,μ1,G1,u1,S1,sr,q⟩:=h2
 subst e
 refine rb (RR:=fun acc C=>compPost (model X.prog X.w) X.A X.xe (some (assign (.Name y py) X.env)) (fun _ s'=>SP X pins D .next s') acc C) B hc he ht I2 Tn st2 f2 S1 (sd.up u1) sr (M3.aS q) fun p C s' ce=>?_
 obtain⟨⟨ys,ws,H',μ',G',I',u',S',hpw,hpm,d,hP,hC,hp0⟩,⟨m,hm⟩,hge⟩:=ce
 show wpAny _ X.A (assign (.Name y py) X.env (.ref p)) _ _ _
 refine wpAny_assign_Name (rJ I' hN hiN (.inl hy) (v:= .ref p) rfl (fun s3 I3 ⟨a,hsa,hal⟩=>?_) (.inr hy))
 have hCa:C≠a:=by
  rintro rfl
  rcases hal with z |z
  · exact absurd I2.lt (by rw[<-z];exact Nat.not_lt.mpr hge)
  · obtain⟨v,w⟩:=I2.cell _ _ z
    exact absurd (qd_ w.lt hge) (qe_ _)
 refine⟨m,hm.sameBut hsa hCa,fun h' hsb=>⟨_,H',yc I2 hge I3 hC hsb,?_⟩⟩
 have Sa:=S'.adopt hpm hpw d
 have ua:=(u1.trans (u'.adopt hp0))
 have dn:Den X.K H' (μ'++[p]) (.ref G'.length) (.ref p):=⟨p,by rw[<-S'.len];simp,rfl⟩
 exact hP _ H' (μ'++[p]) ua Sa ((sd.up ua).set i dn)
theorem Blk.nil(hkind:scope.kind= .function)(hno:scope.names.all (fun y=>decide (y.2= .local))=true)(hloc:∀y∈scope.names,scope.names.lookup y.1=some .local)(hown:scope.names.lookup x=some .local):Blk X x [] scope []:=by
 have hl:∀y∈scope.names,y.2= .local:=fun y hy=>of_decide_eq_true (List.all_eq_true.mp hno y hy)
 refine⟨hkind,fun y hy z=>?_,fun y hy _=>hloc y hy,hown,closureFor_none fun y hy z=>?_,(by simp),(fun y c e=>by cases e),(fun y hy=>?_),rfl,(fun j y i e=>by simp at e)⟩
 · rw[hl y hy]at z;cases z
 · rw[hl y hy]at z;cases z
 · exfalso
   have key:∀(l:List (Str×NameKind)),(∀z∈l,z.2= .local)->∀k,(l.map fun(n,k)=>if (k==NameKind.free&&X.env.scope.kind== .function&&X.env.kindOf n==some .cell)then (n,NameKind.cell)else (n,k)).lookup y=some k->k= .local:=by
    intro l
    induction l with
    |nil=>intro _ k e;cases e
    |cons z r ih=>
     intro hz k e
     obtain⟨n,kk⟩:=z
     have hk:kk= .local:=hz (n,kk) qI_
     subst hk
     rw[List.map_cons]at e
     simp only[show (NameKind.local==NameKind.free)=false from rfl,Bool.false_and,Bool.false_eq_true,if_false,List.lookup_cons]at e
     cases q:y==n with
     |true=>rw[q]at e;cases e;rfl
     |false=>rw[q]at e;exact ih (fun w hw=>hz w (qR_ _ hw)) k e
   rcases hy with z |z
   · exact absurd (key _ hl _ z) (by decide)
   · exact absurd (key _ hl _ z) (by decide)
end
def Es(K:PySem.W.Frag)(mg:Str->Option Value)(x:Str)(d:M3.D):Prop:=∃v u,mg x=some u/\RelV v u/\∀H μ,Den K H μ d v
section
variable{X:Cx}{T:Tab}{Y:EX}{a b e:Expr}{fa fb:M3.E3}{pos:Pos}
def F2{x:Str}{d:M3.D}(h:Es X.K X.mg x d)(hg:Gl X x:=by rfl)(hd:(x==("__debug__":Str))=false:=by decide):PE X (.Name x pos) (tE T X.K Y (M3.eC d)):=by
 obtain⟨v,u,h1,h2,h3⟩:=h
 exact mZ (Cd hg h1 h2 hd) h3
def Ej(hu:X.A.units+64 < cLine):OpR X (compareOp .Eq) (qC T X.K false)/\Br2 T X.K Y M3.oEq (qC T X.K false):=FN (by omega)
def Iu(hu:X.A.units+64 < cLine):OpR X (compareOp .NotEq) (qC T X.K true)/\Br2 T X.K Y M3.oNe (qC T X.K true):=FJ (by omega)
def Ec(hu:X.A.units+64 < cLine):OpR X (compareOp .In) (sA T X.K false)/\Br2 T X.K Y M3.oIn (sA T X.K false):=Fe (by omega)
def uu(hu:X.A.units+64 < cLine):OpR X (compareOp .NotIn) (sA T X.K true)/\Br2 T X.K Y M3.il (sA T X.K true):=zj (by omega)
def Ik(hu:X.A.units+64 < cLine):OpR X (compareOp .Lt) (Cp X.K)/\Br2 T X.K Y M3.oLt (Cp X.K):=FG (by omega)
def Ed(hu:X.A.units+64 < cLine):OpR X (compareOp .Gt) (B5 X.K)/\Br2 T X.K Y M3.oGt (B5 X.K):=ER (by omega)
def Iw(hu:X.A.units+64 < cLine):OpR X (compareOp .GtE) (rI0 fun i j=>.bl (decide (j<=i)))/\Br2 T X.K Y M3.oGe (rI0 fun i j=>.bl (decide (j<=i))):=Ey
def yT(hu:X.A.units+64 < cLine)(ha:PE X a (tE T X.K Y fa))(hb:PE X b (tE T X.K Y fb))(hs:r9 b:=by intro _ _;rfl):PE X (.Subscript a b pos) (tE T X.K Y (M3.eOp M3.oIx fa fb)):=JL (by omega) ha hb hs
def x6{K:PySem.W.Frag}{a:Addr}{od:Option Addr}{its:Array Value}{n:Nat}{sl:Array (Option Value)}{ds:List M3.D}{vs:List V}(l:K.lookup a=some ⟨.type "tuple",od,.seq its n,sl⟩)(hz:its.size<=sizeLine)(r:Vals vs its.toList)(d:∀H μ,az K H μ ds vs):∀H μ,Den K H μ (.tup ds) (.ref a):=
 fun H μ=>⟨a,vs,rfl,.inr ⟨_,its,n,l,rfl,rfl,hz,r⟩,d H μ⟩
def GP{T:Tab}{K:PySem.W.Frag}{f:List M3.D->M3.M M3.D}{n:Nat}(h:∀ns:List Int,ns.length<=n->M3.run (f [.ref 0]) [.frz (ns.map M3.D.int)] (fun d _=>d= .bl true) fun _ _=>False)
 {H:Hp} {a:Addr} {ns:List Int} (hl:ns.length<=n) (hO:BY H) (sq:SqL K H a (ns.map V.int)):sp3 T K 1 f [.ref a] H (fun v _=>v= .bl true) fun _ _ _=>False:=by
 have sf:SqF K H a (ns.map V.int):=by
  rcases sq with (sq |⟨o,sq⟩) |sq
  · rcases hO a with z |⟨o,xs,z⟩
    · rw[z]at sq;cases sq
    · rw[z]at sq;cases sq
  · exact .inl ⟨o,sq⟩
  · exact .inr sq
 refine⟨rfl,[a],[.ref 0],[.frz (ns.map M3.D.int)],⟨rfl,fun k b o e1 e2=>?_,fun k m b o o' hkm e1 e2 e3 e4=>?_⟩,⟨.ref a,[],rfl,⟨a,rfl,rfl⟩,rfl⟩,M3.au (h ns hl) (fun d G' e v H' μ' u S r=>?_) fun _ _ z=>z.elim⟩
 · cases k with
   |zero=>cases e1;cases e2;exact⟨_,sf,az.oK⟩
   |succ k=>simp at e1
 · cases k with
   |zero=>cases e3;exact .inl rfl
   |succ k=>simp at e1
 · subst e;exact r
end
structure xV (T:Tab) (K:PySem.W.Frag) (f:Nat):Prop where
 cl:∀C Ca,C < 1000->T.cls C=some Ca->Cls K Ca/\jg K Ca (T.nm f)
 inj:∀g,T.nm g=T.nm f->g=f
abbrev mG(T:Tab)(K:PySem.W.Frag)(H:Hp)(μ:List Addr):List (Nat×M3.D)->List (Str×V)->Prop:=Paired (fun(p:Nat×M3.D) (q:Str×V)=>q.1=T.nm p.1/\Den K H μ p.2 q.2)
section
variable{X:Cx}{T:Tab}{Y:EX}{a b e o:Expr}{es:List Expr}{fa fb:M3.E3}{f3:M3.A3}{pos pos' p apos:Pos}
theorem mG.get{K:PySem.W.Frag}{H:Hp}{μ:List Addr}{f:Nat}(hf:∀g,T.nm g=T.nm f->g=f):∀{fs:List (Nat×M3.D)} {ws:List (Str×V)} {d:M3.D},mG T K H μ fs ws->fs.lookup f=some d->∃v,ws.lookup (T.nm f)=some v/\Den K H μ d v
 |_,_,_,.nil,e=>by cases e
 |(g,x) :: fs,(s,w) :: ws,d,.cons ⟨h1,h2⟩ t,e=>by
  have h1:s=T.nm g:=h1
  subst h1
  by_cases h:g=f
  · subst h
    simp at e
    subst e
    exact⟨w,by simp,h2⟩
  · have hn:¬T.nm f=T.nm g:=fun z=>h (hf g z.symm)
    have h':(f==g)=false:=by simpa using fun z=>h (Eq.symm z)
    have hn':(T.nm f==T.nm g)=false:=by simpa using hn
    rw[List.lookup_cons,h']at e
    rw[List.lookup_cons,hn']
    exact mG.get hf t e
theorem mG.none{K:PySem.W.Frag}{H:Hp}{μ:List Addr}{m:Str}(hm:∀g,T.nm g≠m):∀{fs:List (Nat×M3.D)} {ws:List (Str×V)},mG T K H μ fs ws->ws.lookup m=Option.none
 |_,_,.nil=>rfl
 |(g,x) :: fs,(s,w) :: ws,.cons ⟨h1,h2⟩ t=>by
  have h1:s=T.nm g:=h1
  subst h1
  have hn':(m==T.nm g)=false:=by simpa using fun z=>hm g (Eq.symm z)
  rw[List.lookup_cons,hn']
  exact mG.none hm t
theorem mG.put{K:PySem.W.Frag}{H:Hp}{μ:List Addr}{f:Nat}(hf:∀g,T.nm g=T.nm f->g=f){d:M3.D}{v:V}(dv:Den K H μ d v):∀{fs:List (Nat×M3.D)} {ws:List (Str×V)},mG T K H μ fs ws->mG T K H μ (M3.putN f d fs) (iy (T.nm f) v ws)
 |_,_,.nil=>.cons ⟨rfl,dv⟩ .nil
 |(g,x) :: fs,(s,w) :: ws,.cons ⟨h1,h2⟩ t=>by
  have h1:s=T.nm g:=h1
  subst h1
  unfold M3.putN iy
  by_cases h:g=f
  · subst h
    rw[if_pos rfl,if_pos rfl]
    exact .cons ⟨rfl,dv⟩ t
  · rw[if_neg h,if_neg fun z=>h (hf g z)]
    exact .cons ⟨rfl,h2⟩ (mG.put hf dv t)
def nY{f:Nat}{n:Str}(F:xV T X.K f)(he:PE X e (tE T X.K Y fa))(hn:n=T.nm f:=by rfl)(hb:attributeBase e n X.env (eval e X.env)=eval e X.env:=by rfl):PE X (.Attribute e n pos) (tE T X.K Y (M3.aT fa f)):=by
 subst hn
 refine PE.of (Ha he hb) fun σ H Q ⟨μ,σ3,G,S,sd,h⟩=>⟨μ,σ3,G,S,sd,bG h fun d G1 v H1 μ1 u1 S1 d1 h1=>?_⟩
 unfold M3.run M3.AA at h1
 cases d with
 |ref k=>
  dsimp only at h1
  obtain⟨a,ea,rfl⟩:=d1
  cases q:G1[k]? with
  |none=>rw[q]at h1;exact False.elim h1
  |some ob=>
   have od:=S1.obj k a ob ea q
   rw[q]at h1
   cases ob with
   |ins C fs=>
    dsimp only at h1
    obtain⟨Ca,dx,ws,hc,e1,r⟩:=od
    by_cases hC:C < 1000
    rotate_left
    · rw[if_neg hC]at h1;exact False.elim h1
    rw[if_pos hC]at h1
    cases ql:fs.lookup f with
    |none=>rw[ql]at h1;exact False.elim h1
    |some d=>
     rw[ql]at h1
     obtain⟨w,e2,dw⟩:=mG.get F.inj r ql
     exact⟨a,Ca,dx,ws,w,rfl,e1,(F.cl C Ca hC hc).1,(F.cl C Ca hC hc).2,e2,h1 w H1 μ1 u1 S1 dw⟩
   |_=>exact False.elim h1
 |_=>exact False.elim h1
def xF{f:Nat}{n:Str}(F:xV T X.K f)(ho:PE X o (tE T X.K Y fa))(he:PE X e (tE T X.K Y fb))(hn:n=T.nm f:=by rfl)(hs:swapsWith e (some (.Attribute o n pos')) pos.line X.env=pure false:=by rfl):PS X (.Assign [.Attribute o n pos'] e pos) (tS T X.K Y (M3.bz fa f fb)):=by
 subst hn
 refine PS.of (GI ho he hs) fun D σ H ⟨μ,σ3,G,S,sd,h⟩=>⟨μ,σ3,G,S,sd,bG h fun y G1 w H1 μ1 u1 S1 d1 h1=>⟨μ1,σ3,G1,S1,sd.up u1,bG h1 fun x G2 v H2 μ2 u2 S2 d2 h2=>?_⟩⟩
 have h2:=M3.aS h2
 unfold M3.run M3.yj at h2
 cases x with
 |ref k=>
  dsimp only at h2
  obtain⟨a,ea,rfl⟩:=d2
  cases q:G2[k]? with
  |none=>rw[q]at h2;exact False.elim h2
  |some ob=>
   have od:=S2.obj k a ob ea q
   rw[q]at h2
   cases ob with
   |ins C fs=>
    dsimp only at h2
    obtain⟨Ca,dx,ws,hc,e1,r⟩:=od
    by_cases c:C < 1000/\fs.length < 1000
    · rw[if_pos c]at h2
      have up:=Up.set S2 (.ins Ca dx (iy (T.nm f) w ws)) ea q rfl
      refine⟨a,Ca,dx,ws,rfl,e1,(F.cl C Ca c.1 hc).1,(F.cl C Ca c.1 hc).2,by rw[<-Paired.length r];exact c.2,?_⟩
      have r2:mG T X.K (upd H2 a (.ins Ca dx (iy (T.nm f) w ws))) μ2 fs ws:=Paired.imp' (fun _ _ z=>⟨z.1,Den.up up z.2⟩) r
      exact h2 _ _ μ2 ((u1.trans u2).trans up) (S2.set ea q rfl rfl ⟨Ca,dx,_,hc,aO,mG.put F.inj (Den.up (u2.trans up) d1) r2⟩) (sd.up ((u1.trans u2).trans up))
    · rw[if_neg c]at h2;exact False.elim h2
   |_=>exact False.elim h2
 |_=>exact False.elim h2
structure Mt3 (P:Program) (w:World) (K:PySem.W.Frag) (mg:Str->Option Value) (base:Heap) (CX:CXT) (T:Tab) (k:Nat) (C:Nat) (m:Str) (n:Nat) (f:List M3.D->M3.M M3.D):Prop where
 ex:∃Ca fa fd ps,T.cls C=some Ca/\Cls K Ca/\Meth K Ca m fa/\aQ P w K mg base CX k fa fd ps (sp3 T K n f)/\Binds K fd ps []
 no:∀g,T.nm g≠m
 len:∀ds G (Q:M3.D->M3.Hh->Prop) (Z:Nat->M3.Hh->Prop),M3.run (f ds) G Q Z->ds.length=n
def F4{Z:Nat->M3.Hh->Prop}{C:Nat}{x:M3.D}{G:M3.Hh}{P:Unit->M3.Hh->Prop}(h:M3.run (M3.isC C x) G P Z):∃k fs,x= .ref k/\G[k]? =some (.ins C fs)/\P () G:=by
 unfold M3.run M3.isC at h
 cases x with
 |ref k=>
  dsimp only at h
  cases q:G[k]? with
  |none=>rw[q]at h;exact False.elim h
  |some ob=>
   rw[q]at h
   cases ob with
   |ins C' fs=>
    dsimp only at h
    by_cases c:C'=C
    · rw[if_pos c]at h;subst c;exact⟨k,fs,rfl,q,h⟩
    · rw[if_neg c]at h;exact False.elim h
   |_=>exact False.elim h
 |_=>exact False.elim h
def xg{CX:CXT}{E:XK}{P:Program}{w:World}{K:PySem.W.Frag}{mg:Str->Option Value}{base:Heap}{k n:Nat}{C:Nat}{Ca:Addr}{m:Str}{g:List M3.D->M3.M M3.D}(hc:T.cls C=some Ca)(no:∀g,T.nm g≠m)(len:∀ds G (Q:M3.D->M3.Hh->Prop) (Z:Nat->M3.Hh->Prop),M3.run (g ds) G Q Z->ds.length=n)
 {σ:L2.St} {H:Hp} {Q:VK} (h:tE T K (EX.of T K E) (M3.aL C g fa f3) σ H Q):BL Ca m (sp3 T K n g) [] E (tE T K (EX.of T K E) fa) (tA T K (EX.of T K E) f3) σ H Q:=by
 obtain⟨μ,σ3,G,S,sd,h⟩:=h
 refine⟨μ,σ3,G,S,sd,bG h fun x G1 v H1 μ1 u1 S1 d1 h1=>?_⟩
 obtain⟨i,fs,rfl,q,h2⟩:=F4 (M3.aS h1)
 obtain⟨a,ea,rfl⟩:=id d1
 obtain⟨Ca',dx,ws,hc',e1,r⟩:=S1.obj i a _ ea q
 rw[hc]at hc'
 cases hc'
 refine⟨a,dx,ws,rfl,e1,mG.none no r,μ1,σ3,G1,S1,sd.up u1,nX h2 fun ds G2 vs H2 μ2 u2 S2 d2 h3=>?_⟩
 rw[qY_]
 have dd:az K H2 μ2 (.ref i :: ds) (.ref a :: vs):=⟨_,_,rfl,Den.up u2 d1,d2⟩
 exact⟨by rw[<-dd.length];exact len _ _ _ _ h3,μ2,_,G2,S2,dd,cD h3 fun _ _ z=>z.up (u1.trans u2)⟩
def wX{CX:CXT}{E:XK}{k n:Nat}{C:Nat}{m:Str}{g:List M3.D->M3.M M3.D}{pl:Sem Bool}(F:Mt3 X.prog X.w X.K X.mg X.base CX T k C m n g)(hr:dC k X.A)(hx:fm CX X E)(ho:PE X o (tE T X.K (EX.of T X.K E) fa))(ha:PA X (e :: es) (tA T X.K (EX.of T X.K E) f3))
 (hst:starEach (e :: es) X.env=(false,eval e X.env) :: starEach es X.env:=by rfl) (hpl:(backTo pos (starEach es X.env)).any (·.1)=false:=by rfl)
 (ht:eval (.Call (.Attribute o m apos) (e :: es) [] pos) X.env=(do
   let ov <-eval o X.env
   standAt apos.atName
   let (f,first) <-holding [ov] (getMethod ov m pl)
   callWith pos f first (backTo pos (starEach (e :: es) X.env)) (backToKw pos (keywordEach [] X.env))):=by rfl):
 PE X (.Call (.Attribute o m apos) (e :: es) [] pos) (tE T X.K (EX.of T X.K E) (M3.aL C g fa f3)):=by
 obtain⟨Ca,fa',fd,ps,hc,cl,hm,G,hb⟩:=F.ex
 exact PE.of (CB (pl:=pl) ho cl hm G hr hb .nil hx ha hst hpl ht) fun _ _ _ h=>xg (CX:=CX) (P:=X.prog) (w:=X.w) (mg:=X.mg) (base:=X.base) (k:=k) hc F.no F.len h
def ya{CX:CXT}{E:XK}{k n:Nat}{C:Nat}{m:Str}{g:List M3.D->M3.M M3.D}{pl:Sem Bool}(F:Mt3 X.prog X.w X.K X.mg X.base CX T k C m n g)(hr:dC k X.A)(hx:fm CX X E)(ho:PE X o (tE T X.K (EX.of T X.K E) fa))
 (ht:eval (.Call (.Attribute o m apos) [] [] pos) X.env=(do
   let ov <-eval o X.env
   standAt apos.atName
   let (f,first) <-holding [ov] (getMethod ov m pl)
   callWith pos f first (backTo pos (starEach [] X.env)) (backToKw pos (keywordEach [] X.env))):=by rfl):
 PE X (.Call (.Attribute o m apos) [] [] pos) (tE T X.K (EX.of T X.K E) (M3.aL C g fa M3.ai)):=by
 obtain⟨Ca,fa',fd,ps,hc,cl,hm,G,hb⟩:=F.ex
 refine PE.of (BW (pl:=pl) ho cl hm G hr hb .nil hx ht) fun σ H Q h=>?_
 obtain⟨μ,σ3,G,S,sd,h⟩:=xg (f3:=M3.ai) (CX:=CX) (P:=X.prog) (w:=X.w) (mg:=X.mg) (base:=X.base) (k:=k) hc F.no F.len h
 refine⟨μ,σ3,G,S,sd,cD h fun d G1 q v H1 μ1 u1 S1 d1=>?_⟩
 obtain⟨a,dx,fs,e1,e2,e3,μ2,σ4,G2,S2,sd2,h2⟩:=q v H1 μ1 u1 S1 d1
 exact⟨a,dx,fs,e1,e2,e3,h2 [] H1 μ2 (Up.refl _ _) S2 rfl⟩
structure Ct3 (P:Program) (w:World) (K:PySem.W.Frag) (mg:Str->Option Value) (base:Heap) (CX:CXT) (T:Tab) (k:Nat) (x:Str) (C:Nat) (n:Nat) (f:List M3.D->M3.M M3.D):Prop where
 ex:∃Ca fa fd ps,T.cls C=some Ca/\Mk K Ca fa/\mg x=some (.ref Ca)/\aQ P w K mg base CX k fa fd ps (sp3 T K n f)/\Binds K fd ps []
 len:∀ds G (Q:M3.D->M3.Hh->Prop) (Z:Nat->M3.Hh->Prop),M3.run (f ds) G Q Z->ds.length=n
def BM{E:XK}{K:PySem.W.Frag}{n:Nat}{C:Nat}{Ca:Addr}{g:List M3.D->M3.M M3.D}(hc:T.cls C=some Ca)(len:∀ds G (Q:M3.D->M3.Hh->Prop) (Z:Nat->M3.Hh->Prop),M3.run (g ds) G Q Z->ds.length=n)
 {H1:Hp} {μ μ1:List Addr} {H:Hp} {G1:M3.Hh} {ds:List M3.D} {vs:List V} {Q:VK} (u1:Up μ μ1 H H1) (S1:Sim T K μ1 H1 G1) (d1:az K H1 μ1 ds vs) (h:M3.run (M3.bnd (M3.new (.ins C [])) fun x=>M3.bnd (g (x :: ds)) fun r=>M3.bnd (M3.yb r) fun _=>M3.ret x) G1 (cW T K μ H Q) ((EX.of T K E).x μ1 H1)):
 ∀x dx,H1 x=none->H1 dx=none->dx≠x->sp3 T K n g (.ref x :: vs) (upd (upd H1 dx (.own x)) x (.ins Ca dx [])) (fun v H2=>v= .non/\Q (.ref x) H2) E:=by
 intro x dx hx hdx hne
 have hx2:upd H1 dx (.own x) x=none:=by rw[aJ (Ne.symm hne)];exact hx
 have ua:Up μ1 μ1 H1 (upd H1 dx (.own x)):=Up.same (fU.new _ hdx)
 have Sa:=S1.same (fU.new (.own x) hdx)
 have ub:=Up.new (μ:=μ1) (.ins Ca dx []) hx2
 have Sb:=Sa.new (o:= .ins C []) hx2 rfl ⟨Ca,dx,[],hc,aO,.nil⟩
 have uab:=ua.trans ub
 have dx':Den K (upd (upd H1 dx (.own x)) x (.ins Ca dx [])) (μ1++[x]) (.ref G1.length) (.ref x):=⟨x,by rw[<-S1.len];simp,rfl⟩
 have dd:az K (upd (upd H1 dx (.own x)) x (.ins Ca dx [])) (μ1++[x]) (.ref G1.length :: ds) (.ref x :: vs):=⟨_,_,rfl,dx',az.up uab d1⟩
 have h2:M3.run (M3.bnd (g (.ref G1.length :: ds)) fun r=>M3.bnd (M3.yb r) fun _=>M3.ret (M3.D.ref G1.length)) (G1++[.ins C []]) (cW T K μ H Q) ((EX.of T K E).x μ1 H1):=h
 refine⟨by rw[<-dd.length];exact len _ _ _ _ (M3.aS h2),_,_,_,Sb,dd,M3.au (M3.aS h2) (fun r G2 q v H2 μ2 u2 S2 dr=>?_) fun c G2 z=>(EX.of T K E).up uab z⟩
 cases r with
 |non=>exact⟨dr,q _ H2 μ2 ((u1.trans uab).trans u2) S2 (Den.up u2 dx')⟩
 |_=>exact False.elim q
def Bv{CX:CXT}{E:XK}{x:Str}{k n:Nat}{C:Nat}{g:List M3.D->M3.M M3.D}(F:Ct3 X.prog X.w X.K X.mg X.base CX T k x C n g)(hr:dC (k+1) X.A)(hx:fm CX X E)(ha:PA X (e :: es) (tA T X.K (EX.of T X.K E) f3))(hg:Gl X x:=by rfl)(hdb:(x==("__debug__":Str))=false:=by decide)
 (he:starEach (e :: es) X.env=(false,eval e X.env) :: starEach es X.env:=by rfl) (hpl:(backTo pos (starEach es X.env)).any (·.1)=false:=by rfl):PE X (.Call (.Name x p) (e :: es) [] pos) (tE T X.K (EX.of T X.K E) (M3.jC C g f3)):=by
 obtain⟨Ca,fa',fd,ps,hc,M,hm,G,hb⟩:=F.ex
 refine PE.of (CW M G hr hg hm hb .nil hx ha hdb he hpl) fun σ H Q ⟨μ,σ3,G,S,sd,h⟩=>⟨μ,σ3,G,S,sd,nX h fun ds G1 vs H1 μ1 u1 S1 d1 h1=>?_⟩
 rw[qY_]
 exact BM hc F.len u1 S1 d1 h1
def xE{CX:CXT}{E:XK}{x:Str}{k n:Nat}{C:Nat}{g:List M3.D->M3.M M3.D}(F:Ct3 X.prog X.w X.K X.mg X.base CX T k x C n g)(hr:dC (k+1) X.A)(hx:fm CX X E)(hg:Gl X x:=by rfl)(hdb:(x==("__debug__":Str))=false:=by decide):
 PE X (.Call (.Name x p) [] [] pos) (tE T X.K (EX.of T X.K E) (M3.jC C g M3.ai)):=by
 obtain⟨Ca,fa',fd,ps,hc,M,hm,G,hb⟩:=F.ex
 refine PE.of (zE M G hr hg hm hb .nil hx hdb) fun σ H Q ⟨μ,σ3,G,S,sd,h⟩=>?_
 exact BM (ds:=[]) (vs:=[]) hc F.len (Up.refl _ _) S rfl h
end
section
variable{X:Cx}{T:Tab}{Y:EX}{a b e o i:Expr}{es:List Expr}{fa fb fc:M3.E3}{ft:M3.T3}{f3:M3.A3}{pos pos' p p2 apos:Pos}
abbrev iD{κ:Type}(K:PySem.W.Frag)(H:Hp)(μ:List Addr):List (κ×M3.D)->List (κ×V)->Prop:=Paired (fun(p:κ×M3.D) (q:κ×V)=>p.1=q.1/\Den K H μ p.2 q.2)
theorem iD.any{κ:Type} [DecidableEq κ]{K:PySem.W.Frag}{H:Hp}{μ:List Addr}(k:κ):∀{kvs:List (κ×M3.D)} {ws:List (κ×V)},iD K H μ kvs ws->(kvs.any fun kv=>decide (kv.1=k))=ws.any fun kv=>decide (kv.1=k)
 |_,_,.nil=>rfl
 |(k1,d) :: kvs,(k2,v) :: ws,.cons ⟨h1,h2⟩ t=>by
  cases (show k1=k2 from h1)
  rw[List.any_cons,List.any_cons,iD.any k t]
theorem iD.map{κ:Type} [DecidableEq κ]{K:PySem.W.Frag}{H:Hp}{μ:List Addr}(k:κ){d:M3.D}{v:V}(dv:Den K H μ d v):∀{kvs:List (κ×M3.D)} {ws:List (κ×V)},iD K H μ kvs ws->iD K H μ (kvs.map fun kv=>if kv.1=k then (kv.1,d)else kv) (ws.map fun kv=>if kv.1=k then (kv.1,v)else kv)
 |_,_,.nil=>.nil
 |(k1,x) :: kvs,(k2,w) :: ws,.cons ⟨h1,h2⟩ t=>by
  cases (show k1=k2 from h1)
  rw[List.map_cons,List.map_cons]
  by_cases h:k1=k
  · rw[if_pos h,if_pos h];exact .cons ⟨rfl,dv⟩ (iD.map k dv t)
  · rw[if_neg h,if_neg h];exact .cons ⟨rfl,h2⟩ (iD.map k dv t)
theorem iD.snoc{κ:Type}{K:PySem.W.Frag}{H:Hp}{μ:List Addr}(k:κ){d:M3.D}{v:V}(dv:Den K H μ d v):∀{kvs:List (κ×M3.D)} {ws:List (κ×V)},iD K H μ kvs ws->iD K H μ (kvs++[(k,d)]) (ws++[(k,v)])
 |_,_,.nil=>.cons ⟨rfl,dv⟩ .nil
 |_,_,.cons h t=>.cons h (iD.snoc k dv t)
theorem iD.put{κ:Type} [DecidableEq κ]{K:PySem.W.Frag}{H:Hp}{μ:List Addr}(k:κ){d:M3.D}{v:V}(dv:Den K H μ d v){kvs:List (κ×M3.D)}{ws:List (κ×V)}(r:iD K H μ kvs ws):iD K H μ (M3.put kvs k d) (putK ws k v):=by
 unfold M3.put putK
 rw[iD.any k r]
 by_cases h:(ws.any fun kv=>decide (kv.1=k))=true
 · rw[if_pos h,if_pos h];exact iD.map k dv r
 · rw[if_neg h,if_neg h];exact iD.snoc k dv r
def Cb:PE X (.Dict [] [] pos) (tE T X.K Y M3.pC):=by
 refine PE.of AQ fun σ H Q ⟨μ,σ3,G,S,sd,h⟩ q hq=>?_
 have u2:=Up.new (μ:=μ) (.dK []) hq
 refine h _ _ (μ++[q]) u2 (S.new hq rfl ⟨[],aO,.nil⟩) ⟨q,?_,rfl⟩
 rw[<-S.len];simp
def set_dict(hu:X.A.units+64 < cLine):uW X (fun o i v H Q=>∃a H',o= .ref a/\z9 H a i v H'/\Q H'):=by
 intro pins s σ H o i v ov iv u Q I ro ri rv h
 obtain⟨a,H',rfl,g,q⟩:=h
 cases (show ov=Value.ref a from ro)
 exact yI (by omega) I g ri rv fun s' I'=>⟨H',I',q⟩
def uW.or{t t':CM}(h:uW X t)(h':uW X t'):uW X (fun o i v H Q=>t o i v H Q\/t' o i v H Q):=by
 intro pins s σ H o i v ov iv u Q I ro ri rv q
 rcases q with q |q
 · exact h pins s σ H o i v ov iv u Q I ro ri rv q
 · exact h' pins s σ H o i v ov iv u Q I ro ri rv q
theorem az.set{K:PySem.W.Frag}{H:Hp}{μ:List Addr}{d:M3.D}{v:V}(dv:Den K H μ d v):∀{ds:List M3.D} {vs:List V} (j:Nat),az K H μ ds vs->az K H μ (ds.set j d) (vs.set j v)
 | [],_,_,h=>by cases (show _=[]from h);rfl
 |_ :: _,_,0,⟨w,r,e,h,t⟩=>by subst e;exact⟨v,r,rfl,dv,t⟩
 |_ :: _,_,j+1,⟨w,r,e,h,t⟩=>by subst e;exact⟨w,r.set j v,rfl,h,az.set dv j t⟩
def Ek(hu:X.A.units+64 < cLine)(ho:PE X o (tE T X.K Y fa))(hi:PE X i (tE T X.K Y fb))(he:PE X e (tE T X.K Y fc))
 (ha:∀v,assign (.Subscript o i pos') X.env v=(do
   let ov <-holding [v] (eval o X.env)
   let iv <-holding [v,ov] (eval i X.env)
   standAt pos'
   holding [v,ov,iv] (setItem ov iv v)
   release [v,ov,iv] []):=by intro _;rfl)
 (hs:swapsWithSole [.Subscript o i pos'] e pos.line X.env=pure false:=by rfl) (hw:swappedStores [.Subscript o i pos'] e X.env=pure none:=by rfl)
 (h1:(assignEach [.Subscript o i pos'] X.env).map (·.2)=[assign (.Subscript o i pos') X.env]:=by rfl):PS X (.Assign [.Subscript o i pos'] e pos) (tS T X.K Y (M3.xx fa fb fc)):=by
 refine PS.of (BI he (Fm ho hi (uW.or set_list (set_dict hu)) ha) hs hw h1) fun D σ H ⟨μ,σ3,G,S,sd,h⟩=>⟨μ,σ3,G,S,sd,bG h fun w G1 wv H1 μ1 u1 S1 d1 h1=>?_⟩
 refine⟨μ1,σ3,G1,S1,sd.up u1,bG h1 fun x G2 xv H2 μ2 u2 S2 d2 h2=>⟨μ2,σ3,G2,S2,sd.up (u1.trans u2),bG h2 fun y G3 yv H3 μ3 u3 S3 d3 h3=>?_⟩⟩
 have h3:=M3.aS h3
 have dw:=Den.up (u2.trans u3) d1
 unfold M3.run M3.yB at h3
 cases x with
 |ref n=>
  dsimp only at h3
  obtain⟨c,ec,rfl⟩:=Den.up u3 d2
  cases q:G3[n]? with
  |none=>rw[q]at h3;exact False.elim h3
  |some ob=>
   have od:=S3.obj n c ob ec q
   rw[q]at h3
   cases ob with
   |lst xs=>
    obtain⟨vs,e1,r⟩:=od
    cases y with
    |int k=>
     dsimp only at h3
     cases qk:M3.ixN xs.length k with
     |none=>rw[qk]at h3;exact False.elim h3
     |some j=>
      rw[qk]at h3
      have up:=Up.set S3 (.lst (vs.set j wv)) ec q rfl
      refine .inl ⟨c,vs,k,j,rfl,d3,e1,by rw[<-r.length];exact qk,?_⟩
      exact h3 _ _ μ3 (((u1.trans u2).trans u3).trans up) (S3.set ec q rfl rfl ⟨_,aO,az.up up (az.set dw j r)⟩) (sd.up (((u1.trans u2).trans u3).trans up))
    |_=>exact False.elim h3
   |dK kvs=>
    obtain⟨ws,e1,r⟩:=od
    dsimp only at h3
    cases qk:M3.pZ y with
    |none=>rw[qk]at h3;exact False.elim h3
    |some k=>
     rw[qk]at h3
     dsimp only at h3
     by_cases cl:kvs.length < M3.aC
     · rw[if_pos cl]at h3
       cases t8 qk d3
       have up:=Up.set S3 (.dK (putK ws k wv)) ec q rfl
       refine .inr ⟨c,_,rfl,z9.k e1 (by rw[<-Paired.length r,<-cB];exact cl),?_⟩
       have r2:iD X.K (upd H3 c (.dK (putK ws k wv))) μ3 kvs ws:=Paired.imp' (fun _ _ z=>⟨z.1,Den.up up z.2⟩) r
       exact h3 _ _ μ3 (((u1.trans u2).trans u3).trans up) (S3.set ec q rfl rfl ⟨_,aO,iD.put k (Den.up up dw) r2⟩) (sd.up (((u1.trans u2).trans u3).trans up))
     · rw[if_neg cl]at h3;exact False.elim h3
   |_=>exact False.elim h3
 |_=>exact False.elim h3
def Hy(T:Tab)(K:PySem.W.Frag)(μ:List Addr)(H:Hp)(Q:Option Int->Hp->Prop)(d:Option Int)(G':M3.Hh):Prop:=∀H' μ',Up μ μ' H H'->Sim T K μ' H' G'->Q d H'
def tP(T:Tab)(K:PySem.W.Frag)(Y:EX)(f:M3.P3):TO:=fun σ H Q=>∃μ σ3 G,Sim T K μ H G/\StD K H μ σ3 σ/\M3.run (f σ3) G (Hy T K μ H Q) (Y.x μ H)
def PO.of{e:Option Expr}{t u:TO}(h:PO X e t)(f:∀σ H Q,u σ H Q->t σ H Q):PO X e u:=fun pins s σ H Q I q=>h pins s σ H Q I (f σ H Q q)
def BS:PO X none (tP T X.K Y M3.uL):=PO.of CK fun σ H Q ⟨μ,σ3,G,S,sd,h⟩=>h H μ (Up.refl _ _) S
def zN(h:PE X e (tE T X.K Y fa)):PO X (some e) (tP T X.K Y (M3.o9 fa)):=by
 refine PO.of (DC h) fun σ H Q ⟨μ,σ3,G,S,sd,h⟩=>⟨μ,σ3,G,S,sd,bG h fun d G1 v H1 μ1 u1 S1 d1 h1=>?_⟩
 cases d with
 |int k=>exact⟨k,d1,h1 H1 μ1 u1 S1⟩
 |_=>exact False.elim h1
def az.cut{K:PySem.W.Frag}{H:Hp}{μ:List Addr}{ds:List M3.D}{vs:List V}(r:az K H μ ds vs)(lo hi:Option Int):az K H μ (M3.cutD ds lo hi) (qN vs lo hi):=by
 have dr:∀(n:Nat) {ds:List M3.D} {vs:List V},az K H μ ds vs->az K H μ (ds.drop n) (vs.drop n):=by
  intro n
  induction n with
  |zero=>intro ds vs r;simpa using r
  |succ n ih=>
   intro ds vs r
   cases ds with
   |nil=>cases (show vs=[]from r);rfl
   |cons d ds=>obtain⟨w,t,rfl,_,r⟩:=r;simpa using ih r
 have tk:∀(n:Nat) {ds:List M3.D} {vs:List V},az K H μ ds vs->az K H μ (ds.take n) (vs.take n):=by
  intro n
  induction n with
  |zero=>intro ds vs r;simp;rfl
  |succ n ih=>
   intro ds vs r
   cases ds with
   |nil=>cases (show vs=[]from r);rfl
   |cons d ds=>obtain⟨w,t,rfl,h,r⟩:=r;exact⟨w,t.take n,rfl,h,ih r⟩
 have es:∀(n d:Nat) (o:Option Int),M3.sIx n d o=HT.sIx n d o:=by
  intro n d o
  cases o <;> rfl
 unfold M3.cutD qN
 rw[es,es,r.length]
 exact tk _ (dr _ r)
def Dc{lo hi:Option Expr}{fl fh:M3.P3}(he:PE X e (tE T X.K Y fa))(hl:PO X lo (tP T X.K Y fl))(hh:PO X hi (tP T X.K Y fh)):PE X (.Subscript e (.Slice lo hi none p2) pos) (tE T X.K Y (M3.eSl fa fl fh)):=by
 refine PE.of (AZ (L2.SlR.or E7 CU) he hl hh) fun σ H Q ⟨μ,σ3,G,S,sd,h⟩=>⟨μ,σ3,G,S,sd,bG h fun x G1 v H1 μ1 u1 S1 d1 h1=>?_⟩
 refine⟨μ1,σ3,G1,S1,sd.up u1,M3.au (M3.aS h1) (fun l G2 h2 H2 μ2 u2 S2=>⟨μ2,σ3,G2,S2,sd.up (u1.trans u2),M3.au (M3.aS h2) (fun k G3 h3 H3 μ3 u3 S3=>?_) fun _ _ z=>Y.up u2 z⟩) fun _ _ z=>z⟩
 have d3:=Den.up (u2.trans u3) d1
 have u:=(u1.trans u2).trans u3
 unfold M3.run M3.oSl at h3
 cases x with
 |tup xs=>
  dsimp only at h3
  obtain⟨c,vs,rfl,sq,r⟩:=d3
  by_cases cw:M3.sIx xs.length 0 l=0/\M3.sIx xs.length xs.length k=xs.length
  · rw[if_pos cw]at h3;exact False.elim h3
  · rw[if_neg cw]at h3
    refine .inl ⟨c,vs,rfl,sq,fun z=>cw ?_,fun q hq=>?_⟩
    · have es:∀(n d:Nat) (o:Option Int),M3.sIx n d o=HT.sIx n d o:=by
       intro n d o
       cases o <;> rfl
      rw[es,es,r.length];exact z
    · have u4:Up μ3 μ3 H3 (upd H3 q (.tup (qN vs l k))):=Up.same (fU.new _ hq)
      exact h3 _ _ μ3 (u.trans u4) (S3.same (fU.new _ hq)) ⟨q,_,rfl,SqT.of aO,az.up u4 (r.cut l k)⟩
 |ref n=>
  dsimp only at h3
  obtain⟨c,ec,rfl⟩:=d3
  have fin:∀{xs:List M3.D} {vs:List V},SqL X.K H3 c vs->az X.K H3 μ3 xs vs->cW T X.K μ H Q (.ref G3.length) (G3++[.lst (M3.cutD xs l k)])->HL X.K (.ref c) l k H3 Q:=by
   intro xs vs sq r hq
   refine⟨c,vs,rfl,sq,fun q hn=>?_⟩
   have u4:=Up.new (μ:=μ3) (.lst (qN vs l k)) hn
   refine hq _ _ (μ3++[q]) (u.trans u4) (S3.new hn rfl ⟨_,aO,az.up u4 (r.cut l k)⟩) ⟨q,?_,rfl⟩
   rw[<-S3.len];simp
  cases qn:G3[n]? with
  |none=>rw[qn]at h3;exact False.elim h3
  |some ob=>
   have od:=S3.obj n c ob ec qn
   rw[qn]at h3
   cases ob with
   |lst xs=>obtain⟨vs,e1,r⟩:=od;exact .inr (fin (SqL.of e1) r h3)
   |frz xs=>obtain⟨vs,e1,r⟩:=od;exact .inr (fin e1.sq r h3)
   |_=>exact False.elim h3
 |_=>exact False.elim h3
def Cy{c:Expr}{body:List Stmt}{f:M3.S3}(hp:PassesOwn (model X.prog X.w) X.A X.env X.xe)(hc:PT X c (tT T X.K Y ft))(hb:PSs X body (tS T X.K Y f)):PS X (.While c body [] pos) (tS T X.K Y (M3.r6 ft f)):=by
 refine PS.of (Bq hp hc hb) fun D σ H ⟨μ,σ3,G,S,sd,h⟩=>?_
 have h:M3.run (M3.iW ft f M3.s8 σ3) G (eL T X.K μ H D) (Y.x μ H):=h
 generalize M3.s8=n at h
 refine⟨fun m σ' H'=>∃μ' σ3' G',Up μ μ' H H'/\Sim T X.K μ' H' G'/\StD X.K H' μ' σ3' σ'/\M3.run (M3.iW ft f m σ3') G' (eL T X.K μ H D) (Y.x μ' H'),⟨n,μ,σ3,G,Up.refl _ _,S,sd,h⟩,?_⟩
 rintro m σ' H' ⟨μ',σ3',G',u',S',sd',q⟩
 cases m with
 |zero=>exact False.elim q
 |succ m=>
  refine⟨μ',σ3',G',S',sd',rf q fun b G1 H1 μ1 u1 S1 h1=>?_⟩
  cases b with
  |false=>exact h1 σ' H1 μ1 (u'.trans u1) S1 (sd'.up u1)
  |true=>
   refine⟨fun σ2 H2=>∃μ2 σ4 G2,Up μ μ2 H H2/\Sim T X.K μ2 H2 G2/\StD X.K H2 μ2 σ4 σ2/\M3.run (M3.iW ft f m σ4) G2 (eL T X.K μ H D) (Y.x μ2 H2),fun σ2 H2 hN=>⟨m,Nat.lt_succ_self _,hN⟩,?_⟩
   refine⟨μ1,σ3',G1,S1,sd'.up u1,cD (M3.aS h1) fun p G7 q7 σ7 H7 μ7 u7 S7 sd7=>?_⟩
   obtain⟨fl,σ8⟩:=p
   have up:=(u'.trans u1).trans u7
   cases fl with
   |next=>exact⟨μ7,σ8,G7,up,S7,sd7,Y.upE u7 q7⟩
   |cont=>exact⟨μ7,σ8,G7,up,S7,sd7,Y.upE u7 q7⟩
   |brk=>exact q7 σ7 H7 μ7 up S7 sd7
   |ret d=>exact q7 σ7 H7 μ7 up S7 sd7
end
open PySem PySem.Spec PyProof.Rows L2
def Tr(h:Heap)(e:Addr)(c:Value)(t:Option (Addr×Value)):Prop:=
 ∃oe vs,h.get? e=some oe/\oe.cls=c/\oe.data= .fields vs/\match t with
  |none=>vs[1]? =some .none
  |some (g,z)=>vs[1]? =some (.ref g)/\g≠e/\∃og ts,h.get? g=some og/\og.data= .fields ts/\ts[3]? =some z
structure tD (fs:List Addr) (e:Addr) (t:Option (Addr×Value)) (g:Addr) (h h':Heap):Prop where
 same:∀b o,h.get? b=some o->b∉fs->b≠e->(∀q,t=some q->b≠q.1)->h'.get? b=some o
 plain:∀b o,h.get? b=some o->(∀ws,o.data≠.fields ws)->∃sl,h'.get? b=some {o with slots:=sl}
 head:(∃z,t=some (g,z))\/h.objs.size<=g
 size:h.objs.size<=h'.objs.size
section
variable{M:Model}{A:Around}{E:Value->Shared->Prop}{s:Shared}{base:Heap}{env:Env}{outer:List Env}{L e:Addr}{c:Value}
def rm{oe:Obj}{vs:Array Value}{hd0:Value}{hn:Bool}{Q:Unit->Shared->Prop}(hA:A.frames=some (env :: outer))(fr:s.heap.FunFrames base (env :: outer))(hL:env.frame=some L)
 (ge:s.heap.get? e=some oe) (de:oe.data= .fields vs) (z1:1 < vs.size)
 (k:∀h' g,s.heap.objs.size<=g->Tr h' e oe.cls (some (g,rawInt L))->(∀b o,s.heap.get? b=some o->b∉frs (env :: outer)->b≠e->h'.get? b=some o)->(∀b o,s.heap.get? b=some o->(∀ws,o.data≠.fields ws)->∃sl,h'.get? b=some {o with slots:=sl})->
   s.heap.objs.size<=h'.objs.size->Q () {s with heap:=h'}):
 wpAny M A (do let a <-frameOf env;let pl <-entryPlaceOf L hn;let b <-EntryCells.newEntry hd0 a .none (rawInt L) .none pl;setField (.ref e) 1 b) Q E s:=by
 have ne:e∉frs (env :: outer):=fun z=>by
  obtain⟨_,o,q,nf⟩:=fr.mem z
  rw[ge]at q
  cases q
  exact nf vs de
 refine wpAny_bind (wpAny_frameOf_fun hA fr hL fun h1 so=>?_)
 refine wpAny_bind (wpAny_entryPlaceOf fun pl ip=>?_)
 unfold EntryCells.newEntry newFields
 refine wpAny_bind (wpAny_newObj_type ?_ (ip.sizeOk5 _ _ _ _ _))
 have g1:h1.get? e=some oe:=(so.2.1 e ne).trans ge
 generalize hob:({cls:= .type "traceback",dict:=none,data:= .fields ([hd0,.ref L,.none,rawInt L,.none]++(if pl.isEmpty then List.replicate 6 Value.none else pl)).toArray}:Obj)=ob
 have dob:∃ts:Array Value,ob.data= .fields ts/\ts[3]? =some (rawInt L):=by
  rw[<-hob]
  exact⟨_,rfl,by simp⟩
 have fob:ob.isFreed=false:=by rw[<-hob];rfl
 have g2:(h1.push ob).get? e=some oe:=Heap.get?_push_of_some _ g1
 have net:h1.objs.size≠e:=Nat.ne_of_gt (Heap.lt_size g1)
 refine wpAny_setField g2 de z1 (k _ h1.objs.size (by rw[so.1];exact qO_ _) ?_ (fun b o q n1 n2=>?_) (fun b o q nf=>?_) ?_)
 · have d3:=Obj.data_mapFields de (·.setIfInBounds 1 (Value.ref h1.objs.size))
   obtain⟨ts,q1,q2⟩:=dob
   refine⟨_,_,Heap.get?_update_self _ g2 (Obj.isFreed_of_fields d3),Obj.cls_mapFields _ _,d3,by simp [z1],net,ob,ts,?_,q1,q2⟩
   rw[Heap.get?_update_other _ _ (Ne.symm net)]
   exact Heap.get?_push_size _ fob
 · rw[Heap.get?_update_other _ _ (Ne.symm n2)]
   exact Heap.get?_push_of_some _ ((so.2.1 b n1).trans q)
 · have nb:b≠e:=by
    rintro rfl
    rw[ge]at q
    cases q
    exact nf vs de
   obtain⟨sl,q1⟩:=so.2.2 b o q
   refine⟨sl,?_⟩
   rw[Heap.get?_update_other _ _ (Ne.symm nb)]
   exact Heap.get?_push_of_some _ q1
 · rw[Heap.size_after_update,Heap.size_push,so.1]
   exact Nat.le_succ _
def vd{t:Option (Addr×Value)}{Q:Unit->Shared->Prop}(hA:A.frames=some (env :: outer))(fr:s.heap.FunFrames base (env :: outer))(hL:env.frame=some L)(tr:Tr s.heap e c t)
 (k:∀h' g,tD (frs (env :: outer)) e t g s.heap h'->Tr h' e c (some (g,rawInt L))->Q () {s with heap:=h'}):wpAny M A (noteFrame (.ref e) env) Q E s:=by
 obtain⟨oe,vs,ge,ce,de,ht⟩:=tr
 subst ce
 unfold noteFrame
 simp only[hL]
 cases t with
 |none=>
  refine wpAny_bind (wpAny_field ge de ht ?_)
  rw[if_neg (by decide)]
  refine rm hA fr hL ge de (Array.getElem?_eq_some_iff.mp ht).1 fun h' g hg tr' sm pl sz=>k h' g ⟨fun b o q n1 n2 _=>sm b o q n1 n2,pl,.inr hg,sz⟩ tr'
 |some q=>
  obtain⟨g0,z⟩:=q
  obtain⟨h1,hne,og,ts,gg,dg,h3⟩:=ht
  refine wpAny_bind (wpAny_field ge de h1 ?_)
  rw[if_pos (by rfl)]
  refine wpAny_bind (wpAny_field gg dg h3 ?_)
  by_cases hz:(z==rawInt L)=true
  · rw[if_pos hz]
    have hz':z=rawInt L:=by simpa using hz
    subst hz'
    refine wpAny_pure (k s.heap g0 ⟨fun b o q _ _ _=>q,fun b o q _=>⟨o.slots,q⟩,.inl ⟨_,rfl⟩,qO_ _⟩ ⟨oe,vs,ge,rfl,de,h1,hne,og,ts,gg,dg,h3⟩)
  · rw[if_neg hz]
    refine wpAny_bind (wpAny_setField gg dg (Array.getElem?_eq_some_iff.mp h3).1 ?_)
    have oth:∀b,b≠g0->(s.heap.update g0 (Obj.mapFields (·.setIfInBounds 3 Value.none))).get? b=s.heap.get? b:=fun b n=>Heap.get?_update_other _ _ (Ne.symm n)
    have nog:∀b o,s.heap.get? b=some o->(∀ws,o.data≠.fields ws)->b≠g0:=fun b o q nf w=>by
     rw[w,gg]at q
     cases q
     exact nf ts dg
    refine rm (s:={s with heap:=s.heap.update g0 (Obj.mapFields (·.setIfInBounds 3 Value.none))}) hA (fr.of_keeps fun b o q nf=>⟨o,(oth b (nog b o q nf)).trans q,rfl⟩) hL ((oth e (Ne.symm hne)).trans ge) de (Array.getElem?_eq_some_iff.mp h1).1 fun h' g hg tr' sm pl sz=>?_
    have e0:(s.heap.update g0 (Obj.mapFields (·.setIfInBounds 3 Value.none))).objs.size=s.heap.objs.size:=Heap.size_after_update ..
    refine k h' g ⟨fun b o q n1 n2 n3=>sm b o ((oth b (n3 _ rfl)).trans q) n1 n2,fun b o q nf=>pl b o ((oth b (nog b o q nf)).trans q) nf,.inr (by rw[<-e0];exact hg),by rw[<-e0];exact sz⟩ tr'
def pb{g:Addr}{z:Value}{f:Option Addr}{Q:Unit->Shared->Prop}(tr:Tr s.heap e c (some (g,z)))
 (k:∀h',(∀b o,b≠g->s.heap.get? b=some o->h'.get? b=some o)->Tr h' e c (some (g,f.elim .none fun f=>rawInt f))->s.heap.objs.size<=h'.objs.size->(∀b o,s.heap.get? b=some o->(∀ws,o.data≠.fields ws)->h'.get? b=some o)->Q () {s with heap:=h'}):wpAny M A (setFlight (.ref e) f) Q E s:=by
 obtain⟨oe,vs,ge,ce,de,h1,hne,og,ts,gg,dg,h3⟩:=tr
 unfold setFlight
 refine wpAny_bind (wpAny_field ge de h1 ?_)
 rw[if_pos (by rfl)]
 have z3:=(Array.getElem?_eq_some_iff.mp h3).1
 refine wpAny_setField gg dg z3 (k _ (fun b o n q=>?_) ?_ ?_ fun b o q nf=>?_)
 · rw[Heap.get?_update_other _ _ (Ne.symm n)];exact q
 · have d3:=Obj.data_mapFields dg (·.setIfInBounds 3 (f.elim Value.none fun f=>rawInt f))
   exact⟨oe,vs,by rw[Heap.get?_update_other _ _ hne];exact ge,ce,de,h1,hne,_,_,Heap.get?_update_self _ gg (Obj.isFreed_of_fields d3),d3,by simp [z3]⟩
 · rw[Heap.size_after_update];exact qO_ _
 · have n:b≠g:=by
    rintro rfl
    rw[gg]at q
    cases q
    exact nf ts dg
   rw[Heap.get?_update_other _ _ (Ne.symm n)];exact q
end
def Fly(k:Heap)(H:Hp)(h:Heap)(e:Addr)(c:Value)(t:Option (Addr×Value)):Prop:=Tr h e c t/\H e=none/\k.get? e=none/\∀q,t=some q->H q.1=none/\k.get? q.1=none
def Fly.old{n m:Heap}{H:Hp}{h:Heap}{e:Addr}{c:Value}{t:Option (Addr×Value)}(f:Fly n H h e c t)(hm:∀b o,m.get? b=some o->∃o',n.get? b=some o'):Fly m H h e c t:=by
 have go:∀b,n.get? b=none->m.get? b=none:=fun b z=>by
  cases q:m.get? b with
  |none=>rfl
  |some o=>
   obtain⟨o',w⟩:=hm b o q
   rw[z]at w;cases w
 exact⟨f.1,f.2.1,go _ f.2.2.1,fun q z=>⟨(f.2.2.2 q z).1,go _ (f.2.2.2 q z).2⟩⟩
def CX1(P:Program)(w:World):CXT:=fun outer H s E x s'=>∃e H' c dx t,x= .ref e/\s'.os=s.os/\AllBare s'.gens/\Un (frs outer) [] H H' s.heap s'.heap/\HOk P w H' s'.heap/\Fly s.heap H' s'.heap e c t/\E c dx H'
def XOk(X:Cx)(E:XK):Prop:=∀σ H s e c dx t,L2.Inv X [] σ H s->Fly X.s₀.heap H s.heap e c t->E c dx H->X.xe (.ref e) s
structure Own (X:Cx):Prop where
 stk:X.stack=X.env :: X.outer
 fr:X.env.frame=some X.env.locals
 pn:X.pn=[]
 ex:X.ex=[]
section
variable{X:Cx}{σ:L2.St}{H:Hp}{s:Shared}{e:Addr}{c:Value}{t:Option (Addr×Value)}
def Inv.turn(I:L2.Inv X [] σ H s)(O:Own X)(f:Fly X.s₀.heap H s.heap e c t){g:Addr}{h':Heap}(tn:tD (frs X.stack) e t g s.heap h'):L2.Inv X [] σ H {s with heap:=h'}:=by
 obtain⟨tr,he,ne,nt⟩:=f
 have nex:∀b,b∉X.ex:=fun b z=>by rw[O.ex]at z;simp at z
 have fro:∀b,b∈frs X.stack->∃o,s.heap.get? b=some o/\∀vs,o.data≠.fields vs:=fun b hb=>(I.stack.mem hb).2
 have sub:∀b,b∈X.fs->b∈frs X.stack:=fun b hb=>by
  rw[O.stk]
  unfold frs
  rw[List.filterMap_cons,O.fr]
  exact qR_ _ hb
 have older:∀b o,X.s₀.heap.get? b=some o->b≠e/\(∀q,t=some q->b≠q.1)/\b≠X.env.locals:=fun b o q=>
  ⟨fun z=>(by rw[z,ne]at q;cases q),fun p w z=>(by rw[z,(nt p w).2]at q;cases q),Nat.ne_of_lt (qd_ (Heap.lt_size q) I.ok.above)⟩
 have cel:∀{d:Addr} {v:Option Value},s.heap.IsCell d v->h'.IsCell d v:=fun {d v} ⟨o,q,dd⟩=>by
  obtain⟨sl,z⟩:=tn.plain d o q fun ws w=>by rw[dd]at w;cases w
  exact⟨_,z,dd⟩
 refine⟨I.ok,I.os,I.bare,⟨fun b o q n nf nx=>?_,fun b o q n hf nx=>?_,I.base.free,fun b o q nx=>?_,I.base.mE,I.base.nK,I.base.pv⟩,?_,fun x d q=>?_,I.free,I.gf,fun p hp=>?_,fun b u q=>?_,I.len⟩
 · obtain⟨n1,n2,n3⟩:=older b o q
   refine tn.same b o (I.base.keep b o q n nf nx) (fun z=>?_) n1 n2
   rcases qS_.mp (I.j7 b z)with w |w
   · exact n3 w
   · exact nf w
 · obtain⟨sl,q1⟩:=I.base.slot b o q n hf nx
   obtain⟨o',q2,nf⟩:=fro b (sub b hf)
   rw[q1]at q2;cases q2
   obtain⟨sl2,z⟩:=tn.plain b _ q1 nf
   exact⟨sl2,z⟩
 · obtain⟨n1,n2,n3⟩:=older b o q
   obtain⟨o1,q1⟩:=I.base.there b o q nx
   by_cases hf:b∈frs X.stack
   · obtain⟨o',q2,nf⟩:=fro b hf
     obtain⟨sl,z⟩:=tn.plain b o' q2 nf
     exact⟨_,z⟩
   · exact⟨o1,tn.same b o1 q1 hf n1 n2⟩
 · obtain⟨m,⟨o,es,ep,q,d,r⟩,hm⟩:=I.loc
   obtain⟨sl,z⟩:=tn.plain _ o q fun ws w=>by rw[d]at w;cases w
   refine⟨m,⟨_,es,ep,z,d,r⟩,fun i x v h1 h2 h3=>?_⟩
   obtain⟨u,ru,lk⟩:=hm i x v h1 h2 h3
   refine⟨u,ru,?_⟩
   rcases lk with lk |⟨k,d',hd,ic⟩
   · exact .inl lk
   · exact .inr ⟨k,d',hd,cel ic⟩
 · obtain⟨v,w⟩:=I.cell x d q
   exact⟨v,cel w⟩
 · rw[O.pn]at hp;simp at hp
 · refine(I.hok b u q).jd (fun d v hc w=>?_) (fun _ z=>z) fun _ _ z=>z
   have hd:∃u',H d=some u':=by
    rcases hc with z |z
    · rw[z];exact⟨u,q⟩
    · exact⟨_,z⟩
   obtain⟨u',hu'⟩:=hd
   refine tn.same d v w (fun z=>?_) (fun z=>?_) fun p y z=>?_
   · rw[I.oF d z]at hu';cases hu'
   · rw[z,he]at hu';cases hu'
   · rw[z,(nt p y).1]at hu';cases hu'
def Fly.turn(I:L2.Inv X [] σ H s)(f:Fly X.s₀.heap H s.heap e c t){g:Addr}{z:Value}{h':Heap}{fs:List Addr}(tn:tD fs e t g s.heap h')(tr:Tr h' e c (some (g,z))):Fly X.s₀.heap H h' e c (some (g,z)):=by
 refine⟨tr,f.2.1,f.2.2.1,fun q w=>?_⟩
 cases w
 rcases tn.head with ⟨y,w⟩ |w
 · exact f.2.2.2 (g,y) w
 · exact⟨I.hok.fresh w,Heap.get?_none_of_le (Nat.le_trans I.sz w)⟩
def Bx{M:Model}{A:Around}{EE:Value->Shared->Prop}{Q:Unit->Shared->Prop}(O:Own X)(hA:A.frames=some X.stack)(I:L2.Inv X [] σ H s)(f:Fly X.s₀.heap H s.heap e c t)
 (k:∀h' g,L2.Inv X [] σ H {s with heap:=h'}->Fly X.s₀.heap H h' e c (some (g,rawInt X.env.locals))->Q () {s with heap:=h'}):wpAny M A (noteFrame (.ref e) X.env) Q EE s:=by
 have fr:=I.stack
 rw[O.stk]at fr hA
 refine vd hA fr O.fr f.1 fun h' g tn tr=>k h' g (Inv.turn I O f (by rw[O.stk];exact tn)) (Fly.turn I f tn tr)
def xf{M:Model}{A:Around}{EE:Value->Shared->Prop}{Q:Unit->Shared->Prop}{g:Addr}{z:Value}{fo:Option Addr}(O:Own X)(I:L2.Inv X [] σ H s)(f:Fly X.s₀.heap H s.heap e c (some (g,z)))
 (k:∀h',L2.Inv X [] σ H {s with heap:=h'}->Fly X.s₀.heap H h' e c (some (g,fo.elim .none fun f=>rawInt f))->Q () {s with heap:=h'}):wpAny M A (setFlight (.ref e) fo) Q EE s:=
 pb f.1 fun h' sm tr sz pl=>k h' (Inv.turn (g:=g) I O f ⟨fun b o q _ _ n=>sm b o (n _ rfl) q,fun b o q nf=>⟨o.slots,pl b o q nf⟩,.inl ⟨_,rfl⟩,sz⟩) ⟨tr,f.2.1,f.2.2.1,fun q w=>by cases w;exact f.2.2.2 (g,z) rfl⟩
def BR{E:XK}(O:Own X)(h:XOk X E):fm (CX1 X.prog X.w) X E:=by
 rintro pins σ H s x s' I ⟨e,H',c,dx,t,rfl,os,bare,un,hok,f,q⟩
 have I':L2.Inv X pins σ H' s':=I.zY (ch:=[]) os un hok bare (fun b z=>absurd z (by simp))
 have I0:L2.Inv X [] σ H' s':=I'.oO fun p hp=>absurd hp (by simp)
 exact h σ H' s' e c dx t I0 (f.old fun b o z=>I.base.there b o z (by rw[O.ex];simp)) q
end
def jJ{P:Program}{w:World}{K:PySem.W.Frag}{mg:Str->Option Value}{base:Heap}{N:List Str}{qual:Str}{scope:Scope}{fa:Addr}{cd:Value}{A:Around}{outer:List Env}{s:Shared}{H:Hp}{E:XK}:
 XOk (lA (CX1 P w) P w K mg base N qual scope fa cd A outer s H E) E:=by
 intro σ H' s' e c dx t I f q
 have O:Own (lA (CX1 P w) P w K mg base N qual scope fa cd A outer s H E):=⟨rfl,rfl,rfl,rfl⟩
 show wpAny _ _ (leaving _ _) _ _ _
 unfold leaving
 refine wpAny_bind (Bx O I.ok.frames I f fun h1 g I1 f1=>?_)
 refine xf O I1 f1 fun h2 I2 f2=>?_
 exact⟨e,H',c,dx,_,rfl,I2.os,I2.bare,I2.base,I2.hok,f2,q⟩
def kc{CX:CXT}{P:Program}{w:World}{K:PySem.W.Frag}{mg:Str->Option Value}{base:Heap}{N:List Str}{qual:Str}{scope:Scope}{fa:Addr}{cd:Value}{A:Around}{outer:List Env}{s:Shared}{H:Hp}{E:XK}:
 Own (lA CX P w K mg base N qual scope fa cd A outer s H E):=⟨rfl,rfl,rfl,rfl⟩
def uf{CX:CXT}{P:Program}{w:World}{K:PySem.W.Frag}{mg:Str->Option Value}{base:Heap}{N:List Str}{qual:Str}{scope:Scope}{fa:Addr}{cd:Value}{A:Around}{outer:List Env}{s:Shared}{H:Hp}{E:XK}:
 PassesOwn (model P w) (lA CX P w K mg base N qual scope fa cd A outer s H E).A (lA CX P w K mg base N qual scope fa cd A outer s H E).env (lA CX P w K mg base N qual scope fa cd A outer s H E).xe:=by
 intro x s' h
 have h:wpAny (model P w) (A.deeper (envOfC qual scope s.heap.objs.size fa cd)) (leaving (envOfC qual scope s.heap.objs.size fa cd) x) (fun _ s''=>CX outer H s E x s'') (fun e' s''=>CX outer H s E e' s'') s':=h
 exact PassesOwn.leaving (Q₁:=fun x s''=>CX outer H s E x s'') x s' h
section
variable{T:Tab}
def fT{P:Program}{w:World}{K:PySem.W.Frag}{mg:Str->Option Value}{base:Heap}{x qual:Str}{st:Stmt}{fa:Addr}{fd:FuncData}{N ps:List Str}{k n:Nat}{pad:M3.St}{body:M3.S3}(F:Fun K x qual st fa fd)(S:aq N ps (aj st))
 (hn:ps.length=n) (hpad:pad=List.replicate (N.length - n) none)
 (h:∀(cdv:Value) (A:Around) (outer:List Env) (s:Shared) (H:Hp) (E:XK),dC k (A.deeper (envOfC qual (aj st) s.heap.objs.size fa cdv))->PSs (lA (CX1 P w) P w K mg base N qual (aj st) fa cdv A outer s H E) (gj st) (tS T K (EX.of T K E) body)):
 aQ P w K mg base (CX1 P w) (k+1) fa fd ps (sp3 T K n (M3.fnM n pad body)):=by
 obtain⟨oc,od,kV,doc,pm,an,cdv,ct,osl,rfl,lk,hcd⟩:=F.ex
 refine Ep lk hcd S (fun vs H Q E q=>by rw[hn];exact q.1) fun A outer s H vs Q E hr q=>⟨_,h cdv A outer s H E hr,?_⟩
 obtain⟨hl,μ,ds,G,Sm,d,q⟩:=q
 unfold M3.fnM at q
 obtain⟨c,q⟩:=jB q
 have e1:L2.start N vs=vs.map some++List.replicate (N.length - n) none:=by unfold L2.start;rw[hl]
 rw[e1]
 refine⟨μ,_,G,Sm,by rw[hpad];exact StD.start _ d,cD (M3.aS q) fun r G1 q1 σ' H' μ' u S' sd'=>?_⟩
 obtain⟨fl,σ2⟩:=r
 cases fl with
 |next=>exact q1 .non H' μ' u S' rfl
 |brk=>exact False.elim q1
 |cont=>exact False.elim q1
 |ret d=>exact fun v dv=>q1 v H' μ' u S' dv
end
def bR.at{P:Program}{w:World}{H:Hp}{h:Heap}{a:Addr}{o:HO}(x:bR P w H h a o):∃u,h.get? a=some u:=by
 cases o with
 |lst xs=>obtain⟨_,_,_,_,z⟩:=x;exact⟨_,z⟩
 |tup xs=>
  obtain⟨_,_,_,z⟩:=x
  obtain⟨u,z,_⟩:=z
  exact⟨u,z⟩
 |dK kvs=>obtain⟨_,_,_,_,_,_,_,z,_⟩:=x;exact⟨_,z⟩
 |dT kvs=>obtain⟨_,_,_,_,_,_,_,z,_⟩:=x;exact⟨_,z⟩
 |set S n=>obtain⟨_,_,_,_,z,_⟩:=x;exact⟨_,z⟩
 |ins C dx fs=>obtain⟨_,_,_,z,_⟩:=x;exact⟨_,z⟩
 |own y=>exact x
 |xd fs=>obtain⟨_,⟨_,_,_,z,_⟩,_⟩:=x;exact⟨_,z⟩
 |rng lo hi=>obtain⟨_,_,_,z⟩:=x;exact⟨_,z⟩
 |frz ob u=>exact⟨_,x.1⟩
 |tbl ps=>exact⟨_,x⟩
 |met f y=>exact⟨_,x⟩
 |ext φ=>exact x.2.1
def veM:List Value:=[.type "ValueError",.type "Exception",.type "BaseException",.type "object"]
structure XCl (K:PySem.W.Frag) (mg:Str->Option Value) (x:Str) (C:Addr):Prop where
 bd:mg x=some (.ref C)
 ex:PySem.W.excIn K C veM "ValueError.__new__"=true
def XCl.obj{K:PySem.W.Frag}{mg:Str->Option Value}{x:Str}{C:Addr}(z:XCl K mg x C){h₁:Heap}(X₁:K.In h₁):
 ∃bm N nm q bs hdct sn sub ab col dd k0 k1 k2 k3 k5 mN,∀h:Heap,K.In h->h.get? C=some (excClassObj nm q C N bs bm hdct sn sub ab col dd k0 k1 k2 k3 k5 "ValueError.__new__")/\h.Ns N mN/\mN "__init__"=none/\OwnTail h veM bm:=by
 have q:=z.ex
 unfold PySem.W.excIn at q
 split at q
 case h_2=>cases q
 rename_i dd cd sl at_
 split at q
 case h_2=>cases q
 rename_i C' bm k0 k1 k2 k3 n k5 em es
 simp only[Bool.and_eq_true,beq_iff_eq,Bool.not_eq_true']at q
 obtain⟨⟨⟨⟨⟨e1,e2⟩,e3⟩,e4⟩,e5⟩,e6⟩:=q
 subst e1 e2
 obtain⟨nm,bs,mro,ns,qn,hd,sn,sub,ab,col,del⟩:=cd
 have em:mro= .ref C' :: bm:=em
 have e3:del=false:=e3
 subst em e3
 have e7:sl=#[k0,k1,k2,k3,some (.builtin "ValueError.__new__"),k5]:=by
  cases sl with
  |mk l=>exact congrArg Array.mk es
 subst e7
 have n1:h₁.Ns ns (h₁.nsMap ns):= .of_isNs (PySem.W.isNs_of_in X₁ e5)
 refine⟨bm,ns,nm,qn,bs,hd,sn,sub,ab,col,dd,k0,k1,k2,k3,k5,h₁.nsMap ns,fun h Xh=>⟨Xh _ _ at_,?_,PySem.W.nsMap_none_of_in X₁ e5 e6,PySem.W.tail_of_in Xh e4⟩⟩
 refine n1.at fun o eo=>?_
 have e5:=e5
 unfold PySem.W.nsOkIn at e5
 split at e5
 case h_2=>cases e5
 rename_i lk
 have:=X₁ _ _ lk
 rw[eo]at this
 cases this
 exact Xh _ _ lk
section
variable{X:Cx}{T:Tab}{E:XK}
def zI{σ:L2.St}{H:Hp}{s:Shared}{pins:List (Addr×Obj)}{h':Heap}{e C:Addr}{us:List Value}{dx:Option Addr}(O:Own X)(ok:XOk X E)(I:L2.Inv X pins σ H s)(m:Heap.MadeExcOf s.heap h' e (.ref C) us)(q:E (.ref C) dx H):X.xe (.ref e) {s with heap:=h'}:=by
 have I1:L2.Inv X pins σ H {s with heap:=h'}:=I.kept (t':=s.toks) m.keeps
 have I0:L2.Inv X [] σ H {s with heap:=h'}:=I1.oO fun p hp=>absurd hp (by simp)
 obtain⟨t,g,_,_⟩:=m.there
 refine ok σ H _ e (.ref C) dx none I0 ⟨⟨_,_,g,rfl,rfl,rfl⟩,?_,?_,fun q z=>nomatch z⟩ q
 · cases z:H e with
   |none=>rfl
   |some u=>
    obtain⟨u',w⟩:=bR.at (I.hok e u z)
    rw[m.new]at w;cases w
 · cases z:X.s₀.heap.get? e with
   |none=>rfl
   |some o=>
    obtain⟨o',w⟩:=I.base.there e o z (by rw[O.ex];simp)
    rw[m.new]at w;cases w
variable{x:Str}{np cpos pos:Pos}{e0:Expr}{es:List Expr}{fa:M3.A3}{c:Nat}{C:Addr}
def y_raise(O:Own X)(ok:XOk X E)(hh:X.A.handled=none)(k:XCl X.K X.mg x C)(hc:T.cls c=some C)(ha:PA X (e0 :: es) (tA T X.K (EX.of T X.K E) fa))(hg:Gl X x:=by rfl)(hdb:(x==("__debug__":Str))=false:=by decide)
 (he:starEach (e0 :: es) X.env=(false,eval e0 X.env) :: starEach es X.env:=by rfl) (hpl:(backTo cpos (starEach es X.env)).any (·.1)=false:=by rfl):PS X (.Raise (some (.Call (.Name x np) (e0 :: es) [] cpos)) none pos) (tS T X.K (EX.of T X.K E) (M3.md c fa)):=by
 intro pins s σ H D I ⟨μ,σ3,G,S,sd,h⟩
 obtain⟨bm,N,nm,q,bs,hdct,sn,sub,ab,col,dd,k0,k1,k2,k3,k5,mN,hk⟩:=k.obj I.kIn
 obtain⟨hC,hN,hni,tl⟩:=hk s.heap I.kIn
 have hbase:bm.contains (.type "BaseException")=true:=tl.hasType (by decide)
 refine wpAny_Raise_call_subT (C:=C) (nm:=nm) (q:=q) (N:=N) (bs:=bs) (bm:=bm) (hdct:=hdct) (sn:=sn) (sub:=sub) (ab:=ab) (col:=col) (dd:=dd) (k0:=k0) (k1:=k1) (k2:=k2) (k3:=k3) (k5:=k5) (bmB:=veM) PySem.F.excBase_ValueError (mN:=mN) hbase hh
  (by rw[he];show (false||(backTo cpos (starEach es X.env)).any (·.1))=false;rw[hpl];rfl) hni (kJ I hg k.bd ⟨rfl,?_⟩ hdb)
 have key:=ha cpos pins s σ H (fun vs H1=>vs.length<=sizeLine/\∃dx,E (.ref C) dx H1) I ⟨μ,σ3,G,S,sd,nX h fun ds G1 vs H1 μ1 u1 S1 d1 h1=>?_⟩
 · rw[he]at key ⊢
   refine Calls.evalArgs_plain (thn key fun us s2 ⟨vs,H1,I1,r1,hl,dx,q1⟩=>?_)
   obtain⟨hC',hN',hni',tl'⟩:=hk s2.heap I1.kIn
   exact⟨rfl,by rw[<-r1.length];exact hl,hC',hN',tl',fun h' e m=>zI O ok I1 m q1⟩
 · obtain⟨hl,h1⟩:=jB h1
   exact⟨by rw[<-d1.length,<-cB];exact hl,none,h1 C none H1 μ1 hc (Up.refl _ _) S1⟩
end
theorem jS{α β:Type} [BEq α] [LawfulBEq α]:∀{l:List (α×β)} {a:α} {b:β},l.lookup a=some b->(a,b)∈l
 | [],_,_,h=>by cases h
 |(c,d) :: r,a,b,h=>by
  rw[List.lookup_cons]at h
  cases q:a==c with
  |true=>
   rw[q]at h
   cases h
   rw[eq_of_beq q]
   exact qI_
  |false=>
   rw[q]at h
   exact qR_ _ (jS h)
def Blk.of{X:Cx}{x:Str}{caps:List (Str×Nat)}{scope:Scope}{cl:List (Str×Addr)}(kind:scope.kind= .function)(h1:(scope.names.all fun y=>decide (y.2≠.cell))=true)
 (h2:(scope.names.all fun y=>decide (y.2= .local->scope.names.lookup y.1=some .local))=true) (own:scope.names.lookup x=some .local) (Dx:closureFor scope X.env=pure cl) (nd:(x :: caps.map (·.1)).Nodup)
 (sub:(cl.map fun p=>X.env.cells.lookup p.1)=cl.map fun p=>some p.2) (has:((relabel scope X.env).names.all fun p=>decide ((p.2= .cell\/p.2= .free)->(cl.lookup p.1).isSome=true))=true) (nox:cl.lookup x=none)
 (cap1:(caps.map fun p=>X.N[p.2]?)=caps.map fun p=>some p.1) (cap2:(caps.all fun p=>decide ((X.env.kindOf p.1=some .cell\/X.env.kindOf p.1=some .free)/\((relabel scope X.env).names.lookup p.1=some .cell\/(relabel scope X.env).names.lookup p.1=some .free)))=true):Blk X x caps scope cl:=by
 refine⟨kind,fun y hy=>of_decide_eq_true (List.all_eq_true.mp h1 y hy),fun y hy=>of_decide_eq_true (List.all_eq_true.mp h2 y hy),own,Dx,nd,fun y c e=>?_,fun y hy=>?_,nox,fun j y i e=>?_⟩
 · have m:=jS e
   obtain⟨j,hj,e1⟩:=List.getElem_of_mem m
   have e2:=congrArg (·[j]?) sub
   simp only[qQ_,qA_ hj,e1,Option.map_some]at e2
   exact Option.some.inj e2
 · have go:∀k,(relabel scope X.env).names.lookup y=some k->(k= .cell\/k= .free)->∃c,cl.lookup y=some c:=fun k hk hz=>
    Option.isSome_iff_exists.mp (of_decide_eq_true (List.all_eq_true.mp has _ (jS hk)) hz)
   rcases hy with z |z
   · exact go _ z (.inl rfl)
   · exact go _ z (.inr rfl)
 · have hm:(y,i)∈caps:=qD_ e
   obtain⟨q1,q2⟩:=of_decide_eq_true (List.all_eq_true.mp cap2 _ hm)
   refine⟨?_,q1,q2⟩
   have e2:=congrArg (·[j]?) cap1
   simp only[qQ_,e,Option.map_some]at e2
   exact Option.some.inj e2
def yn{Z:Nat->M3.Hh->Prop}{n:Nat}{y:M3.D}{G:M3.Hh}{P:M3.D->M3.Hh->Prop}(h:M3.run (M3.iU (.ref n) y) G P Z):∃m xs ys,y= .ref m/\G[n]? =some (.lst xs)/\G[m]? =some (.lst ys)/\xs.length+ys.length<=M3.aC/\P .non (G.set n (.lst (xs++ys))):=by
 unfold M3.run M3.iU at h
 cases y with
 |ref m=>
  dsimp only at h
  cases q:G[n]? with
  |none=>rw[q]at h;exact False.elim h
  |some o=>
   rw[q]at h
   cases q2:G[m]? with
   |none=>rw[q2]at h;cases o <;> exact False.elim h
   |some o2=>
    rw[q2]at h
    cases o with
    |lst xs=>
     cases o2 with
     |lst ys=>
      dsimp only at h
      by_cases c:xs.length+ys.length<=M3.aC
      · rw[if_pos c]at h;exact⟨m,xs,ys,rfl,rfl,q2,c,h⟩
      · rw[if_neg c]at h;exact False.elim h
     |_=>exact False.elim h
    |_=>exact False.elim h
 |_=>exact False.elim h
def Bw{Z:Nat->M3.Hh->Prop}{n:Nat}{y:M3.D}{G:M3.Hh}{P:M3.D->M3.Hh->Prop}(h:M3.run (M3.mh (.ref n) y) G P Z):∃i xs k z,y= .int i/\G[n]? =some (.lst xs)/\M3.ixN xs.length i=some k/\xs[k]? =some z/\-(2 ^ 62)<=i/\i < 2 ^ 62/\P z (G.set n (.lst (xs.eraseIdx k))):=by
 unfold M3.run M3.mh at h
 cases y with
 |int i=>
  dsimp only at h
  cases q:G[n]? with
  |none=>rw[q]at h;exact False.elim h
  |some o=>
   rw[q]at h
   cases o with
   |lst xs=>
    dsimp only at h
    cases qk:M3.ixN xs.length i with
    |none=>rw[qk]at h;exact False.elim h
    |some k=>
     rw[qk]at h
     dsimp only at h
     cases qz:xs[k]? with
     |none=>rw[qz]at h;exact False.elim h
     |some z=>
      rw[qz]at h
      dsimp only at h
      by_cases c:-(2 ^ 62)<=i/\i < 2 ^ 62
      · rw[if_pos c]at h;exact⟨i,xs,k,z,rfl,rfl,qk,qz,c.1,c.2,h⟩
      · rw[if_neg c]at h;exact False.elim h
   |_=>exact False.elim h
 |_=>exact False.elim h
theorem az.erase{K:PySem.W.Frag}{μ:List Addr}{H:Hp}:∀{ds:List M3.D} {vs:List V} (k:Nat),az K H μ ds vs->az K H μ (ds.eraseIdx k) (vs.eraseIdx k)
 | [],vs,k,h=>by cases (show vs=[]from h);simp [az]
 |_ :: ds,_,0,⟨v,r,e,h,t⟩=>by subst e;exact t
 |_ :: ds,_,k+1,⟨v,r,e,h,t⟩=>by subst e;exact⟨v,r.eraseIdx k,rfl,h,az.erase k t⟩
section
variable{X:Cx}{T:Tab}{Y:EX}{o e:Expr}{fa fb:M3.E3}{pos apos:Pos}
def mv(ho:PE X o (tE T X.K Y fa))(he:PE X e (tE T X.K Y fb))
 (hbase:attributeBase o "extend" X.env (eval o X.env)=eval o X.env:=by rfl)
 (hfew:((backTo pos (starEach (e :: []) X.env)).all (fun x=>!x.1)&&(backToKw pos (keywordEach [] X.env)).all (fun x=>x.1.isSome)&&decide ((e :: ([]:List Expr)).length+([]:List Keyword).length+(if ([]:List Keyword).isEmpty then 0 else 1) < 30))=true:=by rfl)
 (hline:(apos.endLine==pos.line)=true:=by rfl) (hs:starEach (e :: []) X.env=(false,eval e X.env) :: starEach [] X.env:=by rfl) (hplain:(backTo pos (starEach [] X.env)).any (·.1)=false:=by rfl):
 PE X (.Call (.Attribute o "extend" apos) [e] [] pos) (tE T X.K Y (M3.vm fa fb)):=by
 refine PE.of (Bs PySem.F.plainAttrs_list PySem.F.slot_list_extend PySem.F.type_list_extend yV ho (dU he jA hs) hbase hfew hline hs hplain) fun σ H Q ⟨μ,σ3,G,S,sd,h⟩=>⟨μ,σ3,G,S,sd,bG h fun d G1 v H1 μ1 u1 S1 d1 h1=>?_⟩
 obtain⟨n,xs,rfl,q,h1⟩:=wq (M3.aS h1)
 obtain⟨a,ea,rfl⟩:=id d1
 obtain⟨vs,e1,r1⟩:=S1.obj n a _ ea q
 refine⟨.inl ⟨rfl,vs,SqL.of e1⟩,μ1,σ3,G1,S1,sd.up u1,bG h1 fun y G2 w H2 μ2 u2 S2 d2 h2=>?_⟩
 obtain⟨m,xs2,ys2,rfl,q2,q3,hl,h3⟩:=yn h2
 have ea2:=u2.at ea
 obtain⟨b,eb,rfl⟩:=id d2
 obtain⟨vs2,e2,r2⟩:=S2.obj n a _ ea2 q2
 obtain⟨ws2,e3,r3⟩:=S2.obj m b _ eb q3
 have up:=Up.set S2 (.lst (vs2++ws2)) ea2 q2 rfl
 refine⟨a,b,vs2,ws2,rfl,rfl,e2,e3,by rw[<-r2.length,<-r3.length,<-cB];exact hl,?_⟩
 exact h3 _ _ μ2 ((u1.trans u2).trans up) (S2.set ea2 q2 rfl rfl ⟨_,aO,az.up up (r2.append r3)⟩) rfl
def xr(ho:PE X o (tE T X.K Y fa))(he:PE X e (tE T X.K Y fb))
 (hbase:attributeBase o "pop" X.env (eval o X.env)=eval o X.env:=by rfl)
 (hfew:((backTo pos (starEach (e :: []) X.env)).all (fun x=>!x.1)&&(backToKw pos (keywordEach [] X.env)).all (fun x=>x.1.isSome)&&decide ((e :: ([]:List Expr)).length+([]:List Keyword).length+(if ([]:List Keyword).isEmpty then 0 else 1) < 30))=true:=by rfl)
 (hline:(apos.endLine==pos.line)=true:=by rfl) (hs:starEach (e :: []) X.env=(false,eval e X.env) :: starEach [] X.env:=by rfl) (hplain:(backTo pos (starEach [] X.env)).any (·.1)=false:=by rfl):
 PE X (.Call (.Attribute o "pop" apos) [e] [] pos) (tE T X.K Y (M3.tY fa fb)):=by
 refine PE.of (Bs PySem.F.plainAttrs_list PySem.F.slot_list_pop PySem.F.type_list_pop AH ho (dU he jA hs) hbase hfew hline hs hplain) fun σ H Q ⟨μ,σ3,G,S,sd,h⟩=>⟨μ,σ3,G,S,sd,bG h fun d G1 v H1 μ1 u1 S1 d1 h1=>?_⟩
 obtain⟨n,xs,rfl,q,h1⟩:=wq (M3.aS h1)
 obtain⟨a,ea,rfl⟩:=id d1
 obtain⟨vs,e1,r1⟩:=S1.obj n a _ ea q
 refine⟨.inl ⟨rfl,vs,SqL.of e1⟩,μ1,σ3,G1,S1,sd.up u1,bG h1 fun y G2 w H2 μ2 u2 S2 d2 h2=>?_⟩
 obtain⟨i,xs2,k,z,rfl,q2,qk,qz,hi,hj,h3⟩:=Bw h2
 have ea2:=u2.at ea
 obtain⟨vs2,e2,r2⟩:=S2.obj n a _ ea2 q2
 obtain⟨zv,ez,dz⟩:=r2.get qz
 rw[r2.length]at qk
 have sq:=tO (show L2.ixN vs2.length i=some k from qk)
 have up:=Up.set S2 (.lst (vs2.eraseIdx k)) ea2 q2 rfl
 have ei:w=V.int i:=d2
 subst ei
 refine⟨a,vs2,i,k,zv,rfl,rfl,e2,by omega,by omega,sq.1,ez,?_⟩
 exact h3 _ _ μ2 ((u1.trans u2).trans up) (S2.set ea2 q2 rfl rfl ⟨_,aO,az.up up (az.erase k r2)⟩) (Den.up up dz)
end
theorem oV:∀{kvs:List (L2.Key×V)} {vs:List (L2.Key×Value)},KV kvs vs->Vals (kvs.map (·.2)) (vs.map (·.2))
 |_,_,.nil=>.nil
 |_,_,.cons r t=>.cons r.2 (oV t)
section
variable{X:Cx}{T:Tab}{Y:EX}{o:Expr}{fa:M3.E3}{p pos apos ipos:Pos}
def uq{to:TE}(hc:X.A.handled=none)(ho:PE X o to)(hm:X.mg "list"=none)(hg:Gl X "list":=by rfl)
 (hbase:attributeBase o "values" X.env (eval o X.env)=eval o X.env:=by rfl) (hline:(apos.endLine==ipos.line)=true:=by rfl)
 (he:starEach [.Call (.Attribute o "values" apos) [] [] ipos] X.env=(false,eval (.Call (.Attribute o "values" apos) [] [] ipos) X.env) :: starEach [] X.env:=by rfl) (hpl:(backTo pos (starEach [] X.env)).any (·.1)=false:=by rfl):
 PE X (.Call (.Name "list" p) [.Call (.Attribute o "values" apos) [] [] ipos] [] pos) (fun σ H Q=>to σ H fun x H1=>∃a kvs,x= .ref a/\H1 a=some (.dK kvs)/\∀l,H1 l=none->Q (.ref l) (upd H1 l (.lst (kvs.map (·.2))))):=by
 intro pins s σ H Q I h
 refine wpAny_Call_Name_kw (nL I hg hm boot_list ?_ (by decide) (by decide))
 refine PyProof.Rows.callWith_type1 (Q:=EP X pins σ Q) ?_ he hpl
 rw[he]
 show wpAny _ _ (spliced ((false,eval (.Call (.Attribute o "values" apos) [] [] ipos) X.env) :: backTo pos (starEach [] X.env))) _ _ s
 refine Calls.spliced_cons ?_
 refine wpAny_Call_method0_late hbase hline (thn (ho pins s σ H _ I h) fun v s1 ⟨x,H1,I1,r1,a,kvs,e,ha,q⟩=>?_)
 subst e
 cases r1
 obtain⟨h1,h2⟩:=vP I1 (x:= .ref a) rfl (T:="dict") (.inr (.inr (.inl ⟨rfl,.inl ⟨kvs,ha⟩⟩)))
 refine⟨"dict","dict.values",PySem.F.plainAttrs_dict,PySem.F.slot_dict_values,PySem.F.type_dict_values,h1,h2,Calls.callWith_builtin rfl (PySem.evalArgs_none ?_)⟩
 obtain⟨hz,hS,vs,rv,dd⟩:=zW I1.hok ha
 refine call_meetsIn PySem.F.slot_dict_values dd.typeIs PySem.F.entry_dict_values (PySem.F.args_dict_values_1 _) (meets_dict_values (bW X.prog X.w) a hS) ⟨⟨vs,dd⟩,?_⟩
 show wpAny _ _ (spliced []) _ _ _
 refine Calls.spliced_nil ?_
 have I2:L2.Inv X pins σ H1 {s1 with heap:=s1.heap.push {cls:= .type "dict_values",data:= .fields #[.ref a]}}:=I1.kept (t':=s1.toks) fun b u e=>Heap.get?_push_of_some _ e
 obtain⟨ep,hat⟩:=dd.dictAt
 refine PySem.W.kdl_call (PySem.W.kdl_values (knd:=bW X.prog X.w) (d:=a) (r:=s1.heap.objs.size) (kvs:=vs) (ep:=ep)) hc ⟨⟨_,Heap.get?_push_size _ rfl,rfl,rfl⟩,hat.push _⟩ (by rw[<-rv.length];exact hz) fun h' tk acc c' hk hS' items=>?_
 have ev:acc.toList=vs.map (·.2):=PySem.W.kdl_vals_eq acc.toList (by rw[Array.length_toList];exact items.1) fun j v e=>items.2 j v (by rw[<-Array.getElem?_toList];exact e)
 have rr:Vals (kvs.map (·.2)) acc.toList:=by rw[ev];exact oV rv
 refine⟨.ref (s1.heap.push {cls:= .type "dict_values",data:= .fields #[.ref a]}).objs.size,_,I2.laid (t':=tk) hk (qO_ _) (show bR X.prog X.w _ h' _ (.lst (kvs.map (·.2)))from⟨by rw[qM_];exact hz,acc.toList,c',rr,by rw[Array.toArray_toList];exact hS'⟩),rfl,q _ (I2.hok.fresh (qO_ _))⟩
theorem az.D0{K:PySem.W.Frag}{H:Hp}{μ:List Addr}:∀{kvs:List (M3.Key×M3.D)} {ws:List (L2.Key×V)},Paired (fun(p:M3.Key×M3.D) (q:L2.Key×V)=>p.1=q.1/\Den K H μ p.2 q.2) kvs ws->az K H μ (kvs.map (·.2)) (ws.map (·.2))
 |_,_,.nil=>rfl
 |_,_,.cons r t=>⟨_,_,rfl,r.2,az.D0 t⟩
def wm(hc:X.A.handled=none)(ho:PE X o (tE T X.K Y fa))(hm:X.mg "list"=none)(hg:Gl X "list":=by rfl)
 (hbase:attributeBase o "values" X.env (eval o X.env)=eval o X.env:=by rfl) (hline:(apos.endLine==ipos.line)=true:=by rfl)
 (he:starEach [.Call (.Attribute o "values" apos) [] [] ipos] X.env=(false,eval (.Call (.Attribute o "values" apos) [] [] ipos) X.env) :: starEach [] X.env:=by rfl) (hpl:(backTo pos (starEach [] X.env)).any (·.1)=false:=by rfl):
 PE X (.Call (.Name "list" p) [.Call (.Attribute o "values" apos) [] [] ipos] [] pos) (tE T X.K Y (M3.AV fa)):=by
 refine PE.of (uq hc ho hm hg hbase hline he hpl) fun σ H Q ⟨μ,σ3,G,S,sd,h⟩=>⟨μ,σ3,G,S,sd,bG h fun d G1 v H1 μ1 u1 S1 d1 h1=>?_⟩
 unfold M3.run M3.vB at h1
 cases d with
 |ref n=>
  dsimp only at h1
  obtain⟨a,ea,rfl⟩:=id d1
  cases q:G1[n]? with
  |none=>rw[q]at h1;exact False.elim h1
  |some ob=>
   have od:=S1.obj n a ob ea q
   rw[q]at h1
   cases ob with
   |dK kvs=>
    obtain⟨ws,e1,r⟩:=od
    refine⟨a,ws,rfl,e1,fun l hl=>?_⟩
    have up:=Up.new (μ:=μ1) (.lst (ws.map (·.2))) hl
    exact h1 _ _ (μ1++[l]) (u1.trans up) (S1.new hl rfl ⟨_,aO,az.up up (az.D0 r)⟩) ⟨l,by rw[<-S1.len];simp,rfl⟩
   |_=>exact False.elim h1
 |_=>exact False.elim h1
end
def ApP(pins:List (Addr×Obj))(e:Addr)(t:Option (Addr×Value)):Prop:=∀p∈pins,p.1≠e/\∀q,t=some q->p.1≠q.1
section
variable{X:Cx}{σ:L2.St}{H:Hp}{s:Shared}{e:Addr}{c:Value}{t:Option (Addr×Value)}{pins:List (Addr×Obj)}
def Inv.Ex(I:L2.Inv X pins σ H s)(O:Own X)(f:Fly X.s₀.heap H s.heap e c t)(ap:ApP pins e t){g:Addr}{h':Heap}(tn:tD (frs X.stack) e t g s.heap h'):L2.Inv X pins σ H {s with heap:=h'}:=by
 obtain⟨tr,he,ne,nt⟩:=f
 have nex:∀b,b∉X.ex:=fun b z=>by rw[O.ex]at z;simp at z
 have fro:∀b,b∈frs X.stack->∃o,s.heap.get? b=some o/\∀vs,o.data≠.fields vs:=fun b hb=>(I.stack.mem hb).2
 have sub:∀b,b∈X.fs->b∈frs X.stack:=fun b hb=>by
  rw[O.stk]
  unfold frs
  rw[List.filterMap_cons,O.fr]
  exact qR_ _ hb
 have older:∀b o,X.s₀.heap.get? b=some o->b≠e/\(∀q,t=some q->b≠q.1)/\b≠X.env.locals:=fun b o q=>
  ⟨fun z=>(by rw[z,ne]at q;cases q),fun p w z=>(by rw[z,(nt p w).2]at q;cases q),Nat.ne_of_lt (qd_ (Heap.lt_size q) I.ok.above)⟩
 have cel:∀{d:Addr} {v:Option Value},s.heap.IsCell d v->h'.IsCell d v:=fun {d v} ⟨o,q,dd⟩=>by
  obtain⟨sl,z⟩:=tn.plain d o q fun ws w=>by rw[dd]at w;cases w
  exact⟨_,z,dd⟩
 refine⟨I.ok,I.os,I.bare,⟨fun b o q n nf nx=>?_,fun b o q n hf nx=>?_,I.base.free,fun b o q nx=>?_,I.base.mE,I.base.nK,I.base.pv⟩,?_,fun x d q=>?_,I.free,I.gf,fun p hp=>?_,fun b u q=>?_,I.len⟩
 · obtain⟨n1,n2,n3⟩:=older b o q
   refine tn.same b o (I.base.keep b o q n nf nx) (fun z=>?_) n1 n2
   rcases qS_.mp (I.j7 b z)with w |w
   · exact n3 w
   · exact nf w
 · obtain⟨sl,q1⟩:=I.base.slot b o q n hf nx
   obtain⟨o',q2,nf⟩:=fro b (sub b hf)
   rw[q1]at q2;cases q2
   obtain⟨sl2,z⟩:=tn.plain b _ q1 nf
   exact⟨sl2,z⟩
 · obtain⟨n1,n2,n3⟩:=older b o q
   obtain⟨o1,q1⟩:=I.base.there b o q nx
   by_cases hf:b∈frs X.stack
   · obtain⟨o',q2,nf⟩:=fro b hf
     obtain⟨sl,z⟩:=tn.plain b o' q2 nf
     exact⟨_,z⟩
   · exact⟨o1,tn.same b o1 q1 hf n1 n2⟩
 · obtain⟨m,⟨o,es,ep,q,d,r⟩,hm⟩:=I.loc
   obtain⟨sl,z⟩:=tn.plain _ o q fun ws w=>by rw[d]at w;cases w
   refine⟨m,⟨_,es,ep,z,d,r⟩,fun i x v h1 h2 h3=>?_⟩
   obtain⟨u,ru,lk⟩:=hm i x v h1 h2 h3
   refine⟨u,ru,?_⟩
   rcases lk with lk |⟨k,d',hd,ic⟩
   · exact .inl lk
   · exact .inr ⟨k,d',hd,cel ic⟩
 · obtain⟨v,w⟩:=I.cell x d q
   exact⟨v,cel w⟩
 · obtain⟨z1,z2,z3,z4,z5⟩:=I.pin p hp
   rw[O.pn]at hp
   obtain⟨y1,y2⟩:=ap p (by simpa using hp)
   refine⟨tn.same p.1 p.2 z1 (fun z=>?_) y1 y2,z2,z3,z4,z5⟩
   rcases qS_.mp (I.j7 p.1 z)with w |w
   · exact z3 w
   · exact z4 w
 · refine(I.hok b u q).jd (fun d v hc w=>?_) (fun _ z=>z) fun _ _ z=>z
   have hd:∃u',H d=some u':=by
    rcases hc with z |z
    · rw[z];exact⟨u,q⟩
    · exact⟨_,z⟩
   obtain⟨u',hu'⟩:=hd
   refine tn.same d v w (fun z=>?_) (fun z=>?_) fun p y z=>?_
   · rw[I.oF d z]at hu';cases hu'
   · rw[z,he]at hu';cases hu'
   · rw[z,(nt p y).1]at hu';cases hu'
def yt{M:Model}{A:Around}{EE:Value->Shared->Prop}{Q:Unit->Shared->Prop}(O:Own X)(hA:A.frames=some X.stack)(I:L2.Inv X pins σ H s)(f:Fly X.s₀.heap H s.heap e c t)(ap:ApP pins e t)
 (k:∀h' g,L2.Inv X pins σ H {s with heap:=h'}->Fly X.s₀.heap H h' e c (some (g,rawInt X.env.locals))->ApP pins e (some (g,rawInt X.env.locals))->Q () {s with heap:=h'}):wpAny M A (noteFrame (.ref e) X.env) Q EE s:=by
 have fr:=I.stack
 rw[O.stk]at fr hA
 have pl:∀p∈pins,p.1 < s.heap.objs.size:=fun p hp=>Heap.lt_size (I.pin p (qE_ _ hp)).1
 refine vd hA fr O.fr f.1 fun h' g tn tr=>k h' g (Inv.Ex I O f ap (by rw[O.stk];exact tn)) ?_ fun p hp=>⟨(ap p hp).1,fun q w=>?_⟩
 · refine⟨tr,f.2.1,f.2.2.1,fun q w=>?_⟩
   cases w
   rcases tn.head with ⟨y,w⟩ |w
   · exact f.2.2.2 (g,y) w
   · exact⟨I.hok.fresh w,Heap.get?_none_of_le (Nat.le_trans I.sz w)⟩
 · cases w
   rcases tn.head with ⟨y,w⟩ |w
   · exact(ap p hp).2 (g,y) w
   · exact Nat.ne_of_lt (qd_ (pl p hp) w)
def nV{M:Model}{A:Around}{EE:Value->Shared->Prop}{Q:Unit->Shared->Prop}{g:Addr}{z:Value}{fo:Option Addr}(O:Own X)(I:L2.Inv X pins σ H s)(f:Fly X.s₀.heap H s.heap e c (some (g,z)))(ap:ApP pins e (some (g,z)))
 (k:∀h',L2.Inv X pins σ H {s with heap:=h'}->Fly X.s₀.heap H h' e c (some (g,fo.elim .none fun f=>rawInt f))->ApP pins e (some (g,fo.elim .none fun f=>rawInt f))->Q () {s with heap:=h'}):wpAny M A (setFlight (.ref e) fo) Q EE s:=
 pb f.1 fun h' sm tr sz pl=>k h' (Inv.Ex (g:=g) I O f ap ⟨fun b o q _ _ n=>sm b o (n _ rfl) q,fun b o q nf=>⟨o.slots,pl b o q nf⟩,.inl ⟨_,rfl⟩,sz⟩) ⟨tr,f.2.1,f.2.2.1,fun q w=>by cases w;exact f.2.2.2 (g,z) rfl⟩ fun p hp=>⟨(ap p hp).1,fun q w=>by cases w;exact(ap p hp).2 (g,z) rfl⟩
def XP(X:Cx)(pins:List (Addr×Obj))(σ:L2.St)(E:XK)(x:Value)(s':Shared):Prop:=∃e H' c dx t,x= .ref e/\L2.Inv X pins σ H' s'/\Fly X.s₀.heap H' s'.heap e c t/\ApP pins e t/\E c dx H'
def PEx(X:Cx)(e:Expr)(t:L2.St->Hp->VK->XK->Prop):Prop:=∀(pins:List (Addr×Obj)) (s:Shared) (σ:L2.St) (H:Hp) (Q:VK) (E:XK),L2.Inv X pins σ H s->t σ H Q E->wpAny (model X.prog X.w) X.A (eval e X.env) (EP X pins σ Q) (XP X pins σ E) s
def CS{k:Nat}{f:Addr}{fd:FuncData}{ps:List Str}{sp:Sp}{Q:VK}{E:XK}{us:List Value}{vs:List V}(O:Own X)(F:aQ X.prog X.w X.K X.mg X.base (CX1 X.prog X.w) k f fd ps sp)(hr:dC k X.A)(hb:Binds X.K fd ps [])
 (I:L2.Inv X pins σ H s) (r:Vals vs us) (h:sp vs H Q E):wpAny (model X.prog X.w) X.A (call (.ref f) us) (EP X pins σ Q) (XP X pins σ E) s:=by
 have hl:(us++[]).length=ps.length:=by rw[qY_,<-r.length];exact F.len _ _ _ _ h
 have hbd:=hb s us I.kIn hl
 rw[qY_]at hbd
 refine wpAny_call (codeAny_mono (F.run X.A X.stack s H ⟨us,[]⟩ us vs Q E hr I.FA hbd r h) fun r s' hq=>?_)
 cases r with
 |error x=>
  obtain⟨e,H',c,dx,t,rfl,os,bare,un,hok,f,q⟩:=hq
  refine⟨e,H',c,dx,t,rfl,I.zY (ch:=[]) os un hok bare (fun b z=>absurd z (by simp)),f.old fun b o z=>I.base.there b o z (by rw[O.ex];simp),fun p hp=>?_,q⟩
  have live:=(I.pin p (qE_ _ hp)).1
  exact⟨fun z=>(by rw[z,f.2.2.1]at live;cases live),fun y w z=>(by rw[z,(f.2.2.2 y w).2]at live;cases live)⟩
 |ok fl=>
  cases fl with
  |ret u=>exact I.after hq
  |next=>exact False.elim hq
  |brk=>exact False.elim hq
  |cont=>exact False.elim hq
end
def tEx(T:Tab)(K:PySem.W.Frag)(f:M3.E3):L2.St->Hp->VK->XK->Prop:=fun σ H Q E=>tE T K (EX.of T K E) f σ H Q
section
variable{X:Cx}{T:Tab}{o e:Expr}{es:List Expr}{p pos apos:Pos}{fa:M3.E3}{f3:M3.A3}{k n C:Nat}{x m:Str}{g:List M3.D->M3.M M3.D}
def HZ{α:Type}{M:Model}{A:Around}{t:Sem α}{Q Q':α->Shared->Prop}{E:Value->Shared->Prop}{s:Shared}(h:wpAny M A t Q (fun _ _=>False) s)(hq:∀a s,Q a s->Q' a s):wpAny M A t Q' E s:=wpAny_mono h hq fun _ _ z=>z.elim
def Dy{pl:Sem Bool}(O:Own X)(F:Mt3 X.prog X.w X.K X.mg X.base (CX1 X.prog X.w) T k C m n g)(hr:dC k X.A)(ho:∀E,PE X.nox o (tE T X.K (EX.of T X.K E) fa))(ha:∀E,PA X.nox (e :: es) (tA T X.K (EX.of T X.K E) f3))
 (hst:starEach (e :: es) X.env=(false,eval e X.env) :: starEach es X.env:=by rfl) (hpl:(backTo pos (starEach es X.env)).any (·.1)=false:=by rfl)
 (ht:eval (.Call (.Attribute o m apos) (e :: es) [] pos) X.env=(do
   let ov <-eval o X.env
   standAt apos.atName
   let (f,first) <-holding [ov] (getMethod ov m pl)
   callWith pos f first (backTo pos (starEach (e :: es) X.env)) (backToKw pos (keywordEach [] X.env))):=by rfl):
 PEx X (.Call (.Attribute o m apos) (e :: es) [] pos) (tEx T X.K (M3.aL C g fa f3)):=by
 obtain⟨Ca,f,fd,ps,hc,cl,hm,ok,hb⟩:=F.ex
 intro pins s σ H Q E I h
 have h':=xg (CX:=CX1 X.prog X.w) (P:=X.prog) (w:=X.w) (mg:=X.mg) (base:=X.base) (k:=k) hc F.no F.len h
 refine PySem.W.methodCall_KW (pl:=pl) (HZ (ho E pins s σ H _ (I.ph _) h') fun u s1 ⟨y,H1,I1,rx,a,dx,fs,ex,ea,l,q⟩=>?_) ht
 subst ex
 obtain rfl:u=Value.ref a:=rx
 have J1:=I1.gC
 refine lQ J1 ea cl hm l ?_
 refine PySem.W.callWith_K (first:=[.ref a]) (h₀:=X.base) I.ok.mod.kin hm.kp (HZ (ha E pos pins s1 σ H1 _ I1 q) fun us s2 ⟨vs,H2,I2,r,q2⟩=>⟨I2.gC.kIn,?_⟩) hst hpl
 have q2:sp3 T X.K n g (V.ref a :: (vs++[])) H2 Q E:=q2
 rw[qY_]at q2
 exact CS (us:= .ref a :: us) (vs:= .ref a :: vs) O ok hr hb I2.gC (.cons rfl r) q2
def mkX(X:Cx)(e:Addr):Cx:={X with A:=X.A.mark (some (.ref e)),calm:=false,xe:=fun _ _=>False}
def Inv.mk'{pins:List (Addr×Obj)}{σ:L2.St}{H:Hp}{s:Shared}{e:Addr}(I:L2.Inv X pins σ H s):L2.Inv (mkX X e) pins σ H s:=
 have ok:=I.ok
 ⟨⟨ok.mod,ok.kind,ok.glob,ok.blt,ok.above,ok.inj,ok.has,ok.cab,(fun z=>nomatch z),ok.frames,ok.stk,ok.exf,ok.bs,ok.bsz,ok.wB,ok.yZ,ok.mD,ok.frf⟩,I.os,I.bare,I.base,I.loc,I.cell,I.free,I.gf,I.pin,I.hok,I.len⟩
def Inv.yf{pins:List (Addr×Obj)}{σ:L2.St}{H:Hp}{s:Shared}{e:Addr}(ok:X.Ok)(I:L2.Inv (mkX X e) pins σ H s):L2.Inv X pins σ H s:=
 ⟨ok,I.os,I.bare,I.base,I.loc,I.cell,I.free,I.gf,I.pin,I.hok,I.len⟩
theorem SP.yf{pins:List (Addr×Obj)}{D:Ends}{f:Flow}{s':Shared}{e:Addr}(ok:X.Ok)(h:SP (mkX X e) pins D f s'):SP X pins D f s':=by
 cases f with
 |next=>obtain⟨σ',H',I,q⟩:=h;exact⟨σ',H',Inv.yf ok I,q⟩
 |brk=>obtain⟨σ',H',I,q⟩:=h;exact⟨σ',H',Inv.yf ok I,q⟩
 |cont=>obtain⟨σ',H',I,q⟩:=h;exact⟨σ',H',Inv.yf ok I,q⟩
 |ret u=>obtain⟨v,σ',H',I,r,q⟩:=h;exact⟨v,σ',H',Inv.yf ok I,r,q⟩
end
inductive Hs (X:Cx) (T:Tab) (Y:EX):List ExceptHandler->List ((Nat->Bool)×M3.S3)->Prop
 |nil:Hs X T Y [] []
 |cons {x:Str} {px pos:Pos} {cv:Value} {m:Nat->Bool} {b:Stmt} {body:List Stmt} {f:M3.S3} {hs:List ExceptHandler} {ms:List ((Nat->Bool)×M3.S3)} (hx:X.mg x=some cv) (hg:Gl X x) (hdb:(x==("__debug__":Str))=false)
   (hm:∀c Ca,T.cls c=some Ca->PySem.W.exmOne X.K (.ref Ca) cv=some (m c)) (hb:∀e,PSs (mkX X e) (b :: body) (tS T X.K Y f)) (r:Hs X T Y hs ms):Hs X T Y (.ExceptHandler (some (.Name x px)) none (b :: body) pos :: hs) ((m,f) :: ms)
section
variable{X:Cx}{T:Tab}{Y:EX}{pins:List (Addr×Obj)}{σ:L2.St}{H:Hp}
def handle(O:Own X){D:Ends}{c:Nat}{Ca:Addr}{e:Addr}(hc:T.cls c=some Ca):∀{hs:List ExceptHandler} {ms:List ((Nat->Bool)×M3.S3)},Hs X T Y hs ms->∀{f:M3.S3},M3.pick c ms=some f->
 ∀{s:Shared} {g:Addr} {z:Value},L2.Inv X pins σ H s->Fly X.s₀.heap H s.heap e (.ref Ca) (some (g,z))->ApP pins e (some (g,z))->tS T X.K Y f D σ H->wpAny (model X.prog X.w) X.A (handleBy (.ref e) X.env hs) (SP X pins D) X.xe s:=by
 intro hs ms hh
 induction hh with
 |nil=>intro f hf;cases hf
 |@cons x px pos cv m b body f0 hs ms hx hg hdb hm hb r ih=>
  intro f hf s g z I fl ap ht
  refine wpAny_handleBy_cons (codeAny_handlers_test ?_) (by intro q;cases q)
  refine kJ (X:=mkX X e) (Inv.mk' I) hg hx ?_ hdb
  have lt:PySem.W.Looks (model X.prog X.w) s.heap (typeOf (.ref e)) (.ref Ca):=by
   obtain⟨oe,vs,ge,ce,de,_⟩:=fl.1
   rw[<-ce]
   exact(PySem.W.Looks.ld ge).andThen .now
  refine PySem.W.exm_one I.kIn lt (hm c Ca hc) _ _ _ s (fun _ _ q=>q) ?_
  cases q:m c with
  |false=>
   have hf':M3.pick c ms=some f:=by
    unfold M3.pick at hf
    rw[q,if_neg qC_]at hf
    exact hf
   exact ih hf' I fl ap ht
  |true=>
   have hf':f0=f:=by
    unfold M3.pick at hf
    rw[q,if_pos rfl]at hf
    cases hf;rfl
   subst hf'
   refine codeAny_handlers_suite (nV O I fl ap fun h' I' fl' ap'=>?_)
   exact wpAny_mono (hb e pins {s with heap:=h'} σ H D (Inv.mk' I') ht) (fun fl s' q=>SP.yf I.ok q) fun _ _ z=>z.elim
def FH(O:Own X){D:Ends}{hs:List ExceptHandler}{ms:List ((Nat->Bool)×M3.S3)}(hh:Hs X T Y hs ms)
 {x:Value} {s:Shared} (xp:XP X pins σ (fun cv dx H'=>∃c Ca,cv= .ref Ca/\T.cls c=some Ca/\∃f,M3.pick c ms=some f/\tS T X.K Y f D σ H') x s):
 wpAny (model X.prog X.w) X.A (noteFrame x X.env) (fun _ s₂=>wpAny (model X.prog X.w) X.A (setFlight x none) (fun _ s₃=>wpAny (model X.prog X.w) X.A (handleBy x X.env hs) (SP X pins D) X.xe s₃) X.xe s₂) X.xe s:=by
 obtain⟨e,H',cv,dx,t,rfl,I,fl,ap,c,Ca,rfl,hc,f,hf,ht⟩:=xp
 refine yt O I.ok.frames I fl ap fun h1 g I1 fl1 ap1=>?_
 refine nV O I1 fl1 ap1 fun h2 I2 fl2 ap2=>?_
 exact handle O hc hh hf I2 fl2 ap2 ht
def Ji(T:Tab)(K:PySem.W.Frag)(Y:EX)(ms:List ((Nat->Bool)×M3.S3))(D:Ends)(σ:L2.St):XK:=fun cv dx H'=>∃c Ca,cv= .ref Ca/\T.cls c=some Ca/\∃f,M3.pick c ms=some f/\tS T K Y f D σ H'
def A5{K:PySem.W.Frag}{ms:List ((Nat->Bool)×M3.S3)}{D:Ends}{fe:M3.E3}{k:M3.D->M3.St->M3.Fl×M3.St}{μ:List Addr}{σ3:M3.St}{G:M3.Hh}{R:VK}(sd:StD K H μ σ3 σ)(h:M3.run (M3.wH fe k ms σ3) G (eL T K μ H D) (Y.x μ H))
 (ok:∀d G' v H1 μ1,Up μ μ1 H H1->Sim T K μ1 H1 G'->Den K H1 μ1 d v->eL T K μ H D (k d σ3) G'->R v H1):M3.run (fe σ3) G (cW T K μ H R) ((EX.of T K (Ji T K Y ms D σ)).x μ H):=
 M3.au (M3.CN h) (fun d G' q v H1 μ1 u S1 dv=>ok d G' v H1 μ1 u S1 dv q) fun c G' ⟨f,hf,hr⟩ Ca dx H' μ' hc u S'=>⟨c,Ca,rfl,hc,f,hf,μ',σ3,G',S',sd.up u,M3.au hr (fun _ _ q=>q.up u) fun _ _ q=>Y.up u q⟩
variable{e:Expr}{fe:M3.E3}{h0:ExceptHandler}{hs:List ExceptHandler}{ms:List ((Nat->Bool)×M3.S3)}{p1 pos:Pos}
def BB(O:Own X)(he:PEx X e (tEx T X.K fe))(hh:Hs X T Y (h0 :: hs) ms):PS X (.Try [.Return (some e) p1] (h0 :: hs) [] [] pos) (tS T X.K Y (M3.wH fe (fun d σ=>(.ret d,σ)) ms)):=by
 intro pins s σ H D I ⟨μ,σ3,G,S,sd,h⟩
 refine wpAny_Try_except (wpAny_execs_cons (wpAny_Return_some (wpAny_mono (he pins s σ H (fun v H1=>D.rt v H1) (Ji T X.K Y ms D σ) I ⟨μ,σ3,G,S,sd,A5 sd h fun d G' v H1 μ1 u S1 dv q=>q σ H1 μ1 u S1 (sd.up u) v dv⟩) (fun v s1 ⟨x,H1,I1,r1,q1⟩=>?_) fun x s1 xp=>FH O hh xp)))
 exact⟨x,σ,H1,I1,r1,q1⟩
end
section
variable{P:Program}{w:World}{K:PySem.W.Frag}{mg:Str->Option Value}{base:Heap}{CX:CXT}{T:Tab}{x m qual:Str}{st:Stmt}{fa Ca:Addr}{fd:FuncData}{N ps:List Str}{k n C:Nat}{pad:M3.St}{body:M3.S3}
def fu(ok:aQ P w K mg base CX k fa fd ps (sp3 T K n (M3.fnM n pad body)))(F:Fun K x qual st fa fd)(hm:mg x=some (.ref fa))(hb:Binds K fd ps []):Fn3 P w K mg base CX T k x n (M3.fnM n pad body):=
 ⟨⟨fa,fd,ps,ok,hm,F.kp,hb⟩,fun _ _ _ _ q=>oR q⟩
def bE(ok:aQ P w K mg base CX k fa fd ps (sp3 T K n (M3.fnM n pad body)))(hc:T.cls C=some Ca)(cl:Cls K Ca)(me:Meth K Ca m fa)(hb:Binds K fd ps [])(no:∀g,T.nm g≠m):Mt3 P w K mg base CX T k C m n (M3.fnM n pad body):=
 ⟨⟨Ca,fa,fd,ps,hc,cl,me,ok,hb⟩,no,fun _ _ _ _ q=>oR q⟩
def vG(ok:aQ P w K mg base CX k fa fd ps (sp3 T K n (M3.fnM n pad body)))(hc:T.cls C=some Ca)(mk:Mk K Ca fa)(hm:mg x=some (.ref Ca))(hb:Binds K fd ps []):Ct3 P w K mg base CX T k x C n (M3.fnM n pad body):=
 ⟨⟨Ca,fa,fd,ps,hc,mk,hm,ok,hb⟩,fun _ _ _ _ q=>oR q⟩
end
end L3
namespace HT
open PySem PyProof.Rows
end HT
namespace L2
open PySem PySem.Spec PyProof.Rows
section
variable{X:Cx}{pins:List (Addr×Obj)}{σ:List (Option V)}{H:Hp}{s:Shared}{h':Heap}
def Inv.Cz{t':Nat}{fp:List Addr}(I:Inv X pins σ H s)(k:∀b o,b∉fp->s.heap.get? b=some o->h'.get? b=some o)(hf:∀b∈fp,nz X pins H b):Inv X pins σ H {s with heap:=h',toks:=t'}:=by
 have nit:∀b u,H b=some u->b∉fp:=fun b u e z=>by rw[(hf b z).1]at e;cases e
 refine I.step (g':=s.gens) (d':=s.drawn) (ch:=fp) (fun b hb=>⟨(hf b hb).2.2.2.1,(hf b hb).2.1,(hf b hb).2.2.2.2.1,(hf b hb).2.2.2.2.2⟩) (fun b o _ _ hc e _=>k b o hc e) (fun b o _ _ hc e _=>⟨o.slots,k b o hc e⟩) (fun _ _ _ _ n=>n)
  (fun b o hc e=>⟨o,k b o hc e⟩) (fun _ _ e=>e) (fun _ _ _ e=>e) (fun b ps e=>⟨#[],by rw[e];simp⟩) (fun m hm=>?_) (fun b u e=>?_) I.bare
 · obtain⟨o,es,ep,ho,r⟩:=hm
   exact⟨o,es,ep,k _ o (fun z=>(hf _ z).2.1 rfl) ho,r⟩
 · refine(I.hok b u e).jd (fun c v hc q=>k c v ?_ q) (fun _ q=>q) fun _ _ q=>q
   rcases hc with z |z
   · rw[z];exact nit b u e
   · exact nit c _ z
end
def Ite(K:PySem.W.Frag)(a:Addr):It:=
 ⟨fun i H=>∃xs x,SqL K H a xs/\xs[i]? =some x,fun i H x H'=>∃y p,H p=none/\x= .ref p/\H'=upd H p (.tup [.int (i:Int),y])/\∀xs,SqL K H a xs->xs[i]? =some y,fun i H=>∃xs,SqL K H a xs/\xs.length<=i⟩
def zk{P:Program}{w:World}{K:PySem.W.Frag}{elts:List Expr}{k:Nat}{pos:Pos}(a e it:Addr)(hne:e≠it):Turn P w K (.Tuple elts k pos) (Ite K a) [e,it] e (fun i h=>(∃old,IsEnum h e it ((i:Nat):Int) old)/\h.IsListIter it a i) where
 mem:=by simp
 obj:=fun i h st b hb=>by
  obtain⟨⟨old,he⟩,o,eo,c,d⟩:=st
  rcases qS_.mp hb with rfl |hb
  · exact⟨_,he,fun v z=>by
     have z':Data.fields _=Data.cell v:=z
     cases z'⟩
  · have e:b=it:=by simpa using hb
    subst e
    exact⟨o,eo,fun v z=>by rw[d]at z;cases z⟩
 keep:=fun i h h' st k=>⟨let ⟨old,he⟩:=st.1;⟨old,k e (by simp) _ he⟩,st.2.at fun o eo=>k it (by simp) o eo⟩
 item:=by
  intro X hP hw hK hc i pins s σ H E I hf st hg
  subst hP hw hK
  obtain⟨⟨old,he⟩,hit⟩:=st
  obtain⟨xs,x,hq,hx⟩:=hg
  obtain⟨its,rv,p,hz⟩:=I.list hq
  obtain⟨u,hu,ru⟩:=rv.get hx
  refine wpAny_pyNext_enum_item he hit p.isList (x:=u) (by simpa using hu) hne fun h₁ heo hit₁ ht₁ hz₁ hk₁=>?_
  have hlt:∀b∈ [e,it],b < s.heap.objs.size:=fun b hb=>by
   rcases qS_.mp hb with rfl |hb
   · exact Heap.lt_size he
   · have eb:b=it:=by simpa using hb
     subst eb
     obtain⟨o,eo,_⟩:=id hit
     exact Heap.lt_size eo
  have I1:Inv X pins σ (upd H s.heap.objs.size (.tup [.int (i:Int),x])) {s with heap:=s.heap.push {cls:= .type "tuple",data:= .seq #[.int (i:Int) s.toks,u]},toks:=s.toks+1}:=
   I.laid (fun b o eb=>Heap.get?_push_of_some _ eb) (qO_ _) ⟨by rw[sizeLine_eq];exact qP_ rfl,[.int (i:Int) s.toks,u],.cons ⟨_,rfl⟩ (.cons ru .nil),⟨_,Heap.get?_push_size _ rfl,rfl,_,rfl⟩⟩
  have hf1:∀b∈ [e,it],nz X pins (upd H s.heap.objs.size (.tup [.int (i:Int),x])) b:=fun b hb=>⟨by rw[aJ (Nat.ne_of_lt (hlt b hb))];exact(hf b hb).1,(hf b hb).2⟩
  have I2:Inv X pins σ (upd H s.heap.objs.size (.tup [.int (i:Int),x])) {s with heap:=h₁,toks:=s.toks+1}:=by
   refine Inv.Cz (s:={s with heap:=s.heap.push {cls:= .type "tuple",data:= .seq #[.int (i:Int) s.toks,u]},toks:=s.toks+1}) (h':=h₁) (t':=s.toks+1) (fp:=[e,it]) I1 (fun b o hb eb=>?_) hf1
   rcases Heap.get?_push_cases eb with ⟨z1,z2⟩ |z
   · rw[z1,z2];exact ht₁
   · exact hk₁ b o (fun z=>hb (by simp [z])) (fun z=>hb (by simp [z])) z
  refine⟨_,rfl,wpAny_letOwnedTupleGo_enum heo fun h₂ he₂ hs₂=>?_⟩
  obtain⟨f0,f1,f2,f3,f4,f5⟩:=hf1 e (by simp)
  have hs₂:Heap.SameBut e h₁ h₂:=hs₂
  have I3:Inv X pins σ (upd H s.heap.objs.size (.tup [.int (i:Int),x])) {s with heap:=h₂,toks:=s.toks+1}:=I2.turned (t':=s.toks+1) (fun b o hb eb=>(hs₂.2 b hb).trans eb) f0 f1 f3 f4 f5
  refine⟨.ref s.heap.objs.size,_,I3,rfl,⟨x,s.heap.objs.size,I.hok.fresh (qO_ _),rfl,rfl,fun ys hy=>by rw[I.kh hy hq];exact hx⟩,⟨⟨u,?_⟩,hit₁.at fun o eo=>(hs₂.2 it (Ne.symm hne)).trans eo⟩,fun b hb=>(hf1 b hb).1⟩
  have:((i+1:Nat):Int)=(i:Int)+1:=by push_cast;rfl
  rw[this]
  exact he₂
 done:=by
  intro X hP hw hK hc i pins s σ H E I hf st hg
  subst hP hw hK
  obtain⟨⟨old,he⟩,hit⟩:=st
  obtain⟨xs,hq,hx⟩:=hg
  obtain⟨its,rv,p,hz⟩:=I.list hq
  obtain⟨f0,f1,f2,f3,f4,f5⟩:=hf it (by simp)
  have hl:=rv.length
  exact wpAny_pyNext_enum_end (I.ok.hd hc) he hit p.isList (by simp;omega) fun h' eb=>⟨rfl,I.turned (t':=s.toks) (fun b o hb e=>eb b o hb e) f0 f1 f3 f4 f5⟩
 self:=fun _ _ _ _ _ st h=>let ⟨_,he⟩:=st.1;wpAny_pyIter_enum he h
def Ho(K:PySem.W.Frag)(ta:TA):TI:=fun σ H R=>ta σ H fun vs H1=>∃a,vs=[.ref a]/\(∃xs,SqL K H1 a xs)/\R (Ite K a) H1
def CQ{X:Cx}{l:Expr}{elts:List Expr}{k:Nat}{ptg:Pos}{ta:TA}{p pos:Pos}(hg:Gl X "enumerate")(hm:X.mg "enumerate"=none)(ha:PA X [l] ta)(hs:starEach [l] X.env=[(false,eval l X.env)]:=by rfl):PI X (.Tuple elts k ptg) (.Call (.Name "enumerate" p) [l] [] pos) (Ho X.K ta):=by
 intro pins s σ H R I h
 refine Call_ (nL I hg hm boot_enumerate (PyProof.Rows.callWith_type1 (thn (ha pos pins s σ H _ I h) fun us s1 ⟨vs,H1,I1,r1,q1⟩=>?_) hs rfl))
 obtain⟨a,e,⟨xs,hq⟩,q⟩:=q1
 subst e
 cases r1 with
 |cons r rr=>
  cases rr
  cases r
  obtain⟨its,rv,pl,hz⟩:=I1.list hq
  refine call_enumerate_list pl.isList fun h' hE hIt hsz hk=>?_
  have I2:Inv X pins σ H1 {s1 with heap:=h'}:=I1.kept (t':=s1.toks) hk
  refine wpAny_pyIter_enum hE ?_
  refine⟨s1.heap.objs.size+1,[s1.heap.objs.size+1,s1.heap.objs.size],_,_,H1,rfl,I2,zk a _ _ (Nat.succ_ne_self _),⟨⟨.none,hE⟩,hIt⟩,fun b hb=>?_,q⟩
  have hb:s1.heap.objs.size<=b:=by
   rcases qS_.mp hb with rfl |hb
   · exact Nat.le_succ _
   · have:b=s1.heap.objs.size:=by simpa using hb
     exact Nat.le_of_eq this.symm
  exact I1.Ap hb (I1.hok.fresh hb)
end L2
namespace L3
open PySem PySem.Spec PyProof.Rows L2 PySem.SeqAt
section
variable{X:Cx}{T:Tab}{Y:EX}{a b e o i:Expr}{es:List Expr}{fa fb fc:M3.E3}{ft:M3.T3}{f3:M3.A3}{pos pos' p p2 apos:Pos}
def zL{elts:List Expr}{k:Nat}{ptg:Pos}(hm:X.mg "enumerate"=none)(ha:PE X a (tE T X.K Y fa))(hg:Gl X "enumerate":=by rfl)(hs:starEach [a] X.env=[(false,eval a X.env)]:=by rfl):PI X (.Tuple elts k ptg) (.Call (.Name "enumerate" p) [a] [] pos) (tI T X.K Y (M3.zK fa)):=by
 refine PI.of (CQ hg hm (dU ha jA hs) hs) fun σ H R ⟨μ,σ3,G,S,sd,h⟩=>⟨μ,σ3,G,S,sd,bG h fun d G1 v H1 μ1 u1 S1 d1 h1=>?_⟩
 have main:∀{n:Nat} {xs:List M3.D} {o:M3.O} {ck:M3.Hh->Bool} {q:Addr},μ1[n]? =some q->(∀G',ck G'=true->G'[n]? =some o)->(o= .lst xs\/o= .frz xs)->wd T X.K μ1 H1 ⟨M3.ir xs,ck⟩ (Ite X.K q):=by
  intro n xs o ck q ea hck ho
  have key:∀{μ' H' G'},Up μ1 μ' H1 H'->Sim T X.K μ' H' G'->ck G'=true->∃vs,SqL X.K H' q vs/\az X.K H' μ' xs vs:=by
   intro μ' H' G' u S c
   have ob:=S.obj n q o (u.at ea) (hck G' c)
   rcases ho with rfl |rfl
   · obtain⟨vs,e1,r⟩:=ob;exact⟨vs,SqL.of e1,r⟩
   · obtain⟨vs,e1,r⟩:=ob;exact⟨vs,e1.sq,r⟩
  have eget:∀{i:Nat} {d:M3.D},(M3.ir xs)[i]? =some d->∃y,xs[i]? =some y/\d= .tup [.int (i:Int),y]:=by
   intro i d h
   unfold M3.ir at h
   rw[List.getElem?_mapIdx]at h
   cases z:xs[i]? with
   |none=>rw[z]at h;cases h
   |some y=>rw[z]at h;exact⟨y,rfl,(Option.some.inj h).symm⟩
  refine⟨fun i d μ' H' G' u S c e=>?_,fun i d v μ' H' H'' G' u S c e y=>?_,fun μ' H' G' u S c=>?_⟩
  · obtain⟨vs,sq,r⟩:=key u S c
    obtain⟨y,ey,_⟩:=eget e
    obtain⟨v,e1,_⟩:=r.get ey
    exact⟨vs,v,sq,e1⟩
  · obtain⟨vs,sq,r⟩:=key u S c
    obtain⟨z,ez,rfl⟩:=eget e
    obtain⟨w,e1,dw⟩:=r.get ez
    obtain⟨yv,t,ht,rfl,rfl,hy⟩:=y
    have hy:=hy vs sq
    rw[e1]at hy
    cases hy
    have sm:fU H' (upd H' t (.tup [.int (i:Int),w])):=fU.new _ ht
    exact⟨sm,t,[.int (i:Int),w],rfl,SqT.of aO,⟨_,_,rfl,rfl,_,_,rfl,Den.up (Up.same (μ:=μ') sm) dw,rfl⟩⟩
  · obtain⟨vs,sq,r⟩:=key u S c
    refine⟨vs,sq,Nat.le_of_eq ?_⟩
    rw[<-r.length]
    simp [M3.ir]
 unfold M3.run M3.pM at h1
 cases d with
 |ref n=>
  dsimp only at h1
  obtain⟨q,eq,rfl⟩:=d1
  cases z:G1[n]? with
  |none=>rw[z]at h1;exact False.elim h1
  |some ob=>
   have od:=S1.obj n q ob eq z
   rw[z]at h1
   cases ob with
   |lst xs=>obtain⟨vs,e1,r⟩:=od;exact⟨q,rfl,⟨vs,SqL.of e1⟩,h1 _ H1 μ1 u1 S1 (main eq (fun G' c=>of_decide_eq_true c) (.inl rfl))⟩
   |frz xs=>obtain⟨vs,e1,r⟩:=od;exact⟨q,rfl,⟨vs,e1.sq⟩,h1 _ H1 μ1 u1 S1 (main eq (fun G' c=>of_decide_eq_true c) (.inr rfl))⟩
   |_=>exact False.elim h1
 |_=>exact False.elim h1
def xw{K:PySem.W.Frag}{H:Hp}{μ:List Addr}{x:M3.D}{v:V}(d:Den K H μ x v):(V.bl (decide (v= .non)))= .bl (decide (x= .non)):=by
 cases x with
 |non=>cases (show v= .non from d);rfl
 |bl b=>cases (show v= .bl b from d);rfl
 |int b=>cases (show v= .int b from d);rfl
 |str b=>cases (show v= .str b from d);rfl
 |ref n=>obtain⟨_,_,rfl⟩:=d;rfl
 |tup ds=>obtain⟨_,_,rfl,_⟩:=d;rfl
def Ir{j}(ha:PE X a (tE T X.K Y fa)):PT X (.Compare a [.Is] [.Constant .none j pos'] pos) (tT T X.K Y (M3.tB (M3.eUn M3.lX fa))):=by
 refine PT.of (zB (AL ha)) fun σ H Q ⟨μ,σ3,G,S,sd,h⟩=>?_
 have h:M3.run (M3.bnd (M3.bnd (fa σ3) M3.lX) M3.asB) G (nR T X.K μ H Q) (Y.x μ H):=h
 rw[M3.kZ]at h
 exact⟨μ,σ3,G,S,sd,bG h fun x G1 v H1 μ1 u1 S1 d1 h1=>⟨decide (x= .non),xw d1,h1 H1 μ1 u1 S1⟩⟩
def Gj{j}(ha:PE X a (tE T X.K Y fa)):PT X (.Compare a [.IsNot] [.Constant .none j pos'] pos) (tT T X.K Y (M3.tB (M3.eUn M3.lF fa))):=by
 refine PT.of (zB (Dw ha)) fun σ H Q ⟨μ,σ3,G,S,sd,h⟩=>?_
 have h:M3.run (M3.bnd (M3.bnd (fa σ3) M3.lF) M3.asB) G (nR T X.K μ H Q) (Y.x μ H):=h
 rw[M3.kZ]at h
 exact⟨μ,σ3,G,S,sd,bG h fun x G1 v H1 μ1 u1 S1 d1 h1=>⟨!decide (x= .non),by have:=xw d1;injection this with this;rw[this],h1 H1 μ1 u1 S1⟩⟩
end
end L3
namespace HT
open PySem
def k9:entryFor table "dict_itemiterator.__iter__"=some Builtin.«dict_keyiterator.__iter__»:=
 entryFor_alias (id':="dict_keyiterator.__iter__") (by kernel_rfl) (by first |rfl |decide +kernel |(unfold String.splitOn;simp +decide [String.splitOnAux])) (by decide +kernel) (by kernel_rfl)
end HT
namespace L2
open PySem PySem.Spec PyProof.Rows
def BG{k:Key}{u:Value}(h:qf k u=true):RelV (kV k) u:=by
 rcases bY h with ⟨i,t,rfl,rfl⟩ |⟨x,t,rfl,rfl⟩
 · exact⟨t,rfl⟩
 · exact⟨t,rfl⟩
theorem KV.get:∀{kvs:List (Key×V)} {vs:List (Key×Value)} {i:Nat} {k:Key} {v:V},KV kvs vs->kvs[i]? =some (k,v)->∃u,vs[i]? =some (k,u)/\RelV v u
 |_,_,_,_,_,.nil,e=>by simp at e
 |(k1,v1) :: kvs,(k2,u1) :: vs,0,k,v,.cons ⟨h1,h2⟩ t,e=>by
  simp at e
  obtain⟨rfl,rfl⟩:=e
  exact⟨u1,by rw[<-show k1=k2 from h1];rfl,h2⟩
 |(k1,v1) :: kvs,(k2,u1) :: vs,i+1,k,v,.cons _ t,e=>by
  obtain⟨u,h1,h2⟩:=KV.get (i:=i) t (by simpa using e)
  exact⟨u,by simpa using h1,h2⟩
def Itd(d:Addr)(ob:Obj)(kvs:List (Key×V)):It:=
 ⟨fun i H=>H d=some (.frz ob (.dK kvs))/\i < kvs.length,fun i H x H'=>∃k v p,kvs[i]? =some (k,v)/\H p=none/\x= .ref p/\H'=upd H p (.tup [kV k,v]),fun i H=>H d=some (.frz ob (.dK kvs))/\kvs.length<=i⟩
def zG{X:Cx}{pins:List (Addr×Obj)}{σ:St}{H:Hp}{s:Shared}{d:Addr}{ob:Obj}{kvs:List (Key×V)}{es:Array DictEntry}{ep:Nat}(I:Inv X pins σ H s)(hob:ob.data= .dict es ep)(hd:H d=some (.frz ob (.dK kvs))):
 ∃vs,KV kvs vs/\s.heap.DictAt (bW X.prog X.w) d vs ep/\vs.length=kvs.length:=by
 obtain⟨hg,hz,hS,vs,rv,dd⟩:=(show bR X.prog X.w H s.heap d (.frz ob (.dK kvs))from I.hok d _ hd)
 obtain⟨ep',hat⟩:=dd.dictAt
 obtain⟨o,es',ho,hc,hdat,r⟩:=id hat
 rw[hg]at ho
 cases ho
 rw[hob]at hdat
 injection hdat with h1 h2
 subst h2
 exact⟨vs,rv,hat,rv.length.symm⟩
def xj{P:Program}{w:World}{K:PySem.W.Frag}{elts:List Expr}{k:Nat}{pos:Pos}(d it:Addr)(ob:Obj)(kvs:List (Key×V))(es:Array DictEntry)(ep:Nat)(hob:ob.data= .dict es ep):
 Turn P w K (.Tuple elts k pos) (Itd d ob kvs) [it] it (fun i h=>∃ok ov,IsItemIter h it d i kvs.length ep ok ov) where
 mem:=by simp
 obj:=fun i h st b hb=>by
  obtain⟨ok,ov,he⟩:=st
  have e:b=it:=by simpa using hb
  subst e
  exact⟨_,he,fun v z=>by
   have z':Data.fields _=Data.cell v:=z
   cases z'⟩
 keep:=fun i h h' st k=>let ⟨ok,ov,he⟩:=st;⟨ok,ov,k it (by simp) _ he⟩
 item:=by
  intro X hP hw hK hc i pins s σ H E I hf st hg
  subst hP hw hK
  obtain⟨ok,ov,he⟩:=st
  obtain⟨hd,hi⟩:=hg
  obtain⟨vs,rv,hat,hl⟩:=zG I hob hd
  have hkv:kvs[i]? =some (kvs[i].1,kvs[i].2):=qA_ hi
  generalize kvs[i].1=k0 at hkv
  generalize kvs[i].2=v0 at hkv
  obtain⟨u,hu,ru⟩:=KV.get rv hkv
  obtain⟨f0,f1,f2,f3,f4,f5⟩:=hf it (by simp)
  have he':IsItemIter s.heap it d i vs.length ep ok ov:=by rw[hl];exact he
  refine wpAny_pyNext_items_item he' hat hu fun key h₁ hkey heo ht₁ hz₁ hk₁=>?_
  have hlt:it < s.heap.objs.size:=Heap.lt_size he
  have I1:Inv X pins σ (upd H s.heap.objs.size (.tup [kV k0,v0])) {s with heap:=s.heap.push {cls:= .type "tuple",data:= .seq #[key,u]},toks:=s.toks}:=
   I.laid (t':=s.toks) (fun b o eb=>Heap.get?_push_of_some _ eb) (qO_ _) ⟨by rw[sizeLine_eq];exact qP_ rfl,[key,u],.cons (BG hkey) (.cons ru .nil),⟨_,Heap.get?_push_size _ rfl,rfl,_,rfl⟩⟩
  have g0:upd H s.heap.objs.size (.tup [kV k0,v0]) it=none:=by rw[aJ (Nat.ne_of_lt hlt)];exact f0
  have I2:Inv X pins σ (upd H s.heap.objs.size (.tup [kV k0,v0])) {s with heap:=h₁,toks:=s.toks}:=by
   refine Inv.turned (s:={s with heap:=s.heap.push {cls:= .type "tuple",data:= .seq #[key,u]},toks:=s.toks}) (h':=h₁) (t':=s.toks) (it:=it) I1 (fun b o hb eb=>?_) g0 f1 f3 f4 f5
   rcases Heap.get?_push_cases eb with ⟨z1,z2⟩ |z
   · rw[z1,z2];exact ht₁
   · exact hk₁ b o hb z
  refine⟨_,rfl,wpAny_letOwnedTupleGo_items heo fun h₂ he₂ hs₂=>?_⟩
  have hs₂:Heap.SameBut it h₁ h₂:=hs₂
  have I3:Inv X pins σ (upd H s.heap.objs.size (.tup [kV k0,v0])) {s with heap:=h₂,toks:=s.toks}:=I2.turned (t':=s.toks) (fun b o hb eb=>(hs₂.2 b hb).trans eb) g0 f1 f3 f4 f5
  refine⟨.ref s.heap.objs.size,_,I3,rfl,⟨k0,v0,s.heap.objs.size,hkv,I.hok.fresh (qO_ _),rfl,rfl⟩,⟨key,u,by rw[<-hl];exact he₂⟩,fun b hb=>?_⟩
  have e:b=it:=by simpa using hb
  subst e
  exact g0
 done:=by
  intro X hP hw hK hc i pins s σ H E I hf st hg
  subst hP hw hK
  obtain⟨ok,ov,he⟩:=st
  obtain⟨hd,hi⟩:=hg
  obtain⟨vs,rv,hat,hl⟩:=zG I hob hd
  obtain⟨f0,f1,f2,f3,f4,f5⟩:=hf it (by simp)
  have he':IsItemIter s.heap it d i vs.length ep ok ov:=by rw[hl];exact he
  exact wpAny_pyNext_items_end (I.ok.hd hc) he' hat (List.getElem?_eq_none (by omega)) fun h' eb=>⟨rfl,I.turned (t':=s.toks) (fun b o hb e=>eb b o hb e) f0 f1 f3 f4 f5⟩
 self:=fun A i s Q E st h=>by
  obtain⟨ok,ov,he⟩:=st
  have hT:s.TypeIs (.ref it) "dict_itemiterator":=⟨_,he,rfl⟩
  refine wpAny_pyIter_slot hT PySem.F.slot_dict_itemiterator_iter (wpAny_call_entry PySem.F.slot_dict_itemiterator_iter hT HT.k9 ?_ (PySem.F.args_dict_itemiterator_iter_1 _))
  show wpAny _ _ (ret (.ref it)) _ _ s
  exact wpAny_pure ⟨_,rfl,"dict_itemiterator",_,hT,PySem.F.slot_dict_itemiterator_next.lookup,h⟩
section
variable{X:Cx}{pins:List (Addr×Obj)}{σ:St}{H:Hp}{s:Shared}{d:Addr}{kvs:List (Key×V)}
def Inv.freeze{ob:Obj}(I:Inv X pins σ H s)(hd:H d=some (.dK kvs))(hg:s.heap.get? d=some ob):Inv X pins σ (upd H d (.frz ob (.dK kvs))) s:=by
 have old:=(show bR X.prog X.w H s.heap d (.dK kvs)from I.hok d _ hd)
 have:=I.write (x:=d) (e:=d) (o:= .frz ob (.dK kvs)) (h':=s.heap) (t':=s.toks) (by rw[hd];exact True.intro) (.inl rfl) (fun b u _ e=>e) ⟨ob,hg⟩ ⟨hg,old⟩
 exact this
def Inv.HG(I:Inv X pins σ H s)(hd:H d=some (.dK kvs)):∀o u,X.H₀ d≠some (.frz o u):=fun o u z=>by
 have:=I.base.nK d o u z
 rw[hd]at this;cases this
def Inv.qx{ob:Obj}(I:Inv X pins σ H s)(hd:H d=some (.frz ob (.dK kvs)))(nf:∀o u,X.H₀ d≠some (.frz o u)):Inv X pins σ (upd H d (.dK kvs)) s:=by
 have ne:∀b,H b=none->b≠d:=fun b n z=>by rw[z,hd]at n;cases n
 obtain⟨hg,old⟩:=(show bR X.prog X.w H s.heap d (.frz ob (.dK kvs))from I.hok d _ hd)
 refine⟨I.ok,I.os,I.bare,⟨I.base.keep,I.base.slot,fun b o q n nx=>?_,I.base.there,fun b xs q=>?_,fun b o u q=>?_,fun b ps q=>?_⟩,I.loc,I.cell,by rw[aJ (ne _ I.free)];exact I.free,fun x c e=>by rw[aJ (ne _ (I.gf x c e))];exact I.gf x c e,fun p hp=>?_,fun b u q=>?_,I.len⟩
 · have:=I.base.free b o q n nx
   rw[aJ (ne _ this)];exact this
 · have:=I.base.mE b xs q
   rw[aJ (by rintro rfl;rw[hd]at this;cases this)];exact this
 · have:=I.base.nK b o u q
   by_cases z:b=d
   · subst z;exact absurd q (nf o u)
   · rw[aJ z];exact this
 · obtain⟨more,this⟩:=I.base.pv b ps q
   exact⟨more,by rw[aJ (by rintro rfl;rw[hd]at this;cases this)];exact this⟩
 · obtain⟨a1,a2,a3⟩:=I.pin p hp
   exact⟨a1,by rw[aJ (ne _ a2)];exact a2,a3⟩
 · by_cases z:b=d
   · subst z
     rw[aO]at q
     cases q
     exact old
   · rw[aJ z]at q
     refine(I.hok b u q).jd (fun c v hc w=>w) (fun c w=>?_) fun c xs w=>?_
     · rw[aJ (by rintro rfl;rw[hd]at w;cases w)];exact w
     · rw[aJ (by rintro rfl;rw[hd]at w;cases w)];exact w
end
def EY(X:Cx)(to:TE):TI:=fun σ H R=>to σ H fun x H1=>∃d kvs,x= .ref d/\H1 d=some (.dK kvs)/\∀ob,(∀o u,X.H₀ d≠some (.frz o u))->R (Itd d ob kvs) (upd H1 d (.frz ob (.dK kvs)))
def Am{X:Cx}{o:Expr}{elts:List Expr}{k:Nat}{ptg apos ipos:Pos}{to:TE}(ho:PE X o to)(hbase:attributeBase o "items" X.env (eval o X.env)=eval o X.env:=by rfl)(hline:(apos.endLine==ipos.line)=true:=by rfl):
 PI X (.Tuple elts k ptg) (.Call (.Attribute o "items" apos) [] [] ipos) (EY X to):=by
 intro pins s σ H R I h
 refine wpAny_Call_method0_late hbase hline (thn (ho pins s σ H _ I h) fun v s1 ⟨x,H1,I1,r1,d,kvs,e,hd,q⟩=>?_)
 subst e
 cases r1
 obtain⟨h1,h2⟩:=vP I1 (x:= .ref d) rfl (T:="dict") (.inr (.inr (.inl ⟨rfl,.inl ⟨kvs,hd⟩⟩)))
 refine⟨"dict","dict.items",PySem.F.plainAttrs_dict,PySem.F.slot_dict_items,PySem.F.type_dict_items,h1,h2,Calls.callWith_builtin rfl (PySem.evalArgs_none ?_)⟩
 obtain⟨hz,hS,vs,rv,dd⟩:=zW I1.hok hd
 refine call_meetsIn PySem.F.slot_dict_items dd.typeIs PySem.F.entry_dict_items (PySem.F.args_dict_items_1 _) (meets_dict_items (bW X.prog X.w) d hS) ⟨⟨vs,dd⟩,?_⟩
 obtain⟨ep,hat⟩:=dd.dictAt
 obtain⟨ob,es,hg,hc,hob,r⟩:=id hat
 have I2:Inv X pins σ H1 {s1 with heap:=s1.heap.push {cls:= .type "dict_items",data:= .fields #[.ref d]}}:=I1.kept (t':=s1.toks) fun b u e=>Heap.get?_push_of_some _ e
 refine wpAny_pyIter_items (knd:=bW X.prog X.w) (d:=d) (kvs:=vs) (ep:=ep) ⟨_,Heap.get?_push_size _ rfl,rfl,rfl⟩ (hat.push _) ?_
 have I3:Inv X pins σ H1 {s1 with heap:=(s1.heap.push {cls:= .type "dict_items",data:= .fields #[.ref d]}).push {cls:= .type "dict_itemiterator",data:= .fields #[.none,.bool false,.ref d,.int 0 0,.int vs.length 0,.int ep 0,.none,.none]}}:=I2.kept (t':=s1.toks) fun b u e=>Heap.get?_push_of_some _ e
 have I4:=I3.freeze (ob:=ob) hd (Heap.get?_push_of_some _ (Heap.get?_push_of_some _ hg))
 refine⟨(s1.heap.push {cls:= .type "dict_items",data:= .fields #[.ref d]}).objs.size,[(s1.heap.push {cls:= .type "dict_items",data:= .fields #[.ref d]}).objs.size],_,_,_,rfl,I4,xj d _ ob kvs es ep hob,⟨.none,.none,?_⟩,fun b hb=>?_,q ob (I1.HG hd)⟩
 · rw[rv.length];exact Heap.get?_push_size _ rfl
 · have e:b=(s1.heap.push {cls:= .type "dict_items",data:= .fields #[.ref d]}).objs.size:=by simpa using hb
   subst e
   refine I2.Ap (qO_ _) ?_
   have hn:=I2.hok.fresh (qO_ (s1.heap.push {cls:= .type "dict_items",data:= .fields #[.ref d]}).objs.size)
   rw[aJ (by intro z;rw[z]at hn;rw[hd]at hn;cases hn)]
   exact hn
end L2
namespace L3
open PySem PySem.Spec PyProof.Rows L2 PySem.SeqAt
section
variable{X:Cx}{T:Tab}{Y:EX}{a b e o i:Expr}{es:List Expr}{fa fb fc:M3.E3}{ft:M3.T3}{f3:M3.A3}{pos pos' p p2 apos ipos:Pos}
def wW:PE X e (tE T X.K Y M3.Bz):=fun pins s σ H Q I ⟨μ,σ3,G,S,sd,h⟩=>False.elim h
def Up.qx{μ μ1:List Addr}{H H1:Hp}{a:Addr}{n:Nat}{ob:Obj}{ws:List (L2.Key×V)}(ea:μ[n]? =some a)(ha:H a=some (.dK ws))(u:Up μ μ1 (upd H a (.frz ob (.dK ws))) H1):Up μ μ1 H (upd H1 a (.dK ws)):=by
 refine⟨u.pre,⟨fun b xs e=>?_,fun b q w e=>?_⟩,fun b w e nb=>?_⟩
 · have hb:b≠a:=by rintro rfl;rw[ha]at e;cases e
   rw[aJ hb];exact u.keeps.tup b xs (by rw[aJ hb];exact e)
 · have hb:b≠a:=by rintro rfl;rw[ha]at e;cases e
   rw[aJ hb];exact u.keeps.frz b q w (by rw[aJ hb];exact e)
 · have hb:b≠a:=by rintro rfl;exact nb (qD_ ea)
   rw[aJ hb];exact u.rest b w (by rw[aJ hb];exact e) nb
def Sim.qx{K:PySem.W.Frag}{μ:List Addr}{H:Hp}{G:M3.Hh}{n:Nat}{a:Addr}{ob:Obj}{kvs:List (M3.Key×M3.D)}{ws:List (L2.Key×V)}(S:Sim T K μ H G)(ea:μ[n]? =some a)(hn:G[n]? =some (.dF kvs))(ha:H a=some (.frz ob (.dK ws)))
 (k:Keeps H (upd H a (.dK ws))\/True) (r:Paired (fun(p:M3.Key×M3.D) (q:L2.Key×V)=>p.1=q.1/\Den K (upd H a (.dK ws)) μ p.2 q.2) kvs ws)
 (kd:∀d v,Den K H μ d v->Den K (upd H a (.dK ws)) μ d v) (kds:∀ds vs,az K H μ ds vs->az K (upd H a (.dK ws)) μ ds vs):Sim T K μ (upd H a (.dK ws)) (G.set n (.dK kvs)):=by
 have hl:=(qB_.mp hn).1
 refine⟨by rw[qX_];exact S.len,fun m b o q1 q2=>?_,fun m j b o1 o2 hmj q1 q2 q3 q4=>?_⟩
 · by_cases h:m=n
   · subst h
     rw[ea]at q1
     cases q1
     rw[qU_ hl]at q2
     cases q2
     exact⟨ws,aO,r⟩
   · rw[qV_ (Ne.symm h)]at q2
     have od:=S.obj m b o q1 q2
     have jd:isF o=false->∀x,H b=some x->upd H a (.dK ws) b=some x:=fun hf x z=>by
      have hb:b≠a:=by
       rintro rfl
       rcases S.inj m n b o (.dF kvs) h q1 ea q2 hn with z |z
       · rw[hf]at z;cases z
       · cases z
      rw[aJ hb];exact z
     cases o with
     |lst xs=>obtain⟨vs,e1,rr⟩:=od;exact⟨vs,jd rfl _ e1,kds _ _ rr⟩
     |frz xs=>
      obtain⟨vs,e1,rr⟩:=od
      refine⟨vs,?_,kds _ _ rr⟩
      rcases e1 with ⟨o',e1⟩ |e1
      · have hb:b≠a:=by rintro rfl;rw[ha]at e1;cases e1
        exact .inl ⟨o',by rw[aJ hb];exact e1⟩
      · exact .inr e1
     |dK xs=>obtain⟨vs,e1,rr⟩:=od;exact⟨vs,jd rfl _ e1,Paired.imp' (fun _ _ z=>⟨z.1,kd _ _ z.2⟩) rr⟩
     |dF xs=>obtain⟨o',vs,e1,rr⟩:=od;exact⟨o',vs,jd rfl _ e1,Paired.imp' (fun _ _ z=>⟨z.1,kd _ _ z.2⟩) rr⟩
     |dT xs=>obtain⟨vs,e1,rr⟩:=od;exact⟨vs,jd rfl _ e1,Paired.imp' (fun p q z=>⟨z.1,(by obtain⟨b',us,e',sq,ds⟩:=kd (.tup (p.1.map M3.D.int)) (.ref q.2.1) ⟨_,_,rfl,z.2.1,az.oK⟩;cases e';rw[az.ints ds]at sq;exact sq),let ⟨v,x,y⟩:=z.2.2;⟨v,kd _ _ x,y⟩⟩) rr⟩
     |ins C fs=>obtain⟨Ca,dx,vs,hc,e1,rr⟩:=od;exact⟨Ca,dx,vs,hc,jd rfl _ e1,Paired.imp' (fun _ _ z=>⟨z.1,kd _ _ z.2⟩) rr⟩
 · have back:∀(m:Nat) o,(G.set n (.dK kvs))[m]? =some o->∃o',G[m]? =some o'/\isF o'=isF o:=fun m o q=>by
    by_cases h:m=n
    · subst h
      rw[qU_ hl]at q
      cases q
      exact⟨_,hn,rfl⟩
    · rw[qV_ (Ne.symm h)]at q
      exact⟨o,q,rfl⟩
   obtain⟨p1,r1,f1⟩:=back m o1 q3
   obtain⟨p2,r2,f2⟩:=back j o2 q4
   rw[<-f1,<-f2]
   exact S.inj m j b p1 p2 hmj q1 q2 r1 r2
mutual
theorem Den.off{K:PySem.W.Frag}{μ:List Addr}{H:Hp}{a:Addr}{ob:Obj}{ws:List (L2.Key×V)}(ha:H a=some (.frz ob (.dK ws))):∀{d:M3.D} {v:V},Den K H μ d v->Den K (upd H a (.dK ws)) μ d v
 | .non,_,h=>h
 | .bl _,_,h=>h
 | .int _,_,h=>h
 | .str _,_,h=>h
 | .ref _,_,h=>h
 | .tup ds,_,⟨b,vs,e,h,r⟩=>by
   refine⟨b,vs,e,?_,az.off ha r⟩
   rcases h with (h |⟨o,h⟩) |h
   · exact .inl (.inl (by rw[aJ (by rintro rfl;rw[ha]at h;cases h)];exact h))
   · exact .inl (.inr ⟨o,by rw[aJ (by rintro rfl;rw[ha]at h;cases h)];exact h⟩)
   · exact .inr h
theorem az.off{K:PySem.W.Frag}{μ:List Addr}{H:Hp}{a:Addr}{ob:Obj}{ws:List (L2.Key×V)}(ha:H a=some (.frz ob (.dK ws))):∀{ds:List M3.D} {vs:List V},az K H μ ds vs->az K (upd H a (.dK ws)) μ ds vs
 | [],_,h=>h
 |_ :: _,_,⟨v,r,e,h,t⟩=>⟨v,r,e,Den.off ha h,az.off ha t⟩
end
theorem xC{α β:Type}{R:α->β->Prop}:∀{xs:List α} {ys:List β} {i:Nat} {x:α},Paired R xs ys->xs[i]? =some x->∃y,ys[i]? =some y/\R x y
 |_,_,_,_,.nil,e=>by simp at e
 |_,_,0,_,.cons h t,e=>by simp at e;subst e;exact⟨_,rfl,h⟩
 |_,_,i+1,_,.cons h t,e=>by
  obtain⟨y,h1,h2⟩:=xC (i:=i) t (by simpa using e)
  exact⟨y,by simpa using h1,h2⟩
def zT{Z:Nat->M3.Hh->Prop}{n:Nat}{kvs:List (M3.Key×M3.D)}{m:M3.M (M3.Fl×M3.St)}{G:M3.Hh}{P:M3.Fl×M3.St->M3.Hh->Prop}(h:M3.run (M3.uC n kvs m) G P Z):
 M3.run m (G.set n (.dF kvs)) (fun p G'=>G'[n]? =some (.dF kvs)/\P p (G'.set n (.dK kvs))) (fun _ _=>False):=by
 unfold M3.run M3.uC at*
 cases q:m (G.set n (.dF kvs))with
 |none=>rw[q]at h;exact h
 |some z=>
  obtain⟨o,G1⟩:=z
  rw[q]at h
  cases o with
  |ok a=>
   dsimp only at h ⊢
   by_cases c:G1[n]? =some (.dF kvs)
   · rw[if_pos c]at h;exact⟨c,h⟩
   · rw[if_neg c]at h;exact False.elim h
  |exc c=>exact False.elim h
def D2(X:Cx)(D:Ends):Ends where
 nx:=fun σ H=>∃d ob kvs,H d=some (.frz ob (.dK kvs))/\(∀o u,X.H₀ d≠some (.frz o u))/\D.nx σ (upd H d (.dK kvs))
 rt:=fun v H=>∃d ob kvs,H d=some (.frz ob (.dK kvs))/\(∀o u,X.H₀ d≠some (.frz o u))/\D.rt v (upd H d (.dK kvs))
 bk:=fun σ H=>∃d ob kvs,H d=some (.frz ob (.dK kvs))/\(∀o u,X.H₀ d≠some (.frz o u))/\D.bk σ (upd H d (.dK kvs))
 ct:=fun σ H=>∃d ob kvs,H d=some (.frz ob (.dK kvs))/\(∀o u,X.H₀ d≠some (.frz o u))/\D.ct σ (upd H d (.dK kvs))
theorem SP.qx{pins:List (Addr×Obj)}{D:Ends}{f:Flow}{s':Shared}(h:SP X pins (D2 X D) f s'):SP X pins D f s':=by
 cases f with
 |next=>obtain⟨σ',H',I,d,ob,kvs,hd,nf,q⟩:=h;exact⟨σ',_,I.qx hd nf,q⟩
 |brk=>obtain⟨σ',H',I,d,ob,kvs,hd,nf,q⟩:=h;exact⟨σ',_,I.qx hd nf,q⟩
 |cont=>obtain⟨σ',H',I,d,ob,kvs,hd,nf,q⟩:=h;exact⟨σ',_,I.qx hd nf,q⟩
 |ret u=>obtain⟨v,σ',H',I,r,d,ob,kvs,hd,nf,q⟩:=h;exact⟨v,σ',_,I.qx hd nf,r,q⟩
def Dp{elts:List Expr}{k:Nat}{ptg:Pos}{body:List Stmt}{g:M3.D->M3.St->M3.M M3.St}{f:M3.S3}(hp:PassesOwn (model X.prog X.w) X.A X.env X.xe)(hc:X.calm=true)(ho:PE X o (tE T X.K Y fa))(hg:PG X (.Tuple elts k ptg) (tG T X.K Y g))(hb:PSs X body (tS T X.K Y f))
 (hbase:attributeBase o "items" X.env (eval o X.env)=eval o X.env:=by rfl) (hline:(apos.endLine==ipos.line)=true:=by rfl)
 (hs:∀x,foldedSetIterable (.Call (.Attribute o "items" apos) [] [] ipos) X.env x=pure x:=by intro _;rfl):PS X (.For (.Tuple elts k ptg) (.Call (.Attribute o "items" apos) [] [] ipos) body [] pos) (tS T X.K Y (M3.vT fa g f)):=by
 intro pins s σ H D I ⟨μ,σ3,G,S,sd,h⟩
 refine wpAny_mono (AB hp hc (Am (elts:=elts) (k:=k) (ptg:=ptg) (apos:=apos) (ipos:=ipos) ho hbase hline) hg hb hs pins s σ H (D2 X D) I ⟨μ,σ3,G,S,sd,bG h fun x G1 v H1 μ1 u1 S1 d1 h1=>?_⟩) (fun _ _ z=>SP.qx z) fun _ _ z=>z
 unfold M3.xc at h1
 cases x with
 |ref n=>
  obtain⟨c,ec,rfl⟩:=d1
  have h1:M3.run (fun G=>match G[n]? with
   |some (.dK kvs)=>M3.uC n kvs (M3.forL (fun _=>true) (fun x σ=>M3.bnd (g x σ) f) (M3.fq kvs) σ3) G
   |_=>none) G1 (eL T X.K μ H D) (Y.x μ1 H1):=h1
  unfold M3.run at h1
  dsimp only at h1
  cases q:G1[n]? with
  |none=>rw[q]at h1;exact False.elim h1
  |some ob1=>
   have od:=S1.obj n c ob1 ec q
   rw[q]at h1
   cases ob1 with
   |dK kvs=>
    obtain⟨ws,e1,r⟩:=od
    refine⟨c,ws,rfl,e1,fun ob nf=>?_⟩
    have hw:=zT (P:=eL T X.K μ H D) (Z:=Y.x μ1 H1) h1
    have u2:Up μ1 μ1 H1 (upd H1 c (.frz ob (.dK ws))):=Up.set S1 _ ec q rfl
    have S2:Sim T X.K μ1 (upd H1 c (.frz ob (.dK ws))) (G1.set n (.dF kvs)):=S1.set ec q rfl rfl ⟨ob,ws,aO,Paired.imp' (fun _ _ z=>⟨z.1,Den.up u2 z.2⟩) r⟩
    have len:(M3.fq kvs).length=ws.length:=by unfold M3.fq;rw[qM_];exact Paired.length r
    refine⟨fun i m σ' H'=>m=ws.length - i/\i<=ws.length/\∃μ' σ3' G',Up μ1 μ' (upd H1 c (.frz ob (.dK ws))) H'/\Sim T X.K μ' H' G'/\StD X.K H' μ' σ3' σ'/\M3.run (M3.forL (fun _=>true) (fun x σ=>M3.bnd (g x σ) f) ((M3.fq kvs).drop i) σ3') G' (fun p G'=>G'[n]? =some (.dF kvs)/\eL T X.K μ H D p (G'.set n (.dK kvs))) (Y.x μ' H'),
     ⟨_,rfl,qf_ _,μ1,σ3,_,Up.refl _ _,S2,(sd.up u1).up u2,M3.au hw (fun _ _ z=>z) fun _ _ z=>z.elim⟩,?_⟩
    have fin:∀{σ':L2.St} {H':Hp} {μ':List Addr} {p:M3.Fl×M3.St} {G':M3.Hh},Up μ1 μ' (upd H1 c (.frz ob (.dK ws))) H'->Sim T X.K μ' H' G'->G'[n]? =some (.dF kvs)->eL T X.K μ H D p (G'.set n (.dK kvs))->
     H' c=some (.frz ob (.dK ws))/\eL T X.K μ' (upd H' c (.dK ws)) D p (G'.set n (.dK kvs))/\Sim T X.K μ' (upd H' c (.dK ws)) (G'.set n (.dK kvs))/\(StD X.K H' μ' p.2 σ'->StD X.K (upd H' c (.dK ws)) μ' p.2 σ'):=by
     intro σ' H' μ' p G' u' S' hn hP
     have hf:H' c=some (.frz ob (.dK ws)):=u'.keeps.frz c ob _ aO
     have ut:Up μ1 μ' H1 (upd H' c (.dK ws)):=Up.qx ec e1 u'
     refine⟨hf,hP.up (u1.trans ut),Sim.qx S' (u'.at ec) hn hf (.inr True.intro) (Paired.imp' (fun _ _ z=>⟨z.1,Den.up ut z.2⟩) r) (fun _ _ z=>Den.off hf z) fun _ _ z=>az.off hf z,fun sd'=>⟨sd'.len,fun i d e=>let ⟨v,e1,dv⟩:=sd'.at_ i d e;⟨v,e1,Den.off hf dv⟩⟩⟩
    rintro i m σ' H' ⟨rfl,hi,μ',σ3',G',u',S',sd',q'⟩
    have hf:H' c=some (.frz ob (.dK ws)):=u'.keeps.frz c ob _ aO
    by_cases hlt:i < ws.length
    · rw[List.drop_eq_getElem_cons (by rw[len];exact hlt)]at q'
      obtain⟨_,q2⟩:=rl q'
      have ex:(M3.fq kvs)[i]? =some ((M3.fq kvs)[i]'(by rw[len];exact hlt)):=qA_ _
      generalize (M3.fq kvs)[i]'(by rw[len];exact hlt)=it at ex q2
      refine .inr ⟨⟨hf,hlt⟩,fun σ2 H2=>∃μ2 σ4 G2,Up μ1 μ2 (upd H1 c (.frz ob (.dK ws))) H2/\Sim T X.K μ2 H2 G2/\StD X.K H2 μ2 σ4 σ2/\M3.run (M3.forL (fun _=>true) (fun x σ=>M3.bnd (g x σ) f) ((M3.fq kvs).drop (i+1)) σ4) G2 (fun p G'=>G'[n]? =some (.dF kvs)/\eL T X.K μ H D p (G'.set n (.dK kvs))) (Y.x μ2 H2),
       fun σ2 H2 hN=>⟨_,by omega,rfl,hlt,hN⟩,fun x H'' y=>?_⟩
      obtain⟨k0,v0,t,hkv,ht,rfl,rfl⟩:=y
      have sm:fU H' (upd H' t (.tup [kV k0,v0])):=fU.new _ ht
      have us:Up μ' μ' H' (upd H' t (.tup [kV k0,v0])):=Up.same sm
      have dit:Den X.K (upd H' t (.tup [kV k0,v0])) μ' it (.ref t):=by
       unfold M3.fq at ex
       rw[qQ_]at ex
       cases z:kvs[i]? with
       |none=>rw[z]at ex;cases ex
       |some kd=>
        rw[z]at ex
        cases ex
        obtain⟨q0,z2,h2,h3⟩:=xC r z
        rw[hkv]at z2
        cases z2
        obtain⟨kk,dd⟩:=kd
        have h2:kk=k0:=h2
        subst h2
        refine⟨t,[kV kk,v0],rfl,SqT.of aO,⟨_,_,rfl,?_,_,_,rfl,Den.up us (Den.up u' (Den.up u2 h3)),rfl⟩⟩
        cases kk <;> rfl
      refine⟨μ',σ3',G',_,S'.same sm,sd'.up us,dit,cD (Y.upE us (M3.aS (M3.aS q2))) fun σ5 G5 q5 σ6 H6 μ6 u6 S6 sd6=>?_⟩
      have u6:=us.trans u6
      refine⟨μ6,σ5,G5,S6,sd6,cD (Y.upE u6 q5) fun p G7 q7 σ7 H7 μ7 u7 S7 sd7=>?_⟩
      obtain⟨fl,σ8⟩:=p
      have up:=u'.trans (u6.trans u7)
      cases fl with
      |next=>exact⟨μ7,σ8,G7,up,S7,sd7,Y.upE (u6.trans u7) q7⟩
      |cont=>exact⟨μ7,σ8,G7,up,S7,sd7,Y.upE (u6.trans u7) q7⟩
      |brk=>
       obtain⟨hn,hP⟩:=q7
       obtain⟨z1,z2,z3,z4⟩:=fin (σ':=σ7) up S7 hn hP
       exact⟨c,ob,ws,z1,nf,z2 σ7 _ μ7 (Up.refl _ _) z3 (z4 sd7)⟩
      |ret d=>
       obtain⟨hn,hP⟩:=q7
       obtain⟨z1,z2,z3,z4⟩:=fin (σ':=σ7) up S7 hn hP
       exact fun v dv=>⟨c,ob,ws,z1,nf,z2 σ7 _ μ7 (Up.refl _ _) z3 (z4 sd7) v (Den.off z1 dv)⟩
    · have e:i=ws.length:=by omega
      subst e
      rw[<-len,List.drop_length]at q'
      obtain⟨_,hn,hP⟩:=uZ q'
      obtain⟨z1,z2,z3,z4⟩:=fin (σ':=σ') u' S' hn hP
      exact .inl ⟨⟨hf,qO_ _⟩,c,ob,ws,z1,nf,z2 σ' _ μ' (Up.refl _ _) z3 (z4 sd')⟩
   |_=>exact False.elim h1
 |_=>exact False.elim h1
theorem gi(K:PySem.W.Frag)(k:M3.Kd):∀cs:List M3.Kd,PySem.W.kitAny K (.type (kn k)) (cs.map fun c=>Value.type (kn c))=some (cs.any (M3.jW k ·))
 | []=>rfl
 |c :: r=>by
  show (match PySem.W.kitOne K (.type (kn k)) (.type (kn c))with
   |some true=>some true
   |some false=>PySem.W.kitAny K (.type (kn k)) (r.map fun c=>Value.type (kn c))
   |none=>none)=_
  rw[iR,List.any_cons]
  cases M3.jW k c with
  |true=>rfl
  |false=>rw[Bool.false_or];exact gi K k r
theorem xH:∀{cs:List M3.Kd} {us:List Value},Vals (cs.map fun c=>V.ty (kn c)) us->us=cs.map fun c=>Value.type (kn c)
 | [],_,h=>by cases h;rfl
 |c :: r,_,h=>by
  cases h with
  |cons h t=>
   rw[List.map_cons,<-xH t]
   congr 1
def zO:fw X (.builtin "isinstance") (fun xs H Q=>∃x k,∃cs:List M3.Kd,∃t,xs=[x,.ref t]/\H t=some (.tup (cs.map fun c=>V.ty (kn c)))/\TyD X.K H x k/\Q (.bl (cs.any (M3.jW k ·))) H):=by
 intro pins s σ H xs us Q I r h
 obtain⟨x,k,cs,t,rfl,htu,ty,q⟩:=h
 obtain⟨u,w',rfl,ru,rc⟩:=vals2 r
 cases (show w'=Value.ref t from rc)
 obtain⟨_,its,rv,⟨⟨oc,od,odt,osl⟩,ho,hcl,nn,hdt⟩⟩:=(show bR X.prog X.w H s.heap t (.tup _)from I.hok t _ htu)
 have hcl:oc= .type "tuple":=hcl
 have hdt:odt= .seq its.toArray nn:=hdt
 subst hcl hdt
 rw[xH rv]at ho
 have fin:∀tk,EP X pins σ Q (.bool (cs.any (M3.jW k ·))) {s with toks:=tk}:=fun tk=>⟨.bl _,H,I.tok tk,rfl,q⟩
 cases x with
 |non=>cases (show u=Value.none from ru);cases (show k= .non from ty);exact PySem.W.kia_tup PySem.W.kitx_none I.kIn True.intro ho (gi X.K .non cs) (fun z=>nomatch z) fin
 |bl y=>cases (show u=Value.bool y from ru);cases (show k= .bl from ty);exact PySem.W.kia_tup PySem.W.kitx_bool I.kIn True.intro ho (gi X.K .bl cs) (fun z=>nomatch z) fin
 |int y=>obtain⟨t,rfl⟩:=(show ∃t,u=Value.int y t from ru);cases (show k= .int from ty);exact PySem.W.kia_tup PySem.W.kitx_int I.kIn True.intro ho (gi X.K .int cs) (fun z=>nomatch z) fin
 |str y=>obtain⟨t,rfl⟩:=(show ∃t,u=Value.str y t from ru);cases (show k= .str from ty);exact PySem.W.kia_tup PySem.W.kitx_str I.kIn True.intro ho (gi X.K .str cs) (fun z=>nomatch z) fin
 |ref a=>
  cases (show u=Value.ref a from ru)
  rcases ty with ⟨rfl,xs,sq⟩ |⟨rfl,xs,sq⟩ |⟨rfl,⟨kvs,ea⟩ |⟨kvs,ea⟩⟩
  · obtain⟨its,_,⟨ob,n,h1,h2,_⟩,_⟩:=I.list sq
    exact PySem.W.kia_tup PySem.W.kitx_list I.kIn ⟨ob,h1,h2⟩ ho (gi X.K .lst cs) (fun z=>nomatch z) fin
  · obtain⟨its,_,⟨ob,h1,h2,_⟩,_⟩:=I.tuple sq
    exact PySem.W.kia_tup PySem.W.kitx_tuple I.kIn ⟨ob,h1,h2⟩ ho (gi X.K .tup cs) (fun z=>nomatch z) fin
  · obtain⟨_,_,vs,_,pd⟩:=(show bR X.prog X.w H s.heap a (.dK kvs)from I.hok a _ ea)
    obtain⟨ob,es,ep,h1,h2,_⟩:=pd
    exact PySem.W.kia_tup PySem.W.kitx_dict I.kIn ⟨ob,h1,h2.1⟩ ho (gi X.K .dic cs) (fun z=>nomatch z) fin
  · obtain⟨_,_,xs,_,ob,es,ep,h1,h2,_⟩:=(show bR X.prog X.w H s.heap a (.dT kvs)from I.hok a _ ea)
    exact PySem.W.kia_tup PySem.W.kitx_dict I.kIn ⟨ob,h1,h2.1⟩ ho (gi X.K .dic cs) (fun z=>nomatch z) fin
 |_=>exact False.elim ty
def FT(c1 c2:M3.Kd){n1 n2:Str}{q1 q2 pt:Pos}{x1:Nat}(hi:X.mg "isinstance"=none)(hm1:X.mg n1=none)(hm2:X.mg n2=none)(ha:PE X e (tE T X.K Y fa))
 (hn1:bootBuiltins n1=some (.type (kn c1)):=by first |exact boot_int |exact boot_bool |exact boot_str |exact boot_tuple |exact boot_list |exact boot_dict) (hn2:bootBuiltins n2=some (.type (kn c2)):=by first |exact boot_int |exact boot_bool |exact boot_str |exact boot_tuple |exact boot_list |exact boot_dict)
 (hg:Gl X "isinstance":=by rfl) (hg1:Gl X n1:=by rfl) (hg2:Gl X n2:=by rfl) (hN1:n1≠"__name__":=by decide) (hN2:n2≠"__name__":=by decide) (hdb1:(n1==("__debug__":Str))=false:=by decide) (hdb2:(n2==("__debug__":Str))=false:=by decide)
 (he:starEach [e,.Tuple [.Name n1 q1,.Name n2 q2] x1 pt] X.env=(false,eval e X.env) :: starEach [.Tuple [.Name n1 q1,.Name n2 q2] x1 pt] X.env:=by rfl) (he2:starEach [.Tuple [.Name n1 q1,.Name n2 q2] x1 pt] X.env=(false,eval (.Tuple [.Name n1 q1,.Name n2 q2] x1 pt) X.env) :: starEach [] X.env:=by rfl)
 (hs1:starEach [.Name n1 q1,.Name n2 q2] X.env=(false,eval (.Name n1 q1) X.env) :: starEach [.Name n2 q2] X.env:=by rfl) (hs2:starEach [.Name n2 q2] X.env=(false,eval (.Name n2 q2) X.env) :: starEach [] X.env:=by rfl)
 (hpl:(backTo pos (starEach [.Tuple [.Name n1 q1,.Name n2 q2] x1 pt] X.env)).any (·.1)=false:=by rfl):PE X (.Call (.Name "isinstance" p) [e,.Tuple [.Name n1 q1,.Name n2 q2] x1 pt] [] pos) (tE T X.K Y (M3.av (M3.yK [c1,c2]) (M3.aa fa M3.ai))):=by
 refine PE.of (oZ zO hg hi boot_isinstance (dU ha (dU (Ak (dU (tq hg1 hm1 hn1 (v:= .ty (kn c1)) rfl hN1 hdb1) (dU (tq hg2 hm2 hn2 (v:= .ty (kn c2)) rfl hN2 hdb2) jA hs2) hs1)) jA he2) he) (by decide) (by decide) he hpl) fun σ H Q ⟨μ,σ3,G,S,sd,h⟩=>?_
 refine⟨μ,σ3,G,S,sd,bG (M3.aS h) fun d G1 v H1 μ1 u1 S1 d1 h1=>?_⟩
 have h2:M3.run (M3.yK [c1,c2] [d]) G1 (cW T X.K μ H Q) (Y.x μ H):=h1
 unfold M3.run M3.yK at h2
 dsimp only at h2
 cases q:M3.kdOf G1 d with
 |none=>rw[q]at h2;exact False.elim h2
 |some k=>
  rw[q]at h2
  refine⟨by rw[sizeLine_eq];exact qP_ rfl,fun t ht=>?_⟩
  have us:Up μ1 μ1 H1 (upd H1 t (.tup [.ty (kn c1),.ty (kn c2)])):=Up.same (fU.new _ ht)
  exact⟨v,k,[c1,c2],t,rfl,aO,D8 (S1.same (fU.new _ ht)) (Den.up us d1) q,h2 _ _ μ1 (u1.trans us) (S1.same (fU.new _ ht)) rfl⟩
end
open PySem PySem.Spec PyProof.Rows L2
def CC{X:Cx}{T:Tab}{Y:EX}{sts:List Stmt}:PSs X sts (tS T X.K Y M3.D3):=fun pins s σ H D I ⟨μ,σ3,G,S,sd,h⟩=>False.elim h
def xR{CX:CXT}{P:Program}{w:World}{K:PySem.W.Frag}{mg:Str->Option Value}{base:Heap}{N:List Str}{qual:Str}{scope:Scope}{fa:Addr}{cd:Value}{A:Around}{outer:List Env}{s:Shared}{H:Hp}{E:XK}:
 Own (lA CX P w K mg base N qual scope fa cd A outer s H E).nox:=⟨rfl,rfl,rfl,rfl⟩
def clF(cs xs:List Addr)(c:Nat):Option Addr:=if c < 1000 then cs[c]? else xs[c - 1000]?
def Ff{cs xs:List Addr}{c:Nat}{Ca:Addr}(e:clF cs xs c=some Ca)(hc:c < 1000):Ca∈cs:=by
 unfold clF at e
 rw[if_pos hc]at e
 exact qD_ e
def clP(cs xs:List Addr):List (Addr×Nat):=cs.mapIdx (fun i a=>(a,i))++xs.mapIdx fun i a=>(a,1000+i)
def GZ{cs xs:List Addr}{c:Nat}{Ca:Addr}(e:clF cs xs c=some Ca):(Ca,c)∈clP cs xs:=by
 unfold clF at e
 unfold clP
 by_cases hc:c < 1000
 · rw[if_pos hc]at e
   refine qF_ _ (qD_ (i:=c) ?_)
   rw[List.getElem?_mapIdx,e];rfl
 · rw[if_neg hc]at e
   refine qE_ _ (qD_ (i:=c - 1000) ?_)
   rw[List.getElem?_mapIdx,e]
   show some (Ca,1000+(c - 1000))=some (Ca,c)
   rw[show 1000+(c - 1000)=c by omega]
def mC{K:PySem.W.Frag}{cs xs:List Addr}{C:Addr}{k:Nat}(h:((clP cs xs).all fun p=>PySem.W.exmOne K (.ref p.1) (.ref C)==some (decide (p.2=k)))=true){c:Nat}{Ca:Addr}(e:clF cs xs c=some Ca):PySem.W.exmOne K (.ref Ca) (.ref C)=some (decide (c=k)):=
 eq_of_beq (List.all_eq_true.mp h _ (GZ e))
def getD_inj{L:List Str}(nd:L.Nodup)(ne:Str.empty∉L){f g:Nat}(hf:f < L.length)(h:L.getD g Str.empty=L.getD f Str.empty):g=f:=by
 have e1:L.getD f Str.empty=L[f]:=by rw[List.getD_eq_getElem?_getD,qA_ hf];rfl
 by_cases hg:g < L.length
 · have e2:L.getD g Str.empty=L[g]:=by rw[List.getD_eq_getElem?_getD,qA_ hg];rfl
   rw[e1,e2]at h
   exact(List.getElem_inj nd).mp h
 · have e2:L.getD g Str.empty=Str.empty:=by rw[List.getD_eq_getElem?_getD,List.getElem?_eq_none (by omega)];rfl
   rw[e1,e2]at h
   exact absurd (h ▸ List.getElem_mem hf) ne
def GQ{L:List Str}{K:PySem.W.Frag}{cl:Nat->Option Addr}{Cs:List Addr}{f:Nat}(hcl:∀c Ca,cl c=some Ca->c < 1000->Ca∈Cs)(hC:∀Ca,Ca∈Cs->Cls K Ca/\∀x∈L,jg K Ca x)(nd:L.Nodup)(ne:Str.empty∉L)(hf:f < L.length):
 xV ⟨cl,fun g=>L.getD g Str.empty⟩ K f:=by
 refine⟨fun C Ca hlt e=>?_,fun g h=>getD_inj nd ne hf h⟩
 obtain⟨h1,h2⟩:=hC Ca (hcl C Ca e hlt)
 refine⟨h1,h2 _ ?_⟩
 show L.getD f Str.empty∈L
 rw[List.getD_eq_getElem?_getD,qA_ hf]
 exact List.getElem_mem hf
def IL{L:List Str}{m:Str}(h:m∉L)(h0:m≠Str.empty)(g:Nat):L.getD g Str.empty≠m:=by
 intro e
 by_cases hg:g < L.length
 · rw[List.getD_eq_getElem?_getD,qA_ hg]at e
   exact h (e ▸ List.getElem_mem hg)
 · rw[List.getD_eq_getElem?_getD,List.getElem?_eq_none (by omega)]at e
   exact h0 e.symm
def AO(nm:Nat->Str)(K:PySem.W.Frag)(n:Nat)(f:List M3.D->M3.M M3.D):Sp:=fun vs H Q E=>∀cl,sp3 ⟨cl,nm⟩ K n f vs H Q E
def Fw{P:Program}{w:World}{K:PySem.W.Frag}{mg:Str->Option Value}{base:Heap}{CX:CXT}{k n:Nat}{fa:Addr}{fd:FuncData}{ps:List Str}{nm:Nat->Str}{f:List M3.D->M3.M M3.D}{cl:Nat->Option Addr}(F:aQ P w K mg base CX k fa fd ps (sp3 ⟨cl,nm⟩ K n f)):
 aQ P w K mg base CX k fa fd ps (AO nm K n f):=F.imp fun vs H Q E q=>q cl
def CI{nm:Nat->Str}{K:PySem.W.Frag}{f:List M3.D->M3.M M3.D}{n:Nat}(h:∀ns:List Int,ns.length<=n->M3.run (f [.ref 0]) [.frz (ns.map M3.D.int)] (fun d _=>d= .bl true) fun _ _=>False)
 {H:Hp} {a:Addr} {ns:List Int} (hl:ns.length<=n) (hO:BY H) (sq:SqL K H a (ns.map V.int)):AO nm K 1 f [.ref a] H (fun v _=>v= .bl true) fun _ _ _=>False:=fun cl=>GP h hl hO sq
open PySem
def zM{xs:List Expr}{k:Nat}{p:Pos}{es:List Expr}{env:Env}:starEach (.Tuple xs k p :: es) env=(false,eval (.Tuple xs k p) env) :: starEach es env:=rfl
def BX{xs:List Expr}{p:Pos}{es:List Expr}{env:Env}:starEach (.List xs p :: es) env=(false,eval (.List xs p) env) :: starEach es env:=rfl
def qj{c:Const}{k:Nat}{p:Pos}{es:List Expr}{env:Env}:starEach (.Constant c k p :: es) env=(false,eval (.Constant c k p) env) :: starEach es env:=rfl
def fE{x:Str}{p:Pos}{es:List Expr}{env:Env}:starEach (.Name x p :: es) env=(false,eval (.Name x p) env) :: starEach es env:=rfl
def kG{f:Expr}{as:List Expr}{ks:List Keyword}{p:Pos}{es:List Expr}{env:Env}:starEach (.Call f as ks p :: es) env=(false,eval (.Call f as ks p) env) :: starEach es env:=rfl
def zJ{a b:Expr}{o:Operator}{p:Pos}{es:List Expr}{env:Env}:starEach (.BinOp a o b p :: es) env=(false,eval (.BinOp a o b p) env) :: starEach es env:=rfl
def pW{a b:Expr}{p:Pos}{es:List Expr}{env:Env}:starEach (.Subscript a b p :: es) env=(false,eval (.Subscript a b p) env) :: starEach es env:=rfl
def kY{a:Expr}{x:Str}{p:Pos}{es:List Expr}{env:Env}:starEach (.Attribute a x p :: es) env=(false,eval (.Attribute a x p) env) :: starEach es env:=rfl
def Al{a:Expr}{os:List CmpOp}{bs:List Expr}{p:Pos}{es:List Expr}{env:Env}:starEach (.Compare a os bs p :: es) env=(false,eval (.Compare a os bs p) env) :: starEach es env:=rfl
def Fj{xs:List Expr}{p:Pos}{t:Option Expr}{l:Nat}{env:Env}:swapsWith (.List xs p) t l env=pure false:=rfl
def DF{x:Str}{p:Pos}{t:Option Expr}{l:Nat}{env:Env}:swapsWith (.Name x p) t l env=pure false:=rfl
def si{f:Expr}{as:List Expr}{ks:List Keyword}{p:Pos}{t:Option Expr}{l:Nat}{env:Env}:swapsWith (.Call f as ks p) t l env=pure false:=rfl
def Fo{a b:Expr}{o:Operator}{p:Pos}{t:Option Expr}{l:Nat}{env:Env}:swapsWith (.BinOp a o b p) t l env=pure false:=rfl
def GB{a b:Expr}{p:Pos}{t:Option Expr}{l:Nat}{env:Env}:swapsWith (.Subscript a b p) t l env=pure false:=rfl
def Dl{a:Expr}{x:Str}{p:Pos}{t:Option Expr}{l:Nat}{env:Env}:swapsWith (.Attribute a x p) t l env=pure false:=rfl
def IQ{a:Expr}{o:UnaryOp}{p:Pos}{t:Option Expr}{l:Nat}{env:Env}:swapsWith (.UnaryOp o a p) t l env=pure false:=rfl
def zC{T:Tab}{X:Cx}{Y:EX}{o e:Expr}{fa fb:M3.E3}{apos pos:Pos}(ho:PE X o (tE T X.K Y fa))(he:PE X e (tE T X.K Y fb))
 (hs:starEach (e :: []) X.env=(false,eval e X.env) :: starEach [] X.env)
 (hbase:attributeBase o "extend" X.env (eval o X.env)=eval o X.env:=by rfl)
 (hline:(apos.endLine==pos.line)=true:=by rfl):
 PE X (.Call (.Attribute o "extend" apos) [e] [] pos) (tE T X.K Y (M3.vm fa fb)):=by
 refine mv ho he hbase ?_ hline hs rfl
 rw[hs]
 rfl
section
variable{X:Cx}{T:Tab}{Y:EX}{a b:Expr}{fa fb:M3.E3}{pos:Pos}
def E9(ha:PE X a (tE T X.K Y fa))(hb:PE X b (tE T X.K Y fb)):PE X (.BinOp a .Add b pos) (tE T X.K Y (M3.eOp M3.fW fa fb)):=wY xI ha hb
def E5(ha:PE X a (tE T X.K Y fa))(hb:PE X b (tE T X.K Y fb)):PE X (.BinOp a .Sub b pos) (tE T X.K Y (M3.eOp M3.rR fa fb)):=wY Dd ha hb
def ED(ha:PE X a (tE T X.K Y fa))(hb:PE X b (tE T X.K Y fb)):PE X (.BinOp a .Mult b pos) (tE T X.K Y (M3.eOp M3.eP fa fb)):=wY Cn ha hb
def GH(ha:PE X a (tE T X.K Y fa))(hb:PE X b (tE T X.K Y fb)):PE X (.BinOp a .Mod b pos) (tE T X.K Y (M3.eOp M3.oMod fa fb)):=wY xD ha hb
def E2(ha:PE X a (tE T X.K Y fa))(hb:PE X b (tE T X.K Y fb)):PE X (.BinOp a .FloorDiv b pos) (tE T X.K Y (M3.eOp M3.oDiv fa fb)):=wY Cu ha hb
def IJ(ha:PE X a (tE T X.K Y fa))(hb:PE X b (tE T X.K Y fb))(hu:X.A.units+64 < cLine):PE X (.Compare a [.Eq] [b] pos) (tE T X.K Y (M3.eOp M3.oEq fa fb)):=Ac (Ej hu) ha hb (lK _)
def IF(ha:PE X a (tE T X.K Y fa))(hb:PE X b (tE T X.K Y fb))(hu:X.A.units+64 < cLine):PE X (.Compare a [.Gt] [b] pos) (tE T X.K Y (M3.eOp M3.oGt fa fb)):=Ac (Ed hu) ha hb (lK _)
def HM(ha:PE X a (tE T X.K Y fa))(hb:PE X b (tE T X.K Y fb))(hu:X.A.units+64 < cLine):PT X (.Compare a [.Eq] [b] pos) (tT T X.K Y (M3.tB (M3.eOp M3.oEq fa fb))):=oa (Ej hu) ha hb (lK _)
def Ja(ha:PE X a (tE T X.K Y fa))(hb:PE X b (tE T X.K Y fb))(hu:X.A.units+64 < cLine):PT X (.Compare a [.NotEq] [b] pos) (tT T X.K Y (M3.tB (M3.eOp M3.oNe fa fb))):=oa (Iu hu) ha hb (lK _)
def Ij(ha:PE X a (tE T X.K Y fa))(hb:PE X b (tE T X.K Y fb))(hu:X.A.units+64 < cLine):PT X (.Compare a [.Lt] [b] pos) (tT T X.K Y (M3.tB (M3.eOp M3.oLt fa fb))):=oa (Ik hu) ha hb (lK _)
def Iq(ha:PE X a (tE T X.K Y fa))(hb:PE X b (tE T X.K Y fb))(hu:X.A.units+64 < cLine):PT X (.Compare a [.Gt] [b] pos) (tT T X.K Y (M3.tB (M3.eOp M3.oGt fa fb))):=oa (Ed hu) ha hb (lK _)
def IE(ha:PE X a (tE T X.K Y fa))(hb:PE X b (tE T X.K Y fb))(hu:X.A.units+64 < cLine):PT X (.Compare a [.GtE] [b] pos) (tT T X.K Y (M3.tB (M3.eOp M3.oGe fa fb))):=oa (Iw hu) ha hb (lK _)
def Em(ha:PE X a (tE T X.K Y fa))(hb:PE X b (tE T X.K Y fb))(hu:X.A.units+64 < cLine)(hm:behindInMarks .In b=false:=by rfl):PE X (.Compare a [.In] [b] pos) (tE T X.K Y (M3.eOp M3.oIn fa fb)):=Ac (Ec hu) ha hb hm
def Ef(ha:PE X a (tE T X.K Y fa))(hb:PE X b (tE T X.K Y fb))(hu:X.A.units+64 < cLine)(hm:behindInMarks .In b=false:=by rfl):PT X (.Compare a [.In] [b] pos) (tT T X.K Y (M3.tB (M3.eOp M3.oIn fa fb))):=oa (Ec hu) ha hb hm
def ux(ha:PE X a (tE T X.K Y fa))(hb:PE X b (tE T X.K Y fb))(hu:X.A.units+64 < cLine)(hm:behindInMarks .NotIn b=false:=by rfl):PT X (.Compare a [.NotIn] [b] pos) (tT T X.K Y (M3.tB (M3.eOp M3.il fa fb))):=oa (uu hu) ha hb hm
end
section
variable{X:Cx}{T:Tab}{Y:EX}{K:PySem.W.Frag}{o e:Expr}{es:List Expr}{fa:M3.E3}{f3:M3.A3}{pos p:Pos}{x:Str}{C:Nat}{f:List M3.D->M3.M M3.D}
def DN(h:False):PE X (.Call (.Name x p) (e :: es) [] pos) (tE T K Y (M3.av f f3)):=h.elim
def DA(h:False):PE X (.Call (.Attribute o x p) (e :: es) [] pos) (tE T K Y (M3.aL C f fa f3)):=h.elim
def Bk(h:False):PE X (.Call (.Attribute o x p) [] [] pos) (tE T K Y (M3.aL C f fa f3)):=h.elim
def Co(h:False):PE X (.Call (.Name x p) (e :: es) [] pos) (tE T K Y (M3.jC C f f3)):=h.elim
def zo(h:False):PE X (.Call (.Name x p) [] [] pos) (tE T K Y (M3.jC C f f3)):=h.elim
end
end L3
namespace HT
open PySem PySem.W PyProof.Rows
def kOk(n:Nat)(c:Nat->Nat->Bool){α:Type}:KasT α->(α->Prop)->Prop
 | .ret a,Q=>Q a
 | .ask i j k,Q=>i < n/\j < n/\kOk n c (k (c i j)) Q
theorem iA{n:Nat}{c:Nat->Nat->Bool}{α β:Type}{f:α->KasT β}{Q:β->Prop}:∀(t:KasT α),kOk n c t (fun a=>kOk n c (f a) Q)->kOk n c (t.bind f) Q
 | .ret _,h=>h
 | .ask i j k,⟨h1,h2,h⟩=>⟨h1,h2,iA (k (c i j)) h⟩
theorem fY{n:Nat}{c:Nat->Nat->Bool}{α:Type}{Q Q':α->Prop}(hq:∀a,Q a->Q' a):∀(t:KasT α),kOk n c t Q->kOk n c t Q'
 | .ret _,h=>hq _ h
 | .ask i j k,⟨h1,h2,h⟩=>⟨h1,h2,fY hq (k (c i j)) h⟩
theorem Av{n:Nat}{c:Nat->Nat->Bool}{α:Type}{cmp:Nat->Nat->(Bool->Shared->Prop)->Shared->Prop}{s:Shared}(hc:∀i j C,i < n->j < n->C (c i j) s->cmp i j C s){Q:α->Prop}{R:α->Shared->Prop}(hR:∀a,Q a->R a s):
 ∀(t:KasT α),kOk n c t Q->t.kasWp cmp R s
 | .ret _,h=>hR _ h
 | .ask i j k,⟨h1,h2,h⟩=>hc i j _ h1 h2 (Av hc hR (k (c i j)) h)
abbrev at0(p:Array Nat)(i:Nat):Nat:=p.getD i 0
structure Ord (n:Nat) (c:Nat->Nat->Bool):Prop where
 tr:∀i j k,i < n->j < n->k < n->c i j=true->c j k=true->c i k=true
 tot:∀i j,i < n->j < n->i≠j->c i j=false->c j i=true
 as:∀i j,i < n->j < n->c i j=true->c j i=false
structure Pm (n:Nat) (p:Array Nat):Prop where
 sz:p.size=n
 pm:p.Perm (List.toArray (List.range n))
def Pm.lt{n:Nat}{p:Array Nat}(h:Pm n p){i:Nat}(hi:i < n):at0 p i < n:=by
 have hi':i < p.size:=by rw[h.sz];exact hi
 have e:at0 p i=p[i]:=by simp [at0,Array.getD,hi']
 have m:p[i]∈p.toList:=by rw[<-Array.getElem_toList];exact List.getElem_mem _
 have q:p[i]∈List.range n:=by
  have:=(Array.perm_iff_toList_perm.mp h.pm).mem_iff.mp m
  simpa using this
 rw[e]
 exact List.mem_range.mp q
theorem Pm.ne{n:Nat}{p:Array Nat}(h:Pm n p){i j:Nat}(hi:i < n)(hj:j < n)(ne:i≠j):at0 p i≠at0 p j:=by
 have hi':i < p.size:=by rw[h.sz];exact hi
 have hj':j < p.size:=by rw[h.sz];exact hj
 have e:at0 p i=p.toList[i]'(by simpa using hi'):=by simp [at0,Array.getD,hi']
 have e2:at0 p j=p.toList[j]'(by simpa using hj'):=by simp [at0,Array.getD,hj']
 have nd:p.toList.Nodup:=by
  have:=(Array.perm_iff_toList_perm.mp h.pm).nodup_iff.mpr (by simpa using List.nodup_range)
  exact this
 rw[e,e2]
 intro z
 exact ne ((List.getElem_inj nd).mp z)
def Srt(c:Nat->Nat->Bool)(p:Array Nat)(k:Nat):Prop:=∀i j,i < j->j < k->c (at0 p i) (at0 p j)=true
def Dsc(c:Nat->Nat->Bool)(p:Array Nat)(k:Nat):Prop:=∀i j,i < j->j < k->c (at0 p j) (at0 p i)=true
section
variable{n:Nat}{c:Nat->Nat->Bool}(O:Ord n c){p:Array Nat}
include O in
theorem wF(P:Pm n p):∀(f k:Nat),1<=k->k+f<=n->Srt c p k->kOk n c (kas_asc p f k) fun m=>k<=m/\m<=k+f/\Srt c p m/\(m=k+f\/c (at0 p m) (at0 p (m - 1))=true)
 |0,k,h1,hn,S=>⟨qO_ _,qO_ _,S,.inl rfl⟩
 |f+1,k,h1,hn,S=>by
  refine⟨P.lt (by omega),P.lt (by omega),?_⟩
  cases q:c (p.getD k 0) (p.getD (k - 1) 0)with
  |true=>
   show kOk n c (ite _ _ _) _
   rw[if_pos rfl]
   exact⟨qO_ _,by omega,S,.inr q⟩
  |false=>
   show kOk n c (ite _ _ _) _
   rw[if_neg qC_]
   have q':=O.tot _ _ (P.lt (by omega)) (P.lt (by omega)) (P.ne (i:=k) (j:=k - 1) (by omega) (by omega) (by omega)) q
   have S':Srt c p (k+1):=fun i j hij hj=>by
    by_cases z:j=k
    · subst z
      by_cases y:i=j - 1
      · subst y;exact q'
      · exact O.tr _ _ _ (P.lt (by omega)) (P.lt (by omega)) (P.lt (by omega)) (S i (j - 1) (by omega) (by omega)) q'
    · exact S i j hij (by omega)
   refine fY (fun m hm=>?_) _ (wF P f (k+1) (by omega) (by omega) S')
   exact⟨by omega,by omega,hm.2.2.1,by rcases hm.2.2.2 with z |z;exact .inl (by omega);exact .inr z⟩
include O in
theorem xU(P:Pm n p):∀(f k:Nat),1<=k->k+f<=n->Dsc c p k->kOk n c (kas_desc f p k 0) fun r=>r.1=p/\r.2.2=0/\k<=r.2.1/\r.2.1<=k+f/\Dsc c p r.2.1
 |0,k,h1,hn,S=>⟨rfl,rfl,qO_ _,qO_ _,S⟩
 |f+1,k,h1,hn,S=>by
  refine⟨P.lt (by omega),P.lt (by omega),?_⟩
  cases q:c (p.getD k 0) (p.getD (k - 1) 0)with
  |true=>
   show kOk n c (ite _ _ _) _
   rw[if_pos rfl,if_neg (by omega)]
   have S':Dsc c p (k+1):=fun i j hij hj=>by
    by_cases z:j=k
    · subst z
      by_cases y:i=j - 1
      · subst y;exact q
      · exact O.tr _ _ _ (P.lt (by omega)) (P.lt (by omega)) (P.lt (by omega)) q (S i (j - 1) (by omega) (by omega))
    · exact S i j hij (by omega)
   refine fY (fun r hr=>?_) _ (xU P f (k+1) (by omega) (by omega) S')
   exact⟨hr.1,hr.2.1,by omega,by omega,hr.2.2.2.2⟩
  |false=>
   show kOk n c (ite _ _ _) _
   rw[if_neg qC_]
   have q':=O.tot _ _ (P.lt (by omega)) (P.lt (by omega)) (P.ne (i:=k) (j:=k - 1) (by omega) (by omega) (by omega)) q
   refine⟨P.lt (by omega),P.lt (by omega),?_⟩
   have q':c (p.getD (k - 1) 0) (p.getD k 0)=true:=q'
   show kOk n c (ite _ _ _) _
   rw[q',if_pos rfl]
   exact⟨rfl,rfl,qO_ _,by show k<=_;omega,S⟩
def Bd(P:Pm n p){m:Nat}(hm:m<=n)(k:Nat):at0 (kas_rev p 0 m) k=if k < m then at0 p (m - 1 - k)else at0 p k:=by
 have e:=getElem?_mirror_all (xs:=p) (i:=0) (j:=m) (by rw[P.sz];exact hm) k
 have g:∀(a:Array Nat) i,at0 a i=(a[i]?).getD 0:=fun a i=>by
  unfold at0
  rw[Array.getD_eq_getD_getElem?]
 unfold kas_rev
 rw[g,e]
 by_cases h:k < m
 · rw[if_pos ⟨qf_ _,h⟩,if_pos h,g]
   congr 2
   omega
 · rw[if_neg (fun z=>h z.2),if_neg h,g]
def Pm.rev(P:Pm n p)(m:Nat):Pm n (kas_rev p 0 m):=⟨by unfold kas_rev;rw[mirror_size,P.sz],by unfold kas_rev;exact(mirror_perm _ _ _ _).trans P.pm⟩
include O in
def AM(P:Pm n p)(h2:2<=n):kOk n c (kas_count n p) fun r=>Pm n r.2/\1<=r.1/\r.1<=n/\Srt c r.2 r.1:=by
 refine iA _ (fY (fun m hm=>?_) _ (wF O P (n - 1) 1 (qO_ _) (by omega) fun i j a b=>by omega))
 obtain⟨m1,m2,S,hs⟩:=hm
 by_cases e:m=n
 · show kOk n c (ite _ _ _) _
   rw[if_pos (by simp [e])]
   exact⟨P,m1,by omega,S⟩
 · show kOk n c (ite _ _ _) _
   rw[if_neg (by simp [e])]
   by_cases g:m > 1
   · show kOk n c (ite _ _ _) _
     rw[if_pos g]
     refine⟨P.lt (by omega),P.lt (by omega),?_⟩
     have q:c (p.getD 0 0) (p.getD (m - 1) 0)=true:=S 0 (m - 1) (by omega) (by omega)
     show kOk n c (ite _ _ _) _
     rw[q,if_pos rfl]
     exact⟨P,m1,by omega,S⟩
   · show kOk n c (ite _ _ _) _
     rw[if_neg g]
     have em:m=1:=by omega
     subst em
     have q:c (at0 p 1) (at0 p 0)=true:=by
      rcases hs with z |z
      · omega
      · exact z
     refine iA _ (fY (fun r hr=>?_) _ (xU O P (n - (1+1)) (1+1) (by omega) (by omega) fun i j a b=>by
      have:i=0:=by omega
      have:j=1:=by omega
      subst i;subst j
      exact q))
     obtain⟨r1,r2,r3,r4,D⟩:=hr
     show kOk n c (ite _ _ _) _
     rw[if_neg (by omega),r1]
     have S2:Srt c (kas_rev p 0 r.2.1) r.2.1:=fun i j hij hj=>by
      rw[Bd P (by omega),Bd P (by omega),if_pos (by omega),if_pos hj]
      exact D _ _ (by omega) (by omega)
     refine iA _ (fY (fun m hm=>?_) _ (wF O (P.rev _) (n - r.2.1) r.2.1 (by omega) (by omega) S2))
     exact⟨P.rev _,by show 1<=m;omega,by show m<=n;omega,hm.2.2.1⟩
include O in
theorem pw(P:Pm n p){k:Nat}(hk:k < n):∀(f l r:Nat),l<=r->r<=k->r - l<=f->(∀i,i < l->c (at0 p i) (at0 p k)=true)->(∀i,r<=i->i < k->c (at0 p k) (at0 p i)=true)->Srt c p k->
 kOk n c (kas_place p k f l r) fun m=>m<=k/\(∀i,i < m->c (at0 p i) (at0 p k)=true)/\∀i,m<=i->i < k->c (at0 p k) (at0 p i)=true
 |0,l,r,h1,h2,h3,a,b,S=>⟨by omega,a,fun i hi=>b i (by omega)⟩
 |f+1,l,r,h1,h2,h3,a,b,S=>by
  unfold kas_place
  by_cases z:l>=r
  · show kOk n c (ite _ _ _) _
    rw[if_pos z]
    exact⟨by omega,a,fun i hi=>b i (by omega)⟩
  · show kOk n c (ite _ _ _) _
    rw[if_neg z]
    refine⟨P.lt hk,P.lt (by omega),?_⟩
    cases q:c (p.getD k 0) (p.getD ((l+r) / 2) 0)with
    |true=>
     show kOk n c (ite _ _ _) _
     rw[if_pos rfl]
     refine pw P hk f l ((l+r) / 2) (by omega) (by omega) (by omega) a (fun i h4 h5=>?_) S
     by_cases y:i=(l+r) / 2
     · subst y;exact q
     · exact O.tr _ _ _ (P.lt hk) (P.lt (by omega)) (P.lt (by omega)) q (S _ _ (by omega) h5)
    |false=>
     show kOk n c (ite _ _ _) _
     rw[if_neg qC_]
     have q':=O.tot _ _ (P.lt hk) (P.lt (by omega)) (P.ne (i:=k) (j:=(l+r) / 2) hk (by omega) (by omega)) q
     refine pw P hk f ((l+r) / 2+1) r (by omega) h2 (by omega) (fun i h4=>?_) b S
     by_cases y:i=(l+r) / 2
     · subst y;exact q'
     · exact O.tr _ _ _ (P.lt (by omega)) (P.lt (by omega)) (P.lt hk) (S _ _ (by omega) (by omega)) q'
include O in
theorem z7:∀(f k:Nat) (p:Array Nat),Pm n p->1<=k->k+f=n->Srt c p k->kOk n c (kas_bin f p k) fun r=>Pm n r/\Srt c r n
 |0,k,p,P,h1,hn,S=>⟨P,(show k=n by omega) ▸ S⟩
 |f+1,k,p,P,h1,hn,S=>by
  refine iA _ (fY (fun l hl=>?_) _ (pw O P (k:=k) (by omega) k 0 k (by omega) (qO_ _) (by omega) (fun i h=>by omega) (fun i h h'=>by omega) S))
  obtain⟨l1,l2,l3⟩:=hl
  have g:∀(a:Array Nat) i,at0 a i=(a[i]?).getD 0:=fun a i=>by
   unfold at0
   rw[Array.getD_eq_getD_getElem?]
  have hb:∀i,at0 (bubble p k (k - l)) i=if i=l then at0 p k else if l < i/\i<=k then at0 p (i - 1)else at0 p i:=fun i=>by
   have e:=getElem?_bubble (xs:=p) (src:=k) (by rw[P.sz];omega) (k - l) (by omega) i
   rw[show k - (k - l)=l by omega]at e
   rw[g,e]
   by_cases y:i=l
   · rw[if_pos y,if_pos y,g]
   · rw[if_neg y,if_neg y]
     by_cases w:l < i/\i<=k
     · rw[if_pos w,if_pos w,g]
     · rw[if_neg w,if_neg w,g]
  refine z7 f (k+1) _ ⟨by rw[bubble_size,P.sz],(bubble_perm _ _ _).trans P.pm⟩ (by omega) (by omega) fun i j hij hj=>?_
  rw[hb,hb]
  by_cases a:i=l
  · subst a
    rw[if_pos rfl,if_neg (by omega),if_pos (by omega)]
    exact l3 _ (by omega) (by omega)
  · rw[if_neg a]
    by_cases b:j=l
    · subst b
      rw[if_pos rfl,if_neg (by omega)]
      exact l2 i hij
    · rw[if_neg b]
      by_cases x:l < i/\i<=k
      · rw[if_pos x,if_pos (by omega)]
        exact S _ _ (by omega) (by omega)
      · rw[if_neg x]
        by_cases w:l < j/\j<=k
        · rw[if_pos w]
          by_cases v:i < j - 1
          · exact S _ _ v (by omega)
          · omega
        · rw[if_neg w]
          exact S _ _ hij (by omega)
include O in
def Dg(h2:2<=n):kOk n c (kas_sort n) fun r=>Pm n r/\Srt c r n:=by
 have P0:Pm n (List.toArray (List.range n)):=⟨by simp,Array.Perm.refl _⟩
 refine iA _ (fY (fun r hr=>?_) _ (AM O P0 h2))
 obtain⟨P,r1,r2,S⟩:=hr
 by_cases z:r.1 < n
 · show kOk n c (ite _ _ _) _
   rw[if_pos z]
   have e:max r.1 1=r.1:=by omega
   rw[e]
   exact z7 O _ _ _ P r1 (by omega) S
 · show kOk n c (ite _ _ _) _
   rw[if_neg z]
   exact⟨P,(show r.1=n by omega) ▸ S⟩
end
open PySem PySem.W PySem.Calls PyProof.Rows
def Kpt(h h':Heap):Prop:=∀b o,h.get? b=some o->h'.get? b=some o
section
variable{prog:Program}{w:World}{A:Around}{E:Value->Shared->Prop}{s:Shared}{vs:List Value}{κ:SortKind}{c:Nat->Nat->Bool}{a:Addr}
def fv(vs:List Value)(p:List Nat):List Value:=p.map fun i=>vs.getD i Value.none
structure Good (n:Nat) (c:Nat->Nat->Bool) (p:List Nat):Prop where
 pm:p.Perm (List.range n)
 so:∀i j,i < j->j < n->c (p.getD i 0) (p.getD j 0)=true
def yX{vs:List Value}(n2:vs.length < 2):(vs.toArray.zip vs.toArray).map (·.2)=List.toArray (fv vs (List.range vs.length)):=by
 match vs,n2 with
 | [],_=>simp [fv]
 | [v],_=>simp [fv,List.range_succ]
def sN{n:Nat}{P:PySem.Fin->Shared->Prop}{h0:Heap}(k0:∀b o,b≠a->h0.get? b=some o->s.heap.get? b=some o)(hna:h0.get? a=none)(ho:s.heap.get? a=some (seqObj "list" vs.toArray n))(h64:vs.length < 64)(O:Ord vs.length c)
 (hk:2<=vs.length->∀h' (Q':SortKind->Shared->Prop),Kpt h0 h'->Q' κ {s with heap:=h'}->wpAny (model prog w) A (keyKind' vs.toArray) Q' (fun _ _=>False) {s with heap:=h'})
 (ha:∀h' i j C,Kpt h0 h'->i < vs.length->j < vs.length->C (c i j) {s with heap:=h'}->kas_ask prog w A κ vs i j C {s with heap:=h'})
 (h:∀p h' e,Good vs.length c p->Kpt h0 h'->h'.get? a=some (seqObj "list" (List.toArray (fv vs p)) e)->P (.done (.ret .none)) {s with heap:=h'}):
 wpAny (model prog w) A (Builtin.«list.sort» ⟨[.ref a],[]⟩) P E s:=by
 have hlt:a < s.heap.objs.size:=Heap.lt_size ho
 have s1:=Heap.SameBut.update s.heap a (Obj.mapSeq fun _=>(#[]:Array Value))
 obtain⟨e1,ho1⟩:∃e1,(s.heap.update a (Obj.mapSeq fun _=>(#[]:Array Value))).get? a=some (seqObj "list" #[] e1):=⟨_,get?_update_seq ho fun _=>#[]⟩
 have K3:Kpt h0 (((s.heap.update a (Obj.mapSeq fun _=>(#[]:Array Value))).push (seqObj "tuple" vs.toArray 0)).push (seqObj "list" #[] 0)):=fun b o e=>by
  have ne:b≠a:=fun q=>by rw[q,hna]at e;cases e
  refine Heap.get?_push_of_some _ (Heap.get?_push_of_some _ ?_)
  rw[Heap.get?_update_ne _ _ _ _ ne]
  exact k0 b o ne e
 rw[list_sort_plain]
 refine wpAny_bind (listItems_at ho rfl ?_)
 refine wpAny_bind (listUpdate_at ho rfl ?_ (by rw[qW_,sizeLine_eq];omega) (qf_ _))
 refine wpAny_bind (seqEpoch_at ho1 rfl ?_)
 refine wpAny_bind (wpAny_newTuple ?_ (by show vs.length<=_;rw[sizeLine_eq];omega))
 refine wpAny_bind (wpAny_newList ?_ (qf_ _))
 refine wpAny_holding ?_
 have ho3:(((s.heap.update a (Obj.mapSeq fun _=>(#[]:Array Value))).push (seqObj "tuple" vs.toArray 0)).push (seqObj "list" #[] 0)).get? a=some (seqObj "list" #[] e1):=Heap.get?_push_of_some _ (Heap.get?_push_of_some _ ho1)
 show wpAny (model prog w) A _ P E {s with heap:=((s.heap.update a (Obj.mapSeq fun _=>(#[]:Array Value))).push (seqObj "tuple" vs.toArray 0)).push (seqObj "list" #[] 0)}
 generalize ((s.heap.update a (Obj.mapSeq fun _=>(#[]:Array Value))).push (seqObj "tuple" vs.toArray 0)).push (seqObj "list" #[] 0)=h3 at K3 ho3 ⊢
 dsimp only
 have tail:∀p:List Nat,Good vs.length c p->∀c2,(h3.update a (Obj.mapSeq fun _=>List.toArray (fv vs p))).get? a=some (seqObj "list" (List.toArray (fv vs p)) c2)->
  P (.done (.ret .none)) {s with heap:=h3.update a (Obj.mapSeq fun _=>List.toArray (fv vs p))}:=fun p g c2 q=>by
  refine h p _ c2 g (fun b o e=>?_) q
  have ne:b≠a:=fun q=>by rw[q,hna]at e;cases e
  rw[Heap.get?_update_ne _ _ _ _ ne]
  exact K3 b o e
 by_cases n2:vs.length < 2
 · have hn2:vs.toArray.size < 2:=by rw[qW_];omega
   rw[if_pos hn2,if_pos hn2]
   refine wpAny_bind (wpAny_pure ?_)
   rw[StateT.run_pure]
   refine wpAny_bind (wpAny_pure ?_)
   dsimp only
   have g:Good vs.length c (List.range vs.length):=⟨List.Perm.refl _,fun i j hij hj=>by omega⟩
   have hout:(arrOf (SortSt.mk' general' (vs.toArray.zip vs.toArray) #[] 7 none)).map (·.2)=List.toArray (fv vs (List.range vs.length)):=by
    exact yX n2
   rw[hout]
   obtain⟨c2,hc2⟩:∃c2,(h3.update a (Obj.mapSeq fun _=>List.toArray (fv vs (List.range vs.length)))).get? a=some (seqObj "list" (List.toArray (fv vs (List.range vs.length))) c2):=⟨_,get?_update_seq ho3 fun _=>List.toArray (fv vs (List.range vs.length))⟩
   refine wpAny_bind (seqEpoch_at ho3 rfl ?_)
   refine wpAny_bind (listUpdate_at ho3 rfl ?_ (qf_ _) (by show (List.map _ _).length<=_;rw[qM_,List.length_range,sizeLine_eq];omega))
   show wpAny _ _ (if (_ !=_)=true then _ else _) _ _ _
   simp only[bne_self_eq_false,Bool.false_eq_true,if_false]
   exact wpAny_pure (tail _ g c2 hc2)
 · have hn2:¬vs.toArray.size < 2:=by rw[qW_];omega
   rw[if_neg hn2,if_neg hn2]
   refine wpAny_bind (wpAny_mono (hk (by omega) h3 (fun κ' s'=>κ'=κ/\s'={s with heap:=h3}) K3 ⟨rfl,rfl⟩) ?_ fun _ _ x=>x.elim)
   rintro κ' s' ⟨rfl,rfl⟩
   have W:(kas_sort vs.length).kasWp (kas_ask prog w A κ' vs) (fun p s''=>s''={s with heap:=h3}/\Pm vs.length p/\Srt c p vs.length) {s with heap:=h3}:=
    Av (fun i j C hi hj hC=>ha h3 i j C K3 hi hj hC) (fun p hp=>⟨rfl,hp⟩) _ (Dg O (by omega))
   refine wpAny_bind (wpAny_mono (kat_run (Q:=fun st' s'=>∃p:Array Nat,p.size=vs.length/\arrOf st'=p.map (kas_item (vs.toArray.zip vs.toArray))/\failedOf st'=none/\s'={s with heap:=h3}/\Pm vs.length p/\Srt c p vs.length)
    rfl (by omega) h64 (fun p' st' s' a1 a2 a3 a4=>⟨p',a1,a2,a3,a4⟩) W) ?_ fun _ _ e=>e)
   rintro⟨⟨⟩,st'⟩ s' ⟨p,hp,har,hf,rfl,pm,so⟩
   dsimp only
   have g:Good vs.length c p.toList:=⟨by have:=Array.perm_iff_toList_perm.mp pm.pm;simpa using this,fun i j hij hj=>by
    have e:∀i,p.toList.getD i 0=at0 p i:=fun i=>by simp [at0,Array.getD_eq_getD_getElem?]
    rw[e,e];exact so i j hij hj⟩
   have hout:(arrOf st').map (·.2)=List.toArray (fv vs p.toList):=kat_snds rfl har
   rw[hout]
   have hsz:(List.toArray (fv vs p.toList)).size=vs.length:=by rw[qW_];unfold fv;rw[qM_,Array.length_toList,hp]
   obtain⟨c2,hc2⟩:∃c2,(h3.update a (Obj.mapSeq fun _=>List.toArray (fv vs p.toList))).get? a=some (seqObj "list" (List.toArray (fv vs p.toList)) c2):=⟨_,get?_update_seq ho3 fun _=>List.toArray (fv vs p.toList)⟩
   refine wpAny_bind (seqEpoch_at ho3 rfl ?_)
   refine wpAny_bind (listUpdate_at ho3 rfl ?_ (qf_ _) (Nat.le_trans (Nat.le_of_eq hsz) (by rw[sizeLine_eq];omega)))
   rw[hf]
   simp only[bne_self_eq_false,Bool.false_eq_true,if_false]
   exact wpAny_pure (tail _ g c2 hc2)
def y0{l:Addr}{Q:Value->Shared->Prop}(hl:s.heap.IsList l vs.toArray)(h64:vs.length < 64)(O:Ord vs.length c)
 (hk:2<=vs.length->∀h' (Q':SortKind->Shared->Prop),Kpt s.heap h'->Q' κ {s with heap:=h'}->wpAny (model prog w) A.in1.in1 (keyKind' vs.toArray) Q' (fun _ _=>False) {s with heap:=h'})
 (ha:∀h' i j C,Kpt s.heap h'->i < vs.length->j < vs.length->C (c i j) {s with heap:=h'}->kas_ask prog w A.in1.in1 κ vs i j C {s with heap:=h'})
 (h:∀p h' a e,Good vs.length c p->Kpt s.heap h'->s.heap.objs.size<=a->h'.get? a=some (seqObj "list" (List.toArray (fv vs p)) e)->Q (.ref a) {s with heap:=h'}):
 wpAny (model prog w) A (call (.builtin "sorted") [.ref l]) Q E s:=by
 refine Calls.call_function_entry kind_sorted plain_sorted entry_sorted (args_sorted1 _) ?_
 unfold Builtin.«sorted»
 refine wpAny_bind (m:=checkCount "sorted" 1 1 _) (wpAny_pure ?_)
 refine wpAny_bind (collect_list hl ?_ (by rw[sizeLine_eq];omega))
 refine wpAny_bind (wpAny_newList ?_ (by rw[sizeLine_eq];omega))
 have hsz:((s.heap.push (seqObj "list" #[] 0)).update s.heap.objs.size (Obj.mapSeq (·++vs.toArray))).objs.size=s.heap.objs.size+1:=by
  rw[Heap.size_update,size_push']
 have hoL:(((s.heap.push (seqObj "list" #[] 0)).update s.heap.objs.size (Obj.mapSeq (·++vs.toArray))).push (seqObj "list" vs.toArray 0)).get? (s.heap.objs.size+1)=some (seqObj "list" vs.toArray 0):=by
  rw[<-hsz];exact Heap.get?_push_size _ rfl
 have keep:∀b o,s.heap.get? b=some o->(((s.heap.push (seqObj "list" #[] 0)).update s.heap.objs.size (Obj.mapSeq (·++vs.toArray))).push (seqObj "list" vs.toArray 0)).get? b=some o:=fun b o q=>by
  have hlt:b < s.heap.objs.size:=Heap.lt_size q
  rw[Heap.get?_push_ne _ _ _ (by rw[hsz];exact Nat.ne_of_lt (Nat.lt_succ_of_lt hlt)),Heap.get?_update_ne _ _ _ _ (Nat.ne_of_lt hlt),Heap.get?_push_ne _ _ _ (Nat.ne_of_lt hlt)]
  exact q
 show wpAny _ _ _ _ _ {s with heap:=((s.heap.push (seqObj "list" #[] 0)).update s.heap.objs.size (Obj.mapSeq (·++vs.toArray))).push (seqObj "list" vs.toArray 0)}
 rw[hsz]
 refine wpAny_bind (wpAny_holding (wpAny_call_entry slot_list_sort ⟨_,hoL,rfl⟩ entry_list_sort ?body (args_list_sort _)))
 case body=>
  refine sN (s:={s with heap:=((s.heap.push (seqObj "list" #[] 0)).update s.heap.objs.size (Obj.mapSeq (·++vs.toArray))).push (seqObj "list" vs.toArray 0)}) (h0:=s.heap)
   (fun b o _ e=>keep b o e) (Heap.get?_none_of_le (Nat.le_succ _)) hoL h64 O (fun h2 h' Q' k q=>hk h2 h' Q' k q) (fun h' i j C k hi hj q=>ha h' i j C k hi hj q) fun p h' e g k q=>?_
  exact⟨_,rfl,wpAny_pure ⟨_,rfl,h p h' _ e g k (Nat.le_succ _) q⟩⟩
theorem ug{b fin:Bool}{Q:Bool->Shared->Prop}:∀{xs ys:List Value} {m n:List Int} (i:Nat),IntsAre xs m->IntsAre ys n->fin=decide (m.length < n.length)->Q (M3.eO m n) s->KatLex prog w A b fin Q (xs.zip ys) i s
 |_,_,_,_,i,.nil,.nil,hf,h=>by rw[List.zip_nil_left];refine kat_nil ?_;rw[hf];exact h
 |_,_,_,_,i,.nil,.cons c u hw,hf,h=>by rw[List.zip_nil_left];refine kat_nil ?_;rw[hf];exact h
 |_,_,_,_,i,.cons a t hv,.nil,hf,h=>by rw[List.zip_nil_right];refine kat_nil ?_;rw[hf];exact h
 |_,_,_,_,i,.cons a t hv,.cons c u hw,hf,h=>by
  rw[List.zip_cons_cons]
  refine kat_cons ?_
  obtain⟨e,he,hiff⟩:=oX A s a t c u
  refine he prog w _ _ ?_
  cases e with
  |true=>
   refine kat_yes (ug (i+1) hv hw ?_ ?_)
   · rw[hf];exact decide_eq_decide.mpr (by simp)
   · unfold M3.eO at h;rw[if_pos (hiff.mp rfl)]at h;exact h
  |false=>
   refine kat_no ?_
   have ne:¬a=c:=fun q=>absurd (hiff.mpr q) qC_
   unfold M3.eO at h;rw[if_neg ne]at h
   cases (b&&i==0)with
   |true=>exact oneLt_int h
   |false=>exact kat_one _ _ (PyProof.Rows.lt_int h)
def ek(h:Heap):List Value->List (List Int)->Prop
 | [],[]=>True
 |v :: vs,n :: ns=>(∃a its,v= .ref a/\IsTup h a its/\IntsAre its.toList n/\n≠ [])/\ek h vs ns
 |_,_=>False
theorem ek.kept{h h':Heap}(k:Kpt h h'):∀{vs:List Value} {ns:List (List Int)},ek h vs ns->ek h' vs ns
 | [],[],_=>trivial
 | [],_ :: _,r=>r.elim
 |_ :: _,[],r=>r.elim
 |_ :: _,_ :: _,⟨⟨a,its,e,⟨o,ho,hc,n,hd⟩,hi,hn⟩,r⟩=>⟨⟨a,its,e,⟨o,k _ _ ho,hc,n,hd⟩,hi,hn⟩,ek.kept k r⟩
theorem ek.len{h:Heap}:∀{vs:List Value} {ns:List (List Int)},ek h vs ns->vs.length=ns.length
 | [],[],_=>rfl
 | [],_ :: _,r=>r.elim
 |_ :: _,[],r=>r.elim
 |_ :: _,_ :: _,⟨_,r⟩=>congrArg (·+1) (ek.len r)
theorem ek.at{h:Heap}:∀{vs:List Value} {ns:List (List Int)} {i:Nat},ek h vs ns->i < vs.length->∃a its,vs.getD i Value.none= .ref a/\IsTup h a its/\IntsAre its.toList (ns.getD i [])
 | [],_,_,_,hi=>by cases hi
 |_ :: _,[],_,r,_=>r.elim
 |_ :: _,_ :: _,0,⟨⟨a,its,e,t,hi,_⟩,_⟩,_=>⟨a,its,e,t,hi⟩
 |_ :: _,_ :: _,i+1,⟨_,r⟩,hl=>ek.at (i:=i) r (Nat.lt_of_succ_lt_succ hl)
theorem ek.mE{h:Heap}:∀{vs:List Value} {ns:List (List Int)},ek h vs ns->∃fs,KatTups h vs fs/\fs.length=vs.length/\∀v∈fs,∃n t,v= .int n t
 | [],[],_=>⟨[],trivial,rfl,fun _ h=>nomatch h⟩
 | [],_ :: _,r=>r.elim
 |_ :: _,[],r=>r.elim
 |_ :: _,_ :: _,⟨⟨a,its,e,⟨o,ho,hc,n,hd⟩,hi,hn⟩,r⟩=>by
  obtain⟨fs,h1,h2,h3⟩:=ek.mE r
  obtain⟨l,rfl⟩:∃l:List Value,its=l.toArray:=⟨its.toList,rfl⟩
  cases hi with
  |nil=>exact absurd rfl hn
  |cons x t hi'=>
   subst e
   refine⟨.int x t :: fs,KatTups.cons ho hc hd rfl h1,by simp [h2],fun v hv=>?_⟩
   rcases qS_.mp hv with rfl |hv
   · exact⟨_,_,rfl⟩
   · exact h3 v hv
end
end HT
namespace L3
open PySem PySem.Spec PyProof.Rows L2 PySem.SeqAt
def cI(ns:List (List Int))(i j:Nat):Bool:=M3.eO (ns.getD i []) (ns.getD j [])
def DH{ns:List (List Int)}(h:ns.Nodup){i j:Nat}(hi:i < ns.length)(hj:j < ns.length)(ne:i≠j):ns.getD i []≠ns.getD j []:=by
 have e:∀i (hi:i < ns.length),ns.getD i []=ns[i]:=fun i hi=>by simp [hi]
 rw[e i hi,e j hj]
 exact fun z=>ne ((List.getElem_inj h).mp z)
def Jk{ns:List (List Int)}(h:ns.Nodup):HT.Ord ns.length (cI ns):=
 ⟨fun _ _ _ _ _ _ a b=>M3.oM a b,fun i j hi hj ne a=>M3.oU (DH h hi hj ne) a,fun _ _ _ _ a=>M3.xY a⟩
def Af{α:Type}{d:α}{ns:List α}:(List.range ns.length).map (fun i=>ns.getD i d)=ns:=by
 refine List.ext_getElem (by simp) fun i h1 h2=>?_
 simp [h2]
def ze{ns:List (List Int)}(h:ns.Nodup){q:List Nat}(g:HT.Good ns.length (cI ns) q):q.map (fun i=>ns.getD i [])=M3.sortI ns:=by
 have lq:q.length=ns.length:=by rw[g.pm.length_eq,List.length_range]
 refine M3.rX ?_ (M3.pL h) (((g.pm.map _).trans (.of_eq Af)).trans (M3.sortI_perm ns).symm)
 refine List.pairwise_iff_getElem.mpr fun i j hi hj hij=>?_
 rw[qM_]at hi hj
 have:=g.so i j hij (by omega)
 rw[List.getElem_map,List.getElem_map]
 have e:∀i (hi:i < q.length),q.getD i 0=q[i]:=fun i hi=>by simp [hi]
 rw[e i hi,e j hj]at this
 exact this
section
variable{X:Cx}{T:Tab}{Y:EX}
def iw(K:PySem.W.Frag)(H:Hp):List V->List (List Int)->Prop
 | [],[]=>True
 |v :: vs,n :: ns=>(∃a,v= .ref a/\SqT K H a (n.map V.int)/\n≠ [])/\iw K H vs ns
 |_,_=>False
theorem iw.len{K:PySem.W.Frag}{H:Hp}:∀{vs:List V} {ns:List (List Int)},iw K H vs ns->vs.length=ns.length
 | [],[],_=>rfl
 | [],_ :: _,r=>r.elim
 |_ :: _,[],r=>r.elim
 |_ :: _,_ :: _,⟨_,r⟩=>congrArg (·+1) (iw.len r)
theorem iw.at{K:PySem.W.Frag}{H:Hp}:∀{vs:List V} {ns:List (List Int)} {i:Nat},iw K H vs ns->i < vs.length->∃a,vs.getD i V.non= .ref a/\SqT K H a ((ns.getD i []).map V.int)
 | [],_,_,_,hi=>by cases hi
 |_ :: _,[],_,r,_=>r.elim
 |_ :: _,_ :: _,0,⟨⟨a,e,t,_⟩,_⟩,_=>⟨a,e,t⟩
 |_ :: _,_ :: _,i+1,⟨_,r⟩,hl=>iw.at (i:=i) r (Nat.lt_of_succ_lt_succ hl)
theorem iw.rel{pins:List (Addr×Obj)}{σ:List (Option V)}{H:Hp}{s:Shared}(I:Inv X pins σ H s):∀{vs:List V} {ns:List (List Int)} {us:List Value},iw X.K H vs ns->Vals vs us->HT.ek s.heap us ns
 | [],[],_,_,r=>by cases r;trivial
 | [],_ :: _,_,r,_=>r.elim
 |_ :: _,[],_,r,_=>r.elim
 |_ :: _,_ :: _,_,⟨⟨a,e,t,n⟩,r⟩,v=>by
  cases v with
  |cons v1 v2=>
   subst e
   cases v1
   obtain⟨its,r1,p1,_⟩:=I.tuple t
   exact⟨⟨a,_,rfl,p1,intsAre_of r1,n⟩,iw.rel I r v2⟩
theorem rg{vs:List V}{us:List Value}(r:Vals vs us):∀(q:List Nat),(∀i∈q,i < vs.length)->Vals (q.map fun i=>vs.getD i V.non) (q.map fun i=>us.getD i Value.none)
 | [],_=>.nil
 |i :: q,h=>by
  have hi:=h i (qI_ ..)
  obtain⟨u,e,ru⟩:=Vals.get r (qA_ hi)
  refine .cons ?_ (rg r q fun j hj=>h j (qR_ _ hj))
  show L2.RelV (vs.getD i V.non) (us.getD i Value.none)
  rw[List.getD_eq_getElem?_getD,List.getD_eq_getElem?_getD,e,qA_ hi]
  exact ru
def DV(K:PySem.W.Frag):List V->Hp->VK->Prop:=fun xs H Q=>∃p ys ns,xs=[.ref p]/\SqL K H p ys/\iw K H ys ns/\ns.length < 64/\ns.Nodup/\∀q,HT.Good ns.length (cI ns) q->∀l,H l=none->Q (.ref l) (upd H l (.lst (q.map fun i=>ys.getD i V.non)))
def uA:fw X (.builtin "sorted") (DV X.K):=by
 intro pins s σ H xs us Q I r h
 obtain⟨p,ys,ns,rfl,sq,rv,h64,nd,q⟩:=h
 obtain⟨u,rfl,rx⟩:=vals1 r
 cases rx
 obtain⟨its,r',pl,hz⟩:=I.list sq
 have ra:=rv.rel I r'
 have hl:its.length=ns.length:=ra.len
 have hy:ys.length=ns.length:=rv.len
 refine HT.y0 (κ:=PyProof.Rows.tuples' (Value.type "int"!=Value.type "tuple")) (c:=cI ns) pl.isList (by omega) (by rw[hl];exact Jk nd) ?_ ?_ ?_
 · intro h2 h' Q' k hq
   obtain⟨fs,f1,f2,f3⟩:=(ra.kept k).mE
   exact PySem.W.kat_kind f1 (by omega) (fun v hv=>by
    obtain⟨n,t,rfl⟩:=f3 v hv
    exact .now) rfl hq
 · intro h' i j C k hi hj hq
   obtain⟨a,xs,e1,⟨o,ho,hc,n,hd⟩,i1⟩:=(ra.kept k).at hi
   obtain⟨b,zs,e2,⟨o2,ho2,hc2,n2,hd2⟩,i2⟩:=(ra.kept k).at hj
   unfold PySem.W.kas_ask
   rw[e1,e2]
   refine PySem.W.kat_lt ho hd ho2 hd2 (HT.ug 0 i1 i2 ?_ hq)
   rw[<-i1.length,<-i2.length,Array.length_toList,Array.length_toList]
 · intro p' h' a e g k ha ho
   have gl:∀i∈p',i < ys.length:=fun i hi=>by
    have:=List.mem_range.mp (g.pm.mem_iff.mp hi)
    omega
   rw[hl]at g
   have lq:p'.length=ns.length:=by rw[g.pm.length_eq,List.length_range]
   exact⟨.ref a,_,I.laid (t':=s.toks) k ha (show bR X.prog X.w _ h' _ (.lst _)from⟨by rw[qM_,lq,<-hy];exact hz,_,e,rg r' p' gl,ho⟩),rfl,q p' g a (I.hok.fresh ha)⟩
theorem vq{K:PySem.W.Frag}{μ:List Addr}{H:Hp}:∀{xs:List M3.D} {ws:List V} {ns:List (List Int)},az K H μ xs ws->M3.rowsOf xs=some ns->iw K H ws ns/\xs=ns.map M3.tupI
 | [],_,_,d,e=>by
   unfold M3.rowsOf at e;cases e
   have:_=[]:=d
   subst this
   exact⟨trivial,rfl⟩
 |x :: xs,_,_,⟨v,r,rfl,d1,d2⟩,e=>by
  cases x with
  |tup a=>
   unfold M3.rowsOf at e
   cases q1:M3.intsOf a with
   |none=>rw[q1]at e;cases e
   |some m=>
    cases m with
    |nil=>rw[q1]at e;cases e
    |cons i m=>
     cases q2:M3.rowsOf xs with
     |none=>rw[q1,q2]at e;cases e
     |some n=>
      rw[q1,q2]at e
      cases e
      obtain⟨h1,h2⟩:=vq d2 q2
      have ea:=dY q1
      rw[ea]at d1
      obtain⟨p,vs,rfl,sp,rp⟩:=d1
      rw[az.ints rp]at sp
      exact⟨⟨⟨p,rfl,sp,(fun z=>nomatch z)⟩,h1⟩,by rw[ea,h2];rfl⟩
  |_=>cases e
theorem qV{K:PySem.W.Frag}{μ:List Addr}{H:Hp}{ws:List V}{ns:List (List Int)}(r:iw K H ws ns):∀(q:List Nat),(∀i∈q,i < ws.length)->az K H μ ((q.map fun i=>ns.getD i []).map M3.tupI) (q.map fun i=>ws.getD i V.non)
 | [],_=>rfl
 |i :: q,h=>by
  obtain⟨a,e,t⟩:=r.at (h i (qI_ ..))
  refine⟨_,_,rfl,?_,qV r q fun j hj=>h j (qR_ _ hj)⟩
  exact⟨a,_,e,t,az.oK⟩
def CA{K:PySem.W.Frag}:BrA T K Y M3.rE (DV K):=by
 intro μ H G ds vs Q S d h
 have fin:∀{xs:List M3.D} {ws:List V},az K H μ xs ws->cW T K μ H Q (.ref G.length) (G++[.lst xs])->∀l,H l=none->Q (.ref l) (upd H l (.lst ws)):=by
  intro xs ws r q l hl
  have u2:=Up.new (μ:=μ) (.lst ws) hl
  refine q _ _ (μ++[l]) u2 (S.new hl rfl ⟨ws,aO,az.up u2 r⟩) ⟨l,?_,rfl⟩
  rw[<-S.len];simp
 unfold M3.run M3.rE at h
 match ds,d,h with
 | [.ref n],d,h=>
   obtain⟨v,rfl,a,ea,rfl⟩:=jV d
   dsimp only at h
   cases q:G[n]? with
   |none=>rw[q]at h;exact False.elim h
   |some o=>
    rw[q]at h
    have ob:=S.obj n a o ea q
    cases o with
    |lst xs=>
     obtain⟨ws,e1,r⟩:=ob
     dsimp only at h
     cases q2:M3.rowsOf xs with
     |none=>rw[q2]at h;exact False.elim h
     |some ns=>
      rw[q2]at h
      dsimp only at h
      by_cases c:ns.length < 64/\ns.Nodup
      · rw[if_pos c]at h
        obtain⟨rv,-⟩:=vq r q2
        refine⟨a,ws,ns,rfl,SqL.of e1,rv,c.1,c.2,fun q g=>fin ?_ h⟩
        rw[<-ze c.2 g]
        exact qV rv q fun i hi=>by
         have:=List.mem_range.mp (g.pm.mem_iff.mp hi)
         rw[rv.len];exact this
      · rw[if_neg c]at h;exact False.elim h
    |_=>exact False.elim h
 | [],_,h=>exact False.elim h
 | [.non],_,h=>exact False.elim h
 | [.bl _],_,h=>exact False.elim h
 | [.int _],_,h=>exact False.elim h
 | [.str _],_,h=>exact False.elim h
 | [.tup _],_,h=>exact False.elim h
 |x :: _ :: _,_,h=>cases x <;> exact False.elim h
def rW(hm:X.mg "sorted"=none)(ha:PA X (e :: es) (tA T X.K Y f3))(hg:Gl X "sorted":=by rfl)(he:starEach (e :: es) X.env=(false,eval e X.env) :: starEach es X.env:=by rfl)(hpl:(backTo pos (starEach es X.env)).any (·.1)=false:=by rfl):
 PE X (.Call (.Name "sorted" p) (e :: es) [] pos) (tE T X.K Y (M3.av M3.rE f3)):=sI uA CA hm boot_sorted ha hg (by decide) (by decide) he hpl
end
end L3
namespace M3
open PySem
section
variable{α β:Type}{G G':Hh}{E:Nat->Hh->Prop}{σ:St}
variable{Q:D->Hh->Prop}{QB:Bool->Hh->Prop}{QA:List D->Hh->Prop}{QS:Fl×St->Hh->Prop}{QU:Unit->Hh->Prop}{QI:Src->Hh->Prop}{QG:St->Hh->Prop}
def Dk{QP:Option Int->Hh->Prop}(h:QP none G):run (uL σ) G QP E:=h
def tK{e:E3}{QP:Option Int->Hh->Prop}(h:run (e σ) G (fun d G1=>run (asI d) G1 QP E) E):run (o9 e σ) G QP E:=aB h
def zU{i:Int}{QP:Option Int->Hh->Prop}(h:QP (some i) G):run (asI (.int i)) G QP E:=h
def HX{n:Nat}{xs:List D}{lo hi:Option Int}(hn:G[n]? =some (.frz xs))(h:Q (.ref G.length) (G++[.lst (cutD xs lo hi)])):run (oSl (.ref n) lo hi) G Q E:=by
 unfold run oSl
 dsimp only
 rw[hn]
 exact h
def Cj{e:E3}(h:run (e σ) G (fun x G1=>run (pM x) G1 QI E) E):run (zK e σ) G QI E:=aB h
def C7{n:Nat}{xs:List D}(hl:G[n]? =some (.lst xs))(h:QI ⟨ir xs,fun G'=>decide (G'[n]? =some (.lst xs))⟩ G):run (pM (.ref n)) G QI E:=by
 refine aG (G':=G) ?_ h
 unfold pM;dsimp only;rw[hl]
def yQ{xs:List D}{i:Nat}{x:D}(h:(ir xs)[i]? =some x):∃y,xs[i]? =some y/\x= .tup [.int (i:Int),y]:=by
 unfold ir at h
 rw[List.getElem?_mapIdx]at h
 cases q:xs[i]? with
 |none=>rw[q]at h;cases h
 |some y=>rw[q]at h;exact⟨y,rfl,(Option.some.inj h).symm⟩
def y7{xs:List D}:(ir xs).length=xs.length:=by simp [ir]
def gB{j:Nat}(hj:j<=1000000)(h:QI ⟨rng 0 j,fun _=>true⟩ G):run (Cf (.int (j:Int))) G QI E:=by
 have c:rF (j:Int)=true:=by unfold rF;exact qZ_ (by omega)
 show run (if rF (j:Int)=true then ret (⟨rng 0 (j:Int).toNat,fun _=>true⟩:Src)else fail) G QI E
 rw[if_pos c,Int.toNat_natCast];exact h
def lN{n:Nat}{body:D->St->M (Fl×St)}(P:Nat->St->Hh->Prop)
 (hs:∀(i:Nat) σ G,i < n->P i σ G->run (body (.int (i:Int)) σ) G (fun p G1=>match p.1 with
   | .next=>P (i+1) p.2 G1
   | .cont=>P (i+1) p.2 G1
   | .brk=>QS (.next,p.2) G1
   | .ret d=>QS (.ret d,p.2) G1) E)
 (hd:∀σ G,P n σ G->QS (.next,σ) G) (h0:P 0 σ G):run (forL (fun _=>true) body (rng 0 n) σ) G QS E:=by
 refine pX (xs:=rng 0 n) P (fun _ _ _ _=>rfl) (fun i x σ G hx p=>?_) (fun σ G p=>hd σ G (by rw[oE]at p;exact p)) _ 0 σ G List.drop_zero (qf_ _) h0
 obtain⟨rfl,hi⟩:=mM hx
 rw[Int.zero_add]
 exact hs i σ G hi p
def lW{α:Type}{f:α->D}{xs:List α}{ck:Hh->Bool}{body:D->St->M (Fl×St)}(P:Nat->St->Hh->Prop)(hck:∀i σ G,P i σ G->ck G=true)
 (hs:∀(i:Nat) x σ G,xs[i]? =some x->P i σ G->run (body (f x) σ) G (fun p G1=>match p.1 with
   | .next=>P (i+1) p.2 G1
   | .cont=>P (i+1) p.2 G1
   | .brk=>QS (.next,p.2) G1
   | .ret d=>QS (.ret d,p.2) G1) E)
 (hd:∀σ G,P xs.length σ G->QS (.next,σ) G) (h0:P 0 σ G):run (forL ck body (xs.map f) σ) G QS E:=by
 refine pX (xs:=xs.map f) P hck (fun i x σ G hx p=>?_) (fun σ G p=>hd σ G (by rw[qM_]at p;exact p)) _ 0 σ G List.drop_zero (qf_ _) h0
 rw[qQ_]at hx
 cases q:xs[i]? with
 |none=>rw[q]at hx;cases hx
 |some y=>
  rw[q]at hx
  cases hx
  exact hs i y σ G q p
def Bc{b:Bool}(h:Q (.int (if b then 1 else 0)) G):run (se [.bl b]) G Q E:=h
def Fg{n:Nat}{kvs:List (Key×D)}(hl:G[n]? =some (.dK kvs))(h:Q (.int kvs.length) G):run (cQ [.ref n]) G Q E:=by
 refine aG (a:= .int kvs.length) (G':=G) ?_ h
 unfold cQ;dsimp only;rw[hl]
end
end M3
local macro_rules |`(tactic|walk_at "f")=>`(tactic|(refine M3.DT rfl ?_;simp only[List.map_cons,List.map_nil,List.cons_append,qc_]))
local macro_rules |`(tactic|lia)=>`(tactic|repeat walk_at "w")
local macro_rules |`(tactic|walk_at "s")=>`(tactic|simp only[List.set_cons_succ,List.set_cons_zero])
local macro_rules |`(tactic|walk_at "w")=>`(tactic|first
 |with_reducible refine M3.aP ?_
 |((with_reducible refine' M3.w_var ?e1 ?_);case e1=>rfl)
 |(with_reducible first |refine M3.w_c ?_ |refine M3.aA ?_)
 |((with_reducible refine M3.w_next ?_);try walk_at "s")
 |(with_reducible first |refine M3.EC ?_ |refine M3.ba ?_ |refine M3.cX ?_ |refine M3.bA ?_ |refine M3.cJ ?_ |refine M3.iz ?_ |refine M3.bo ?_ |refine M3.ah ?_ |refine M3.ay ?_ |refine M3.va ?_ |refine M3.Ax ?_ |refine M3.ot ?_ |refine M3.ib ?_ |refine M3.iu ?_ |refine M3.l0 ?_ |refine M3.uy ?_ |refine M3.hJ ?_ |refine M3.fV ?_ |refine M3.jK ?_ |refine M3.vS ?_ |refine M3.HP ?_ |refine M3.Gs ?_ |refine M3.IP ?_ |refine M3.lP ?_ |refine M3.nC ?_ |refine M3.oC ?_ |refine M3.oQ ?_ |refine M3.fZ ?_ |refine M3.wR ?_ |refine M3.v9 ?_)
 |((with_reducible refine' M3.E4 ?e1 ?_);case e1=>decide)
 |((with_reducible refine' M3.Gw ?e1 ?_);case e1=>decide)
 |((with_reducible refine' M3.iO ?e1 ?_);case e1=>decide)
 |(with_reducible first |refine M3.IV ?_ |refine M3.HN ?_ |refine M3.Ii ?_)
 |((with_reducible refine' M3.IG ?e1 ?e2 ?_);(case e1=>rfl);(case e2=>rfl))
 |((with_reducible refine' M3.bH ?e1 ?_);case e1=>rfl)
 |(with_reducible first |refine M3.sg ?_ |refine M3.tR ?_ |refine M3.tu ?_ |refine M3.wO ?_ |refine M3.vi ?_ |refine M3.uM ?_ |refine M3.vt ?_ |refine M3.mR ?_ |refine M3.mw ?_ |refine M3.sU ?_ |refine M3.su ?_ |refine M3.sC ?_ |refine M3.t7 ?_ |refine M3.Ai ?_ |refine M3.v5 ?_ |refine M3.rL ?_ |refine M3.m8 ?_ |refine M3.nP ?_ |refine M3.gM ?_ |refine M3.rB ?_ |refine M3.s9 ?_ |refine M3.Jh ?_ |refine M3.jD ?_ |refine M3.je ?_ |refine M3.sO ?_ |refine M3.EL ?_ |refine M3.HU ?_ |refine M3.Dk ?_ |refine M3.tK ?_ |refine M3.zU ?_ |refine M3.Cj ?_ |refine M3.Bc ?_)
 |((with_reducible refine' M3.DY ?e1 ?_);(case e1=>rfl);try walk_at "s")
 |((with_reducible refine' M3.rS ?e1 ?_);case e1=>exact qP_ rfl)
 |with_reducible refine And.intro (show (_:Nat)<=M3.aC from qP_ (by with_unfolding_all rfl)) ?_
 |(with_reducible first |refine M3.w_fld ?_ |refine M3.fG ?_ |refine M3.bq ?_ |refine M3.uN ?_ |refine M3.yd ?_ |refine M3.EN ?_ |refine M3.CH ?_)
 |((with_reducible refine' M3.aZ ?e1 ?e2 ?e3 ?_);(case e1=>assumption);(case e2=>decide);(case e3=>rfl))
 |((with_reducible refine' M3.bX ?e1 ?_);(case e1=>assumption))
 |with_reducible refine M3.aB ?_)
namespace KH
open PySem M3
def Ext(G G':Hh):Prop:=∃r,G'=G++r
def Ext.refl(G:Hh):Ext G G:=⟨[],by simp⟩
def Ext.trans{A B C:Hh}(a:Ext A B)(b:Ext B C):Ext A C:=by
 obtain⟨r,rfl⟩:=a
 obtain⟨t,rfl⟩:=b
 exact⟨r++t,by simp⟩
def Ext.add(G:Hh)(o:O):Ext G (G++[o]):=⟨[o],rfl⟩
def Ext.get{A B:Hh}(a:Ext A B){n:Nat}{o:O}(h:A[n]? =some o):B[n]? =some o:=by
 obtain⟨r,rfl⟩:=a
 rw[qK_ (qB_.mp h).1]
 exact h
def aV(G:Hh)(o:O):(G++[o])[G.length]? =some o:=by simp
def take_succ{α:Type}{xs:List α}{i:Nat}{x:α}(h:xs[i]? =some x):xs.take (i+1)=xs.take i++[x]:=by
 rw[List.take_add_one,h];rfl
def oA{α:Type}{f:α->D}{ps:List α}{i:Nat}{x:D}(h:(ps.map f)[i]? =some x):∃p,ps[i]? =some p/\x=f p:=by
 rw[qQ_]at h
 cases e:ps[i]? with
 |none=>rw[e]at h;cases h
 |some p=>rw[e]at h;exact⟨p,rfl,(Option.some.inj h).symm⟩
def gk{α:Type}{f:α->D}{xs:List α}{i:Nat}{x:α}(h:xs[i]? =some x):atI (xs.map f) (i:Int)=some (f x):=by
 have hl:=(qB_.mp h).1
 unfold atI M3.ixN
 rw[if_pos (Int.natCast_nonneg _),qM_,if_pos (by exact_mod_cast hl)]
 simp [h]
def BZ{α:Type}{f:α->D}{xs:List α}{i:Int}{x:α}(h0:0<=i)(h:xs[i.toNat]? =some x):atI (xs.map f) i=some (f x):=by
 have:=gk (f:=f) h
 rwa [Int.toNat_of_nonneg h0]at this
def eq_int{G:Hh}{k:Nat}{a b:Int}:eqG G (k+1) (.int a) (.int b)=some (decide (a=b)):=rfl
theorem o8{G:Hh}{p:Int}:∀{os:List Int},oo G (.int p) (os.map D.int)=some (decide (p∈os))
 | []=>by simp [oo]
 |a :: r=>by
  have ih:=o8 (G:=G) (p:=p) (os:=r)
  show (match eqG G 8 (.int a) (.int p),oo G (.int p) (r.map D.int)with
   |some p,some q=>some (p||q)
   |_,_=>none)=_
  rw[ih]
  show some (decide (a=p)||decide (p∈r))=_
  congr 1
  simp only[qS_,Bool.decide_or]
  congr 1
  exact decide_eq_decide.mpr ⟨Eq.symm,Eq.symm⟩
def rM{κ:Type} [DecidableEq κ]{kvs:List (κ×D)}{k:κ}:look kvs k=none↔k∉kvs.map (·.1):=by
 unfold look
 rw[Option.map_eq_none_iff,List.find?_eq_none]
 constructor
 · intro h z
   obtain⟨kv,hm,e⟩:=qH_.mp z
   exact h kv hm (qZ_ e)
 · intro h kv hm e
   exact h (qH_.mpr ⟨kv,hm,of_decide_eq_true e⟩)
def vk{κ:Type} [DecidableEq κ]{kvs:List (κ×D)}{k:κ}:(look kvs k).isSome=decide (k∈kvs.map (·.1)):=by
 by_cases h:k∈kvs.map (·.1)
 · rw[qZ_ h]
   cases q:look kvs k with
   |none=>exact absurd h (rM.mp q)
   |some _=>rfl
 · rw[qa_ h,rM.mpr h];rfl
end KH
namespace KC
open PySem M3
def nE:S3:=
    (aH (eOp oGt (eOp eP (ae 1) (eC (.int 2))) (ae 0)))
def kP:List D->M D:=fnM 2 [] nE
def qd:S3:=
    (ao (bu 1 (eC (.tup [(.tup [(.int 0),(.int 0)]),(.int 0)])))
    (ao (jM (iOf (ae 0)) (gNm 2) (sIf (tB (eOp oGt (eOp oIx (ae 2) (eC (.int 0))) (eOp oIx (ae 1) (eC (.int 0))))) (bu 1 (ae 2)) aX))
    (aH (ae 1))))
def mx:List D->M D:=fnM 1 [none,none] qd
def g9:S3:=
    (ao (bu 3 (gb (iOf (ae 0)) [] jE (eOp oIx (eOp oIx (ae 0) (eC (.int 0))) (eC (.int 0)))))
    (aH (bU (aa (eOp fW (av yL (aa (eOp fW (ae 3) (cS (aa (ae 1) ai))) ai)) (eC (.int 1))) (aa (ae 2) ai)))))
def fM:List D->M D:=fnM 3 [none] g9
def ku:S3:=
    (ao (bz (ae 0) 0 (ae 1))
    (ao (bz (ae 0) 1 (ae 2))
    (ao (bz (ae 0) 2 (eC (.bl false)))
    (ao (bz (ae 0) 3 (eC .non))
    (ao (bz (ae 0) 4 (eC .non))
    (ao (bz (ae 0) 5 (eC (.int 0)))
    (ao (bz (ae 0) 6 pC)
    (bz (ae 0) 7 (eC (.int 0))))))))))
def gT:List D->M D:=fnM 3 [] ku
def gy:S3:=
    (ao (bu 1 (gb (gc (aT (ae 0) 1)) [0] (tB (eOp il (ae 0) (aT (ae 1) 6))) (ae 0)))
    (aH (gb (iOf (ae 1)) [0] jE (bU (aa (aT (ae 1) 0) (aa (ae 0) (aa (aT (ae 1) 5) (aa (aT (ae 1) 4) ai))))))))
def cC:List D->M D:=fnM 1 [none] gy
def eG:S3:=
    (ao (bz (ae 0) 5 (eOp fW (aT (ae 0) 5) (eC (.int 1))))
    (ao (bz (ae 0) 4 (ae 1))
    (ao (bz (ae 0) 6 pC)
    (aH (aL 0 cC (ae 0) ai)))))
def bK:List D->M D:=fnM 2 [] eG
def jt:S3:=
    (ao (sIf (tOf (aT (ae 0) 2)) (md 1004 (aa (eC (.str "the hand is at work already")) ai)) aX)
    (ao (bz (ae 0) 2 (eC (.bl true)))
    (ao (bz (ae 0) 3 (ae 1))
    (aH (aL 0 bK (ae 0) (aa (eC .non) ai))))))
def dI:List D->M D:=fnM 2 [] jt
def eB:S3:=
    (aH (aL 0 dI (ae 0) (aa (ae 1) ai)))
def cM:List D->M D:=fnM 2 [] eB
def ff:S3:=
    (aH (aL 0 dI (ae 0) (aa (eC .non) ai)))
def cY:List D->M D:=fnM 1 [] ff
def dZ:S3:=
    (sIf (eT (tOf (aT (ae 0) 2))) (md 1005 (aa (eC (.str "the hand is not at work")) ai)) aX)
def bL:List D->M D:=fnM 1 [] dZ
def fj:S3:=
    (ao (bP (aL 0 bL (ae 0) ai))
    (aH (aL 0 cC (ae 0) ai)))
def c0:List D->M D:=fnM 1 [] fj
def gE:S3:=
    (ao (bP (aL 0 bL (ae 0) ai))
    (bz (ae 0) 2 (eC (.bl false))))
def eX:List D->M D:=fnM 1 [] gE
def ie:S3:=
    (ao (bu 1 (AV (aT (ae 0) 6)))
    (ao (sIf (tB (eUn lX (aT (ae 0) 3))) (aH (av mx (aa (ae 1) ai))) aX)
    (ao (bu 2 (av fM (aa (ae 1) (aa (aT (ae 0) 7) (aa (aT (ae 0) 0) ai)))))
    (ao (bz (ae 0) 7 (eOp oIx (ae 2) (eC (.int 0))))
    (aH (bU (aa (ae 2) (aa (aT (ae 0) 3) ai))))))))
def fO:List D->M D:=fnM 1 [none,none] ie
def jU:S3:=
    (ao (sIf (tOr (eT (tOf (aT (ae 0) 2))) (tB (eOp oNe (eOp oIx (ae 1) (eC (.int 2))) (aT (ae 0) 5)))) (aH (bU (aa (cS ai) (aa (eC .non) ai)))) aX)
    (ao (xx (aT (ae 0) 6) (eOp oIx (ae 1) (eC (.int 1))) (eOp oIx (ae 1) (eC (.int 3))))
    (ao (sIf (eT (tOf (av kP (aa (aT (ae 0) 1) (aa (av cQ (aa (aT (ae 0) 6) ai)) ai))))) (aH (bU (aa (cS ai) (aa (eC .non) ai)))) aX)
    (ao (sIf (tB (eUn lX (aT (ae 0) 4))) (aH (bU (aa (aL 0 bK (ae 0) (aa (aL 0 fO (ae 0) ai) ai)) (aa (eC .non) ai)))) aX)
    (ao (bz (ae 0) 2 (eC (.bl false)))
    (aH (bU (aa (cS ai) (aa (aT (ae 0) 4) ai)))))))))
def gQ:List D->M D:=fnM 2 [] jU
def hZ:S3:=
    (ao (bz (ae 0) 4 (eC (.tup [(.tup [(.int 0),(.int 0)]),(.int 0)])))
    (bz (ae 0) 8 (eC (.bl true))))
def fJ:List D->M D:=fnM 1 [] hZ
def ij:S3:=
    (ao (bu 1 (aT (ae 0) 8))
    (ao (bz (ae 0) 8 (eC (.bl false)))
    (aH (ae 1))))
def fL:List D->M D:=fnM 1 [none] ij
def hV:S3:=
    (ao (bu 1 (Br (aT (ae 0) 8)))
    (ao (bz (ae 0) 8 (eC (.bl true)))
    (aH (ae 1))))
def fN:List D->M D:=fnM 1 [none] hV
def hG:S3:=
    (sIf (tB (eOp oGt (eOp oIx (ae 1) (eC (.int 0))) (eOp oIx (aT (ae 0) 4) (eC (.int 0))))) (bz (ae 0) 4 (ae 1)) aX)
def fP:List D->M D:=fnM 2 [] hG
def dX:S3:=
    (ao (sIf (eT (tOf (aT (ae 0) 8))) (aH (eC .non)) aX)
    (ao (bu 2 (eOp oIx (ae 1) (eC (.int 3))))
    (ao (sIf (tB (eUn lX (ae 2))) (aH (eOp fW (eSl (ae 1) uL (o9 (eC (.int 3)))) (bU (aa (aT (ae 0) 4) ai)))) aX)
    (ao (bP (aL 1 fP (ae 0) (aa (ae 2) ai)))
    (aH (eOp fW (eSl (ae 1) uL (o9 (eC (.int 3)))) (bU (aa (eC .non) ai))))))))
def cK:List D->M D:=fnM 2 [none] dX
def kB:S3:=
    (ao (bz (ae 0) 9 (gb (gc (ae 1)) [] jE (jC 1 fJ ai)))
    (ao (bz (ae 0) 10 (gb (gc (ae 2)) [1] jE (jC 0 gT (aa (ae 0) (aa (ae 1) ai)))))
    (bz (ae 0) 11 (cS ai))))
def fR:List D->M D:=fnM 3 [] kB
def gD:S3:=
    (ao (sIf (tOr (tB (eOp oLt (ae 1) (eC (.int 0)))) (tB (eOp oGe (ae 1) (av cQ (aa (aT (ae 0) 10) ai))))) (md 1001 (aa (eC (.str "there is no such hand")) ai)) aX)
    (aH (eOp oIx (aT (ae 0) 10) (ae 1))))
def aU:List D->M D:=fnM 2 [] gD
def fx:S3:=
    (ao (sIf (tOr (tB (eOp oLt (ae 1) (eC (.int 0)))) (tB (eOp oGe (ae 1) (av cQ (aa (aT (ae 0) 9) ai))))) (md 1002 (aa (eC (.str "there is no such keeper")) ai)) aX)
    (aH (eOp oIx (aT (ae 0) 9) (ae 1))))
def bx:List D->M D:=fnM 2 [] fx
def kD:S3:=
    (bP (vm (aT (ae 0) 11) (gb (iOf (ae 1)) [] jE (bU (aa (eC (.bl false)) (aa (ae 0) ai))))))
def bZ:List D->M D:=fnM 2 [] kD
def ju:S3:=
    (bP (aL 2 bZ (ae 0) (aa (aL 0 cM (aL 2 aU (ae 0) (aa (ae 1) ai)) (aa (ae 2) ai)) ai)))
def gq:List D->M D:=fnM 3 [] ju
def j6:S3:=
    (bP (aL 2 bZ (ae 0) (aa (aL 0 cY (aL 2 aU (ae 0) (aa (ae 1) ai)) ai) ai)))
def gS:List D->M D:=fnM 2 [] j6
def jk:S3:=
    (ao (bu 2 (aL 0 c0 (aL 2 aU (ae 0) (aa (ae 1) ai)) ai))
    (ao (bP (aL 2 bZ (ae 0) (aa (ae 2) ai)))
    (aH (av cQ (aa (ae 2) ai)))))
def gm:List D->M D:=fnM 2 [none] jk
def iT:S3:=
    (bP (aL 0 eX (aL 2 aU (ae 0) (aa (ae 1) ai)) ai))
def gp:List D->M D:=fnM 2 [] iT
def eD:S3:=
    (aH (aL 1 fL (aL 2 bx (ae 0) (aa (ae 1) ai)) ai))
def cO:List D->M D:=fnM 2 [] eD
def eE:S3:=
    (aH (aL 1 fN (aL 2 bx (ae 0) (aa (ae 1) ai)) ai))
def cN:List D->M D:=fnM 2 [] eE
def cT:S3:=
    (ao (bu 2 (aL 1 cK (eOp oIx (aT (ae 0) 9) (eOp oIx (ae 1) (eC (.int 1)))) (aa (ae 1) ai)))
    (sIf (tB (eUn lF (ae 2))) (bP (pV (aT (ae 0) 11) (bU (aa (eC (.bl true)) (aa (ae 2) ai))))) aX))
def b7:List D->M D:=fnM 2 [none] cT
def dO:S3:=
    (ao (bu 2 (aL 0 gQ (eOp oIx (aT (ae 0) 10) (eOp oIx (ae 1) (eC (.int 0)))) (aa (ae 1) ai)))
    (ao (bP (aL 2 bZ (ae 0) (aa (eOp oIx (ae 2) (eC (.int 0))) ai)))
    (ao (sIf (tB (eUn lX (eOp oIx (ae 2) (eC (.int 1))))) (aH (cS ai)) aX)
    (aH (cS (aa (bU (aa (eOp oIx (ae 1) (eC (.int 0))) (aa (eOp oIx (ae 2) (eC (.int 1))) ai))) ai))))))
def cu:List D->M D:=fnM 2 [none] dO
def ky:S3:=
    (ao (bu 3 (eOp oIx (aT (ae 0) 11) (ae 1)))
    (ao (sIf (eT (tOf (ae 2))) (bP (tY (aT (ae 0) 11) (ae 1))) aX)
    (ao (sIf (tOf (eOp oIx (ae 3) (eC (.int 0)))) (aH (aL 2 cu (ae 0) (aa (eOp oIx (ae 3) (eC (.int 1))) ai))) aX)
    (ao (bP (aL 2 b7 (ae 0) (aa (eOp oIx (ae 3) (eC (.int 1))) ai)))
    (aH (cS ai))))))
def cF:List D->M D:=fnM 3 [none] ky
def iN:S3:=
    (ao (sIf (eT (tOf (aT (ae 0) 11))) (md 1003 (aa (eC (.str "no letter is under way")) ai)) aX)
    (aH (aL 2 cF (ae 0) (aa (eOp oMod (ae 1) (av cQ (aa (aT (ae 0) 11) ai))) (aa (ae 2) ai)))))
def gr:List D->M D:=fnM 3 [] iN
def du:S3:=
    (ao (jM (zK (aT (ae 0) 11)) (gUn [3,4]) (sIf (tB (eOp oEq (eSl (eOp oIx (ae 4) (eC (.int 1))) uL (o9 (eC (.int 2)))) (bU (aa (ae 1) (aa (ae 2) ai))))) (aH (ae 3)) aX))
    (aH (eC .non)))
def bN:List D->M D:=fnM 3 [none,none] du
def dq:S3:=
    (ao (bP (aL 2 aU (ae 0) (aa (ae 1) ai)))
    (ao (bP (aL 2 bx (ae 0) (aa (ae 2) ai)))
    (ao (bu 3 (cS ai))
    (ao (bu 4 (aL 2 bN (ae 0) (aa (ae 1) (aa (ae 2) ai))))
    (ao (r6 (tB (eUn lF (ae 4))) (ao (bP (vm (ae 3) (aL 2 cF (ae 0) (aa (ae 4) (aa (eC (.bl false)) ai)))))
    (bu 4 (aL 2 bN (ae 0) (aa (ae 1) (aa (ae 2) ai))))))
    (aH (ae 3)))))))
def cj:List D->M D:=fnM 3 [none,none] dq
def jy:S3:=
    (ao (bu 1 (cS ai))
    (ao (r6 (tOf (aT (ae 0) 11)) (bP (vm (ae 1) (aL 2 cF (ae 0) (aa (eC (.int 0)) (aa (eC (.bl false)) ai))))))
    (aH (ae 1))))
def gh:List D->M D:=fnM 1 [none] jy
def kj:S3:=
    (ao (bz (ae 0) 12 (ae 1))
    (ao (bz (ae 0) 13 (ae 2))
    (ao (bz (ae 0) 3 (ae 3))
    (ao (bz (ae 0) 14 (ae 4))
    (ao (bz (ae 0) 15 (eC .non))
    (bz (ae 0) 16 (eC .non)))))))
def gU:List D->M D:=fnM 5 [] kj
def kE:S3:=
    (aH (bU (aa (aT (ae 0) 12) (aa (aT (ae 0) 13) (aa (aT (ae 0) 3) (aa (aT (ae 0) 14) (aa (aT (ae 0) 15) ai)))))))
def gR:List D->M D:=fnM 1 [] kE
def iQ:S3:=
    (ao (bz (ae 0) 17 (jC 2 fR (aa (ae 1) (aa (ae 2) ai))))
    (ao (bz (ae 0) 18 (cS ai))
    (ao (bz (ae 0) 19 pC)
    (bz (ae 0) 20 (eC (.int 0))))))
def dE:List D->M D:=fnM 3 [] iQ
def eZ:S3:=
    (ao (bu 4 (av cQ (aa (aT (ae 0) 18) ai)))
    (ao (bP (pV (aT (ae 0) 18) (jC 3 gU (aa (ae 1) (aa (ae 2) (aa (ae 3) (aa (aT (ae 0) 20) ai)))))))
    (ao (xx (aT (ae 0) 19) (ae 1) (ae 4))
    (aH (ae 4)))))
def cm:List D->M D:=fnM 4 [none] eZ
def fy:S3:=
    (ao (bu 3 (eOp oIx (aT (ae 0) 19) (ae 1)))
    (ao (bu 4 (eOp oIx (aT (ae 0) 18) (ae 3)))
    (ao (bz (ae 4) 3 (eOp oIx (ae 2) (eC (.int 1))))
    (ao (bz (ae 4) 15 (aT (ae 0) 20))
    (aH (bU (aa (ae 3) (aa (aT (ae 4) 3) ai))))))))
def dJ:List D->M D:=fnM 3 [none,none] fy
def fg:S3:=
    (aH (gb (iOf (ae 1)) [0] jE (aL 4 dJ (ae 1) (aa (eOp oIx (ae 0) (eC (.int 0))) (aa (eOp oIx (ae 0) (eC (.int 1))) ai)))))
def bB:List D->M D:=fnM 2 [] fg
def iZ:S3:=
    (ao (bu 2 (eOp oIx (ae 1) (eC (.int 0))))
    (ao (sIf (tB (eOp oEq (ae 2) (eC (.str "write")))) (ao (bP (aL 2 gq (aT (ae 0) 17) (aa (eOp oIx (ae 1) (eC (.int 1))) (aa (eOp oIx (ae 1) (eC (.int 2))) ai))))
    (aH (aL 4 cm (ae 0) (aa (eOp oIx (ae 1) (eC (.int 1))) (aa (ae 2) (aa (eOp oIx (ae 1) (eC (.int 2))) ai)))))) aX)
    (ao (sIf (tB (eOp oEq (ae 2) (eC (.str "read")))) (ao (bP (aL 2 gS (aT (ae 0) 17) (aa (eOp oIx (ae 1) (eC (.int 1))) ai)))
    (aH (aL 4 cm (ae 0) (aa (eOp oIx (ae 1) (eC (.int 1))) (aa (ae 2) (aa (eC .non) ai)))))) aX)
    (ao (sIf (tB (eOp oEq (ae 2) (eC (.str "carry")))) (ao (bu 3 (aL 4 bB (ae 0) (aa (aL 2 gr (aT (ae 0) 17) (aa (eOp oIx (ae 1) (eC (.int 1))) (aa (eOp oIx (ae 1) (eC (.int 2))) ai))) ai)))
    (aH (eIf (tOf (ae 3)) (eOp oIx (ae 3) (eC (.int 0))) (eC .non)))) aX)
    (ao (sIf (tB (eOp oEq (ae 2) (eC (.str "pass")))) (aH (aL 4 bB (ae 0) (aa (aL 2 cj (aT (ae 0) 17) (aa (eOp oIx (ae 1) (eC (.int 1))) (aa (eOp oIx (ae 1) (eC (.int 2))) ai))) ai))) aX)
    (ao (sIf (tB (eOp oEq (ae 2) (eC (.str "sweep")))) (aH (aL 4 bB (ae 0) (aa (aL 2 gh (aT (ae 0) 17) ai) ai))) aX)
    (ao (sIf (tB (eOp oEq (ae 2) (eC (.str "again")))) (aH (aL 2 gm (aT (ae 0) 17) (aa (eOp oIx (ae 1) (eC (.int 1))) ai))) aX)
    (ao (sIf (tB (eOp oEq (ae 2) (eC (.str "quit")))) (ao (bP (aL 2 gp (aT (ae 0) 17) (aa (eOp oIx (ae 1) (eC (.int 1))) ai)))
    (aH (eOp oIx (aT (ae 0) 19) (eOp oIx (ae 1) (eC (.int 1)))))) aX)
    (ao (sIf (tB (eOp oEq (ae 2) (eC (.str "stop")))) (aH (aL 2 cO (aT (ae 0) 17) (aa (eOp oIx (ae 1) (eC (.int 1))) ai))) aX)
    (aH (aL 2 cN (aT (ae 0) 17) (aa (eOp oIx (ae 1) (eC (.int 1))) ai))))))))))))
def gu:List D->M D:=fnM 2 [none,none] iZ
def cE:S3:=
    (wH (aL 4 gu (ae 0) (aa (ae 1) ai)) (fun d σ=>(.ret d,σ)) [(fun c=>decide (c=1001),(aH (eC (.str "no hand")))),(fun c=>decide (c=1002),(aH (eC (.str "no keeper")))),(fun c=>decide (c=1003),(aH (eC (.str "no letter")))),(fun c=>decide (c=1004),(aH (eC (.str "busy")))),(fun c=>decide (c=1005),(aH (eC (.str "idle"))))])
def bQ:List D->M D:=fnM 2 [] cE
def dN:S3:=
    (vT (aT (ae 0) 19) (gUn [1,2]) (ao (bu 3 (aT (eOp oIx (aT (aT (ae 0) 17) 10) (ae 1)) 4))
    (sIf (tB (eUn lF (ae 3))) (ao (bu 4 (eOp oIx (aT (ae 0) 18) (ae 2)))
    (bz (ae 4) 16 (eOp oIx (ae 3) (eC (.int 0))))) aX)))
def cy:List D->M D:=fnM 1 [none,none,none,none] dN
def gA:S3:=
    (ao (bu 2 (aL 4 bQ (ae 0) (aa (ae 1) ai)))
    (ao (bP (aL 4 cy (ae 0) ai))
    (ao (bz (ae 0) 20 (eOp fW (aT (ae 0) 20) (eC (.int 1))))
    (aH (ae 2)))))
def b0:List D->M D:=fnM 2 [none] gA
def nG:S3:=
    (ao (bu 3 (jC 4 dE (aa (ae 0) (aa (ae 1) ai))))
    (aH (gb (iOf (ae 2)) [3] jE (aL 4 b0 (ae 1) (aa (ae 0) ai)))))
def kO:List D->M D:=fnM 3 [none] nG
def kq:S3:=
    (ao (bu 3 (jC 4 dE (aa (ae 0) (aa (ae 1) ai))))
    (ao (jM (iOf (ae 2)) (gNm 4) (bP (aL 4 b0 (ae 3) (aa (ae 4) ai))))
    (ao (bu 5 (gb (iOf (aT (ae 3) 18)) [] jE (aL 3 gR (ae 0) ai)))
    (ao (bu 6 (gb (iOf (aT (ae 3) 18)) [] jE (aT (ae 0) 16)))
    (ao (bu 7 (gb (iOf (aT (aT (ae 3) 17) 9)) [] jE (aT (ae 0) 4)))
    (aH (bU (aa (ae 5) (aa (ae 6) (aa (ae 7) ai))))))))))
def gP:List D->M D:=fnM 3 [none,none,none,none,none] kq
def Dq(rec:List D->M D):S3:=
    (ao (sIf (tB (eUn lX (ae 1))) (aH (eUn lX (ae 0))) aX)
    (ao (sIf (tOf (av (bIs .bl) (aa (ae 1) ai))) (aH (oq (av (bIs .bl) (aa (ae 0) ai)) (eOp oEq (ae 0) (ae 1)))) aX)
    (ao (sIf (tOf (av (bIs .int) (aa (ae 1) ai))) (aH (oq (av (bIs .int) (aa (ae 0) ai)) (oq (Br (av (bIs .bl) (aa (ae 0) ai))) (eOp oEq (ae 0) (ae 1))))) aX)
    (ao (sIf (tOf (av (bIs .str) (aa (ae 1) ai))) (aH (oq (av (bIs .str) (aa (ae 0) ai)) (eOp oEq (ae 0) (ae 1)))) aX)
    (ao (sIf (tOf (av (bIs .dic) (aa (ae 1) ai))) (aH (oq (av (bIs .dic) (aa (ae 0) ai)) (av rec (aa Bz (aa Bz ai))))) aX)
    (ao (sIf (tB (eOp oNe (av (bIs .tup) (aa (ae 1) ai)) (av (bIs .tup) (aa (ae 0) ai)))) (aH (eC (.bl false))) aX)
    (ao (sIf (tOr (tB (eOp oNe (av (bIs .lst) (aa (ae 1) ai)) (av (bIs .lst) (aa (ae 0) ai)))) (eT (tOf (av (yK [.lst,.tup]) (aa (ae 1) ai))))) (aH (eC (.bl false))) aX)
    (ao (sIf (tB (eOp oNe (av cQ (aa (ae 0) ai)) (av cQ (aa (ae 1) ai)))) (aH (eC (.bl false))) aX)
    (ao (jM (gc (av cQ (aa (ae 1) ai))) (gNm 2) (sIf (eT (tOf (av rec (aa (eOp oIx (ae 0) (ae 2)) (aa (eOp oIx (ae 1) (ae 2)) ai))))) (aH (eC (.bl false))) aX))
    (aH (eC (.bl true))))))))))))
def yo:Nat->List D->M D
 |0=>fnM 2 [none] D3
 |k+1=>fnM 2 [none] (Dq (yo k))
def tX:S3:=
    (aH (oq (av (bIs .int) (aa (ae 0) ai)) (Br (av (bIs .bl) (aa (ae 0) ai)))))
def dS:List D->M D:=fnM 1 [] tX
def GK:S3:=
    (ao (sIf (tB (eOp oLt (ae 1) (av cQ (aa (ae 0) ai)))) (aH (eOp oIx (ae 0) (ae 1))) aX)
    (aH (eC (.int 0))))
def sJ:List D->M D:=fnM 2 [] GK
def ma:S3:=
    (ao (bu 2 (eOp fW (eOp eP (eOp oMod (ae 0) (av se (aa (eOp fW (eC (.str "1")) (eOp eP (eC (.str "0")) (eC (.int 88)))) ai))) (eC (.int 100))) (ae 1)))
    (ao (bu 3 (cS (aa (eOp fW (ae 1) (eC (.int 1))) (aa (eOp rR (eOp rR (eC (.int 0)) (ae 1)) (eC (.int 1))) (aa (eOp fW (eOp eP (eC (.int 1000)) (ae 1)) (eC (.int 7))) (aa (ae 2) (aa (eOp rR (eC (.int 0)) (ae 2)) (aa (eC (.int 0)) ai))))))))
    (aH (eOp oIx (ae 3) (eOp oMod (eOp oMod (eOp eP (ae 0) (eC (.int 48271))) (eC (.int 1009))) (eC (.int 6)))))))
def jh:List D->M D:=fnM 2 [none,none] ma
def nF:S3:=
    (ao (bu 4 (eOp oMod (eOp oMod (eOp eP (ae 0) (eC (.int 48271))) (eC (.int 1013))) (eC (.int 20))))
    (ao (bu 5 (eOp oMod (eOp oMod (eOp eP (ae 0) (eC (.int 48271))) (eC (.int 1019))) (ae 3)))
    (ao (bu 6 (eOp oMod (eOp oMod (eOp eP (ae 0) (eC (.int 48271))) (eC (.int 1021))) (ae 2)))
    (ao (sIf (tB (eOp oLt (ae 4) (eC (.int 3)))) (aH (bU (aa (eC (.str "write")) (aa (ae 5) (aa (av jh (aa (ae 0) (aa (ae 1) ai))) ai))))) aX)
    (ao (sIf (tB (eOp oLt (ae 4) (eC (.int 6)))) (aH (bU (aa (eC (.str "read")) (aa (ae 5) ai)))) aX)
    (ao (sIf (tB (eOp oLt (ae 4) (eC (.int 14)))) (aH (bU (aa (eC (.str "pass")) (aa (ae 5) (aa (ae 6) ai))))) aX)
    (ao (sIf (tB (eOp oLt (ae 4) (eC (.int 16)))) (ao (bu 7 (eOp oMod (eOp oMod (eOp eP (ae 0) (eC (.int 48271))) (eC (.int 1031))) (eC (.int 40))))
    (ao (sIf (tB (eOp oEq (eOp oMod (eOp oMod (eOp eP (ae 0) (eC (.int 48271))) (eC (.int 1049))) (eC (.int 6))) (eC (.int 1)))) (bu 7 (eOp oMod (ae 0) (av se (aa (eOp fW (eC (.str "1")) (eOp eP (eC (.str "0")) (eC (.int 90)))) ai)))) aX)
    (aH (bU (aa (eC (.str "carry")) (aa (ae 7) (aa (eOp oGt (eOp oMod (eOp oMod (eOp eP (ae 0) (eC (.int 48271))) (eC (.int 1033))) (eC (.int 3))) (eC (.int 0))) ai))))))) aX)
    (ao (sIf (tB (eOp oEq (ae 4) (eC (.int 18)))) (aH (bU (aa (eC (.str "again")) (aa (ae 5) ai)))) aX)
    (ao (sIf (tB (eOp oEq (ae 4) (eC (.int 19)))) (aH (eOp oIx (cS (aa (bU (aa (eC (.str "quit")) (aa (ae 5) ai))) (aa (bU (aa (eC (.str "sweep")) ai)) ai))) (eOp oMod (eOp oMod (eOp eP (ae 0) (eC (.int 48271))) (eC (.int 1039))) (eC (.int 2))))) aX)
    (aH (eOp oIx (cS (aa (bU (aa (eC (.str "stop")) (aa (ae 6) ai))) (aa (bU (aa (eC (.str "wake")) (aa (ae 6) ai))) ai))) (eOp rR (ae 4) (eC (.int 16))))))))))))))
def ix:List D->M D:=fnM 4 [none,none,none,none] nF
def nH:S3:=
    (ao (bu 3 (eOp oMod (eOp oMod (eOp eP (ae 0) (eC (.int 48271))) (eC (.int 1093))) (eC (.int 4))))
    (ao (sIf (tB (eOp oEq (ae 3) (eC (.int 1)))) (ao (bu 4 (cS (aa (bU (aa (eC (.str "write")) (aa (eC (.int 0)) (aa (eC (.int 7)) ai)))) (aa (bU (aa (eC (.str "carry")) (aa (eC (.int 0)) (aa (eC (.bl true)) ai)))) (aa (bU (aa (eC (.str "carry")) (aa (eC (.int 0)) (aa (eC (.bl true)) ai)))) ai)))))
    (aH (eOp fW (ae 4) (cS (aa (bU (aa (eC (.str "carry")) (aa (ae 1) (aa (eC (.bl false)) ai)))) (aa (bU (aa (eC (.str "carry")) (aa (ae 1) (aa (eC (.bl false)) ai)))) ai)))))) aX)
    (ao (sIf (nA (tB (eOp oGt (ae 3) (eC (.int 1)))) (nA (tB (eOp oEq (ae 1) (eC (.int 3)))) (tB (eOp oGt (ae 2) (eC (.int 1)))))) (ao (bu 4 (cS (aa (bU (aa (eC (.str "read")) (aa (eC (.int 0)) ai))) (aa (bU (aa (eC (.str "carry")) (aa (eC (.int 0)) (aa (eC (.bl true)) ai)))) (aa (bU (aa (eC (.str "write")) (aa (eC (.int 1)) (aa (eC (.int 9)) ai)))) ai)))))
    (ao (bP (vm (ae 4) (cS (aa (bU (aa (eC (.str "pass")) (aa (eC (.int 1)) (aa (eC (.int 0)) ai)))) (aa (bU (aa (eC (.str "pass")) (aa (eC (.int 1)) (aa (eC (.int 1)) ai)))) (aa (bU (aa (eC (.str "pass")) (aa (eC (.int 1)) (aa (eC (.int 0)) ai)))) ai))))))
    (ao (bP (vm (ae 4) (cS (aa (bU (aa (eC (.str "carry")) (aa (eC (.int 0)) (aa (eC (.bl true)) ai)))) (aa (bU (aa (eC (.str "carry")) (aa (eC (.int 6)) (aa (eC (.bl false)) ai)))) ai)))))
    (aH (eOp fW (ae 4) (cS (aa (bU (aa (eC (.str "carry")) (aa (eC (.int 3)) (aa (eC (.bl false)) ai)))) (aa (bU (aa (eC (.str "pass")) (aa (eC (.int 0)) (aa (eC (.int 2)) ai)))) ai)))))))) aX)
    (aH (cS ai)))))
def kR:List D->M D:=fnM 3 [none,none] nH
def sP:S3:=
    (ao (bu 3 (cS ai))
    (ao (sIf (tB (eOp oNe (ae 0) (cS ai))) (bu 3 (av kR (aa (eOp oIx (ae 0) (eC (.int 0))) (aa (ae 1) (aa (ae 2) ai))))) aX)
    (ao (jM (gc (av cQ (aa (ae 0) ai))) (gNm 4) (bP (pV (ae 3) (av ix (aa (eOp fW (eOp oIx (ae 0) (ae 4)) (eOp eP (eC (.int 7)) (ae 4))) (aa (ae 4) (aa (ae 1) (aa (ae 2) ai))))))))
    (aH (ae 3)))))
def oI:List D->M D:=fnM 3 [none,none] sP
def lU:S3:=
    (ao (sIf (tOr (eT (tOf (av (bIs .tup) (aa (ae 0) ai)))) (tB (eOp oNe (av cQ (aa (ae 0) ai)) (eC (.int 2))))) (aH (eC (.bl false))) aX)
    (aH (oq (av dS (aa (eOp oIx (ae 0) (eC (.int 0))) ai)) (av dS (aa (eOp oIx (ae 0) (eC (.int 1))) ai)))))
def fH:List D->M D:=fnM 1 [] lU
def nj:S3:=
    (ao (sIf (tOr (eT (tOf (av (bIs .tup) (aa (ae 0) ai)))) (tB (eOp oNe (av cQ (aa (ae 0) ai)) (eC (.int 2))))) (aH (eC (.bl false))) aX)
    (aH (oq (av fH (aa (eOp oIx (ae 0) (eC (.int 0))) ai)) (av dS (aa (eOp oIx (ae 0) (eC (.int 1))) ai)))))
def kM:List D->M D:=fnM 1 [] nj
def ng:S3:=
    (ao (sIf (tOr (eT (tOf (av (bIs .tup) (aa (ae 0) ai)))) (tB (eOp oNe (av cQ (aa (ae 0) ai)) (eC (.int 5))))) (aH (eC (.bl false))) aX)
    (ao (sUn [1,2,3,4,5] (ae 0))
    (ao (sIf (tOr (eT (tOf (av dS (aa (ae 1) ai)))) (tOr (eT (tOf (av dS (aa (ae 4) ai)))) (eT (tOf (av (bIs .str) (aa (ae 2) ai)))))) (aH (eC (.bl false))) aX)
    (ao (sIf (nA (tB (eUn lF (ae 3))) (eT (tOf (av dS (aa (ae 3) ai))))) (aH (eC (.bl false))) aX)
    (aH (eOr (eUn lX (ae 5)) (av dS (aa (ae 5) ai))))))))
def k7:List D->M D:=fnM 1 [none,none,none,none,none] ng
def j5:S3:=
    (ao (sIf (tOr (eT (tOf (av (bIs .tup) (aa (ae 0) ai)))) (tB (eOp oNe (av cQ (aa (ae 0) ai)) (eC (.int 3))))) (aH (eC (.bl false))) aX)
    (ao (jM (iOf (ae 0)) (gNm 2) (sIf (eT (tOf (av (bIs .lst) (aa (ae 2) ai)))) (aH (eC (.bl false))) aX))
    (ao (jM (iOf (eOp oIx (ae 0) (eC (.int 0)))) (gNm 3) (sIf (eT (tOf (av k7 (aa (ae 3) ai)))) (aH (eC (.bl false))) aX))
    (ao (jM (iOf (eOp oIx (ae 0) (eC (.int 1)))) (gNm 4) (sIf (nA (tB (eUn lF (ae 4))) (eT (tOf (av fH (aa (ae 4) ai))))) (aH (eC (.bl false))) aX))
    (ao (jM (iOf (eOp oIx (ae 0) (eC (.int 2)))) (gNm 5) (sIf (eT (tOf (av kM (aa (ae 5) ai)))) (aH (eC (.bl false))) aX))
    (aH (oq (eOp oEq (av cQ (aa (eOp oIx (ae 0) (eC (.int 0))) ai)) (av cQ (aa (eOp oIx (ae 0) (eC (.int 1))) ai))) (eOp oEq (av cQ (aa (eOp oIx (ae 0) (eC (.int 2))) ai)) (ae 1)))))))))
def gY:List D->M D:=fnM 2 [none,none,none,none] j5
def lJ:S3:=
    (ao (bu 3 (av oi (aa (ae 2) ai)))
    (ao (bu 4 (av gP (aa (ae 0) (aa (ae 1) (aa (ae 3) ai)))))
    (ao (sIf (tOr (tB (eOp oNe (ae 3) (ae 2))) (eT (tOf (av gY (aa (ae 4) (aa (ae 0) ai)))))) (aH (eC .non)) aX)
    (aH (ae 4)))))
def jq:List D->M D:=fnM 3 [none,none] lJ
def mj:S3:=
    (ao (bu 3 (eOp oMod (eOp oMod (eOp eP (ae 0) (eC (.int 48271))) (eC (.int 1061))) (ae 1)))
    (ao (bu 4 (eOp oMod (eOp oMod (eOp eP (ae 0) (eC (.int 48271))) (eC (.int 1063))) (eOp oDiv (eOp fW (ae 1) (eC (.int 1))) (eC (.int 2)))))
    (ao (bu 5 (gb (gc (ae 4)) [1,3] jE (eOp oMod (eOp fW (ae 2) (ae 0)) (ae 1))))
    (ao (bu 6 (cS ai))
    (ao (jM (gc (ae 1)) (gNm 7) (bP (pV (ae 6) (eOp oIx (cS (aa (bU (aa (eC (.str "wake")) (aa (ae 7) ai))) (aa (bU (aa (eC (.str "stop")) (aa (ae 7) ai))) ai))) (av se (aa (eOp oIn (ae 7) (ae 5)) ai))))))
    (ao (jM (gc (ae 2)) (gNm 7) (bP (pV (ae 6) (bU (aa (eC (.str "again")) (aa (ae 7) ai))))))
    (aH (eOp fW (ae 6) (cS (aa (bU (aa (eC (.str "sweep")) ai)) ai))))))))))
def jm:List D->M D:=fnM 3 [none,none,none,none,none] mj
def ml:S3:=
    (ao (bu 2 (cS ai))
    (ao (jM (gc (av cQ (aa (ae 0) ai))) (gNm 3) (sIf (nA (tB (eOp oEq (eOp oIx (eOp oIx (ae 0) (ae 3)) (eC (.int 0))) (eC (.str "quit")))) (eT (tOf (av (bIs .str) (aa (eOp oIx (ae 1) (ae 3)) ai))))) (bP (pV (ae 2) (eOp oIx (ae 1) (ae 3)))) aX))
    (aH (ae 2))))
def iS:List D->M D:=fnM 2 [none,none] ml
def Bl:S3:=
    (ao (bu 1 (eOp oIx (cS (aa (eC (.int 3)) (aa (eC (.int 3)) (aa (eC (.int 3)) (aa (eC (.int 1)) (aa (eC (.int 2)) (aa (eC (.int 4)) (aa (eC (.int 5)) (aa (eC (.int 3)) (aa (eC (.int 7)) (aa (eC (.int 8)) (aa (eC (.int 9)) (aa (eC (.int 3)) ai))))))))))))) (eOp oMod (eOp oMod (eOp eP (av sJ (aa (ae 0) (aa (eC (.int 0)) ai))) (eC (.int 48271))) (eC (.int 1049))) (eC (.int 12)))))
    (ao (bu 2 (eOp oIx (cS (aa (eC (.int 2)) (aa (eC (.int 2)) (aa (eC (.int 3)) (aa (eC (.int 1)) (aa (eC (.int 2)) (aa (eC (.int 3)) (aa (eC (.int 2)) (aa (eC (.int 9)) ai))))))))) (eOp oMod (eOp oMod (eOp eP (av sJ (aa (ae 0) (aa (eC (.int 0)) ai))) (eC (.int 48271))) (eC (.int 1051))) (eC (.int 8)))))
    (ao (bu 3 (av oI (aa (eSl (ae 0) (o9 (eC (.int 2))) (o9 (eC (.int 20)))) (aa (ae 1) (aa (ae 2) ai)))))
    (ao (bu 3 (eOp fW (ae 3) (av jm (aa (av sJ (aa (ae 0) (aa (eC (.int 1)) ai))) (aa (ae 1) (aa (ae 2) ai))))))
    (ao (bu 4 (av kO (aa (ae 1) (aa (ae 2) (aa (av oi (aa (ae 3) ai)) ai)))))
    (ao (bu 5 (av jq (aa (ae 1) (aa (ae 2) (aa (ae 3) ai)))))
    (ao (sIf (tOr (tB (eUn lX (ae 5))) (tOr (eT (tOf (av (bIs .lst) (aa (ae 4) ai)))) (tB (eOp oNe (av cQ (aa (ae 4) ai)) (av cQ (aa (ae 3) ai)))))) (aH (eC (.bl false))) aX)
    (ao (bu 6 (eOp oIx (ae 5) (eC (.int 0))))
    (ao (bu 7 (av iS (aa (ae 3) (aa (ae 4) ai))))
    (ao (bu 8 (cS ai))
    (ao (jM (gc (av cQ (aa (ae 6) ai))) (gNm 9) (ao (sIf (nA (tB (eUn lX (eOp oIx (eOp oIx (ae 6) (ae 9)) (eC (.int 4))))) (tB (eOp il (ae 9) (ae 7)))) (aH (eC (.bl false))) aX)
    (ao (sIf (nA (tB (eUn lF (eOp oIx (eOp oIx (ae 6) (ae 9)) (eC (.int 4))))) (tB (eOp oIn (ae 9) (ae 7)))) (aH (eC (.bl false))) aX)
    (sIf (tB (eOp oEq (eOp oIx (eOp oIx (ae 6) (ae 9)) (eC (.int 4))) (eOp rR (av cQ (aa (ae 3) ai)) (eC (.int 1))))) (bP (pV (ae 8) (bU (aa (ae 9) (aa (eOp oIx (eOp oIx (ae 6) (ae 9)) (eC (.int 2))) ai))))) aX))))
    (aH (oq (av (bIs .lst) (aa (eOp oIx (ae 4) (eUn Cr (eC (.int 1)))) ai)) (av (yo 9) (aa (av rE (aa (eOp oIx (ae 4) (eUn Cr (eC (.int 1)))) ai)) (aa (ae 8) ai))))))))))))))))
def pK:List D->M D:=fnM 1 [none,none,none,none,none,none,none,none,none] Bl
end KC
namespace KH
open PySem M3
def Chg(S:List Nat)(G G':Hh):Prop:=G.length<=G'.length/\∀n,n < G.length->n∉S->G'[n]? =G[n]?
def Chg.refl(S:List Nat)(G:Hh):Chg S G G:=⟨qO_ _,fun _ _ _=>rfl⟩
theorem Chg.trans{S:List Nat}{A B C:Hh}(a:Chg S A B)(b:Chg S B C):Chg S A C:=
 ⟨Nat.le_trans a.1 b.1,fun n hn hs=>(b.2 n (qd_ hn a.1) hs).trans (a.2 n hn hs)⟩
def Chg.trans'{S T:List Nat}{A B C:Hh}(a:Chg S A B)(b:Chg T B C)(h:∀n∈T,n∈S\/A.length<=n):Chg S A C:=
 ⟨Nat.le_trans a.1 b.1,fun n hn hs=>(b.2 n (qd_ hn a.1) (fun z=>(h n z).elim hs fun w=>qe_ _ (qd_ hn w))).trans (a.2 n hn hs)⟩
def Chg.mono{S T:List Nat}{A B:Hh}(a:Chg S A B)(h:∀n∈S,n∈T):Chg T A B:=⟨a.1,fun n hn hs=>a.2 n hn fun z=>hs (h n z)⟩
def Chg.add{S:List Nat}(G:Hh)(o:O):Chg S G (G++[o]):=⟨by simp,fun n hn _=>qK_ hn⟩
theorem Chg.set{S:List Nat}(G:Hh){n:Nat}(o:O)(h:n∈S):Chg S G (G.set n o):=⟨by simp,fun m hm hs=>by
 rw[qV_ (by rintro rfl;exact hs h)]⟩
def Chg.get{S:List Nat}{A B:Hh}(a:Chg S A B){n:Nat}{o:O}(h:A[n]? =some o)(hs:n∉S):B[n]? =some o:=by
 rw[a.2 n (qB_.mp h).1 hs];exact h
def Ext.chg{S:List Nat}{A B:Hh}(a:Ext A B):Chg S A B:=by
 obtain⟨r,rfl⟩:=a
 exact⟨by simp,fun n hn _=>qK_ hn⟩
def ax{G:Hh}{n:Nat}{o:O}(h:G[n]? =some o):n < G.length:=(qB_.mp h).1
def iB{G:Hh}{l:Nat}{o o':O}(h:G[l]? =some o):(G.set l o')[l]? =some o':=qU_ (qB_.mp h).1
section
variable{G G':Hh}{E:Nat->Hh->Prop}{σ:St}{Q:D->Hh->Prop}{QU:Unit->Hh->Prop}{QA:List D->Hh->Prop}{QS:Fl×St->Hh->Prop}
def aM{n C f:Nat}{fs:List (Nat×D)}{y:D}(hn:G[n]? =some (.ins C fs))(hl:C < 1000/\fs.length < 1000)(h:∀G',Chg [n] G G'->G'.length=G.length->G'[n]? =some (.ins C (putN f y fs))->QU () G'):run (yj (.ref n) f y) G QU E:=
 Gg hn hl (h _ (Chg.set _ _ qI_) (by simp) (iB hn))
def xl{n:Nat}{kvs:List (Key×D)}{i v:D}{k:Key}(hn:G[n]? =some (.dK kvs))(hk:pZ i=some k)(hl:kvs.length < aC)(h:∀G',Chg [n] G G'->G'.length=G.length->G'[n]? =some (.dK (put kvs k v))->QU () G'):run (yB (.ref n) i v) G QU E:=
 FI hn hk hl (h _ (Chg.set _ _ qI_) (by simp) (iB hn))
def fz{n:Nat}{xs:List D}{y:D}(hl:G[n]? =some (.lst xs))(hz:xs.length < aC)(h:∀G',Chg [n] G G'->G'.length=G.length->G'[n]? =some (.lst (xs++[y]))->Q .non G'):run (gN (.ref n) y) G Q E:=
 z0 hl hz (h _ (Chg.set _ _ qI_) (by simp) (iB hl))
def gJ{n m:Nat}{xs ys:List D}(hn:G[n]? =some (.lst xs))(hm:G[m]? =some (.lst ys))(hl:xs.length+ys.length<=aC)(h:∀G',Chg [n] G G'->G'.length=G.length->G'[n]? =some (.lst (xs++ys))->Q .non G'):run (iU (.ref n) (.ref m)) G Q E:=
 yy hn hm hl (h _ (Chg.set _ _ qI_) (by simp) (iB hn))
def pT(h:∀G',Chg [] G G'->G'.length=G.length+1->G'[G.length]? =some (.dK [])->Q (.ref G.length) G'):run (pC σ) G Q E:=h _ (Chg.add _ _) (by simp) (aV _ _)
def dM(h:∀G',Chg [] G G'->G'.length=G.length+1->G'[G.length]? =some (.lst [])->Q (.ref G.length) G'):run (cS ai σ) G Q E:=Ax (ay ⟨qf_ _,h _ (Chg.add _ _) (by simp) (aV _ _)⟩)
def kQ{C:Nat}{g:List D->M D}{a:A3}(h:run (a σ) G (fun ds G1=>∀G2,Chg [] G1 G2->G2.length=G1.length+1->G2[G1.length]? =some (.ins C [])->run (g (.ref G1.length :: ds)) G2 (fun r G3=>r= .non/\Q (.ref G1.length) G3) E) E):run (jC C g a σ) G Q E:=
 Gi (au h (fun ds G1 q=>q _ (Chg.add _ _) (by simp) (aV _ _)) fun _ _ z=>z)
def kU{α:Type}{f:α->D}{p:α->Bool}{g:α->D}{xs:List α}{ck:Hh->Bool}{cond:D->M Bool}{elt:D->M D}(hck:ck G=true)(hz:xs.length<=1000000)
 (hc:∀x∈xs,run (cond (f x)) G (fun c G1=>G1=G/\c=p x) E) (he:∀x∈xs,p x=true->run (elt (f x)) G (fun y G1=>G1=G/\y=g x) E)
 (h:QA ((xs.filter p).map g) G):run (b8 ck cond elt (xs.map f) []) G QA E:=by
 refine jo (fun i acc G'=>G'=G/\acc=((xs.take i).filter p).map g) ?_ ?_ ?_ (xs.map f) 0 [] G List.drop_zero (qf_ _) ⟨rfl,by simp⟩
 · rintro i acc G' ⟨rfl,_⟩
   exact hck
 · rintro i x acc G' hx ⟨rfl,rfl⟩
   obtain⟨y,hy,rfl⟩:=oA hx
   have hm:=qD_ hy
   refine au (hc y hm) (fun c G1 ⟨e1,e2⟩=>?_) fun _ _ z=>z
   subst e1 e2
   have e3:((xs.take (i+1)).filter p).map g=((xs.take i).filter p).map g++(if p y=true then [g y]else []):=by
    rw[take_succ hy,List.filter_append,qT_]
    cases q:p y <;> simp [q]
   cases q:p y with
   |true=>
    rw[if_pos rfl]
    refine au (he y hm q) (fun v G2 ⟨e1,e2⟩=>?_) fun _ _ z=>z
    subst e1 e2
    refine⟨?_,rfl,?_⟩
    · have:=List.length_filter_le p (xs.take i)
      simp [aC]
      rw[List.length_take]at this
      omega
    · rw[e3,q];rfl
   |false=>
    rw[if_neg qC_]
    refine⟨rfl,?_⟩
    rw[e3,q];simp
 · rintro acc G' ⟨rfl,rfl⟩
   rw[qM_,List.take_length]
   exact h
theorem rT{t:T3}{body:S3}(P:St->Hh->Nat->Prop)(hs:∀σ G m,P σ G m->run (t σ) G (fun c G1=>if c=true then run (body σ) G1 (fun p G2=>match p.1 with
 | .next=>∃m',m' < m/\P p.2 G2 m'
 | .cont=>∃m',m' < m/\P p.2 G2 m'
 | .brk=>QS (.next,p.2) G2
 | .ret d=>QS (.ret d,p.2) G2) E else QS (.next,σ) G1) E):∀(k:Nat) (σ:St) (G:Hh) (m:Nat),m < k->P σ G m->run (iW t body k σ) G QS E
 |0,_,_,_,h,_=>absurd h (Nat.not_lt_zero _)
 |k+1,σ,G,m,hm,p=>by
  show run (bnd (t σ) fun c=>if c then bnd (body σ) (fun p=>match p.1 with
   | .next=>iW t body k p.2
   | .cont=>iW t body k p.2
   | .brk=>ret (.next,p.2)
   | .ret d=>ret (.ret d,p.2))else ret (.next,σ)) G QS E
  refine aB (au (hs σ G m p) (fun c G1 q=>?_) fun _ _ z=>z)
  cases c with
  |false=>exact q
  |true=>
   refine aB (au q (fun r G2 q2=>?_) fun _ _ z=>z)
   obtain⟨f,σ'⟩:=r
   cases f with
   |next=>obtain⟨m',h1,h2⟩:=q2;exact rT P hs k σ' G2 m' (by omega) h2
   |cont=>obtain⟨m',h1,h2⟩:=q2;exact rT P hs k σ' G2 m' (by omega) h2
   |brk=>exact q2
   |ret d=>exact q2
def uD{t:T3}{body:S3}{m:Nat}(P:St->Hh->Nat->Prop)(hs:∀σ G m,P σ G m->run (t σ) G (fun c G1=>if c=true then run (body σ) G1 (fun p G2=>match p.1 with
 | .next=>∃m',m' < m/\P p.2 G2 m'
 | .cont=>∃m',m' < m/\P p.2 G2 m'
 | .brk=>QS (.next,p.2) G2
 | .ret d=>QS (.ret d,p.2) G2) E else QS (.next,σ) G1) E) (hm:m < 1000000000) (h:P σ G m):run (r6 t body σ) G QS E:=rT P hs s8 σ G m hm h
end
end KH
namespace KS
open PySem M3 KC KH
abbrev Pr:=(Int×Int)×Int
def pD(p:Pr):D:= .tup [.tup [.int p.1.1,.int p.1.2],.int p.2]
def opD:Option Pr->D
 |none=>.non
 |some p=>pD p
def oD:Option Int->D
 |none=>.non
 |some i=>.int i
def oP(o:Option Pr):decide (opD o= .non)=o.isNone:=by cases o <;> rfl
def Aw(o:Option Int):decide (oD o= .non)=o.isNone:=by cases o <;> rfl
structure Lt where
 hand:Nat
 kpr:Nat
 num:Int
 pair:Option Pr
def ltD(l:Lt):D:= .tup [.int (l.hand:Int),.int (l.kpr:Int),.int l.num,opD l.pair]
def enD(e:Bool×Lt):D:= .tup [.bl e.1,ltD e.2]
def gtS(a b:Int×Int):Bool:=eO [b.1,b.2] [a.1,a.2]
def better(b p:Pr):Pr:=if gtS p.1 b.1 then p else b
def start:Pr:=((0,0),0)
def xS(ps:List Pr):Pr:=ps.foldl better start
def turns(ps:List Pr):List Int:=ps.map fun p=>p.1.1
def zZ(ps:List Pr)(own:Int):Int:=match turns ps++[own]with
 |m :: r=>mK m r
 | []=>0
structure Kr where
 pair:Pr
 up:Bool
def krF(k:Kr):List (Nat×D):=[(4,pD k.pair),(8,.bl k.up)]
structure Hd where
 num:Nat
 cnt:Nat
 atw:Bool
 val:Option Int
 pair:Option Pr
 rnd:Int
 ar:List (Nat×Option Pr)
 own:Int
def hdF(h:Hd)(d:Nat):List (Nat×D):=[(0,.int (h.num:Int)),(1,.int (h.cnt:Int)),(2,.bl h.atw),(3,oD h.val),(4,opD h.pair),(5,.int h.rnd),(6,.ref d),(7,.int h.own)]
def df(l:List (Nat×Option Pr)):List (Key×D):=l.map fun e=>(.inl (e.1:Int),opD e.2)
def gx(G:Hh)(a:Nat)(k:Kr):Prop:=G[a]? =some (.ins 1 (krF k))
def fI(G:Hh)(a d:Nat)(h:Hd):Prop:=G[a]? =some (.ins 0 (hdF h d))/\G[d]? =some (.dK (df h.ar))
section
variable{G:Hh}{Q:D->Hh->Prop}{E:Nat->Hh->Prop}
def yr{c m:Int}(h:Q (.bl (decide (c < m*2))) G):run (kP [.int c,.int m]) G Q E:=by
 walk_at "f"
 unfold nE
 lia
 exact h
def Au{l:Nat}{ps:List Pr}(hl:G[l]? =some (.lst (ps.map pD)))(h:Q (pD (xS ps)) G):run (mx [.ref l]) G Q E:=by
 walk_at "f"
 unfold qd
 lia
 refine fF hl ?_
 refine lW (fun i σ G'=>G'=G/\∃x,σ=[some (.ref l),some (pD ((ps.take i).foldl better start)),x]) ?_ ?_ ?_ ⟨rfl,none,rfl⟩
 · rintro i σ G' ⟨rfl,_⟩
   exact qZ_ hl
 · rintro i p σ G' hp ⟨rfl,y,rfl⟩
   unfold pD
   lia
   have key:(ps.take (i+1)).foldl better start=better ((ps.take i).foldl better start) p:=by rw[take_succ hp,List.foldl_append];rfl
   refine w_ite (fun c=>?_) fun c=>?_
   · lia
     refine⟨rfl,some (pD p),?_⟩
     have:(ps.take (i+1)).foldl better start=p:=by rw[key,better,if_pos (show gtS p.1 _=true from c)]
     rw[this];rfl
   · lia
     refine⟨rfl,some (pD p),?_⟩
     have:(ps.take (i+1)).foldl better start=(ps.take i).foldl better start:=by rw[key,better,if_neg (by rw[show gtS p.1 _=false from c];exact qC_)]
     rw[this];rfl
 · rintro σ G' ⟨rfl,y,rfl⟩
   lia
   rw[List.take_length]
   exact h
def qK{l:Nat}{ps:List Pr}{own hand:Int}(hl:G[l]? =some (.lst (ps.map pD)))(hz:ps.length<=1000)(h:∀G',Ext G G'->Q (.tup [.int (zZ ps own+1),.int hand]) G'):run (fM [.ref l,.int own,.int hand]) G Q E:=by
 walk_at "f"
 unfold g9
 lia
 refine fF hl ?_
 refine kU (p:=fun _=>true) (g:=fun p:Pr=>D.int p.1.1) (qZ_ hl) (by omega) (fun x _=>fZ ⟨rfl,rfl⟩) (fun x _ _=>?_) ?_
 · unfold pD
   lia
   exact⟨rfl,rfl⟩
 have e1:(ps.filter fun _=>true).map (fun p:Pr=>D.int p.1.1)=(turns ps).map D.int:=by
  rw[List.filter_eq_self.mpr (fun _ _=>rfl)]
  unfold turns
  rw[qb_]
  rfl
 rw[e1]
 lia
 have tl:(turns ps).length=ps.length:=by unfold turns;rw[qM_]
 refine Ag ((Ext.add _ _).get (aV G _)) (aV _ _) (by rw[qM_,tl];simp [aC];omega) ?_
 lia
 have e2:intsOf ((turns ps).map D.int++[.int own])=some (turns ps++[own]):=by
  induction turns ps with
  |nil=>rfl
  |cons a r ih=>show Option.map _ (intsOf (r.map D.int++[.int own]))=_;rw[ih];rfl
 cases q:turns ps++[own]with
 |nil=>simp at q
 |cons m r=>
  rw[q]at e2
  refine FE (aV _ _) e2 ?_
  lia
  have e3:zZ ps own=mK m r:=by unfold zZ;rw[q]
  rw[<-e3]
  exact h _ (((Ext.add _ _).trans (Ext.add _ _)).trans (Ext.add _ _))
variable{a d:Nat}{k:Kr}{h:Hd}
def E6{Q:D->Hh->Prop}(hk:gx G a k)(hq:∀G',Chg [a] G G'->gx G' a {k with up:=false}->Q (.bl k.up) G'):run (fL [.ref a]) G Q E:=by
 unfold gx krF at hk
 walk_at "f"
 unfold ij
 lia
 refine aM hk ⟨by decide,qP_ rfl⟩ fun G' hc hl hn=>?_
 lia
 exact hq G' hc hn
def ET{Q:D->Hh->Prop}(hk:gx G a k)(hq:∀G',Chg [a] G G'->gx G' a {k with up:=true}->Q (.bl (!k.up)) G'):run (fN [.ref a]) G Q E:=by
 unfold gx krF at hk
 walk_at "f"
 unfold hV
 lia
 refine aM hk ⟨by decide,qP_ rfl⟩ fun G' hc hl hn=>?_
 lia
 exact hq G' hc hn
def vn(k:Kr)(p:Pr):Kr:=if gtS p.1 k.pair.1 then {k with pair:=p} else k
def GL{Q:D->Hh->Prop}{p:Pr}(hk:gx G a k)(hq:∀G',Chg [a] G G'->gx G' a (vn k p)->Q .non G'):run (fP [.ref a,pD p]) G Q E:=by
 unfold gx krF at hk
 walk_at "f"
 unfold hG pD
 lia
 unfold vn at hq
 refine w_ite (fun c=>?_) fun c=>?_
 · rw[if_pos (show gtS p.1 k.pair.1=true from c)]at hq
   lia
   refine aM hk ⟨by decide,qP_ rfl⟩ fun G' hc hl hn=>?_
   lia
   exact hq G' hc hn
 · rw[if_neg (by rw[show gtS p.1 k.pair.1=false from c];exact qC_)]at hq
   lia
   exact hq G (Chg.refl _ _) hk
def bJ(k:Kr)(l:Lt):Kr×Option Lt:=
 if k.up then (match l.pair with
  |none=>(k,some {l with pair:=some k.pair})
  |some p=>(vn k p,some {l with pair:=none}))else (k,none)
def Jq:Option Lt->D
 |none=>.non
 |some l=>ltD l
def uG{Q:D->Hh->Prop}{l:Lt}(hk:gx G a k)(hq:∀G',Chg [a] G G'->gx G' a (bJ k l).1->Q (Jq (bJ k l).2) G'):run (cK [.ref a,ltD l]) G Q E:=by
 have hk0:=hk
 unfold gx krF at hk
 walk_at "f"
 unfold dX ltD
 unfold bJ at hq
 lia
 cases up:k.up with
 |false=>
  rw[up]at hq
  lia
  exact hq G (Chg.refl _ _) hk0
 |true=>
  rw[up]at hq
  lia
  rw[oP]
  cases lp:l.pair with
  |none=>
   rw[lp]at hq
   refine lP ?_
   lia
   refine aG (a:=D.tup [.int (l.hand:Int),.int (l.kpr:Int),.int l.num]) (G':=G) rfl ?_
   lia
   refine aG (a:=D.tup [.int (l.hand:Int),.int (l.kpr:Int),.int l.num,pD k.pair]) (G':=G) rfl ?_
   lia
   exact hq G (Chg.refl _ _) hk0
  |some p=>
   rw[lp]at hq
   refine nC ?_
   lia
   refine GL hk0 fun G' hc hn=>?_
   lia
   refine aG (a:=D.tup [.int (l.hand:Int),.int (l.kpr:Int),.int l.num]) (G':=G') rfl ?_
   lia
   refine aG (a:=D.tup [.int (l.hand:Int),.int (l.kpr:Int),.int l.num,.non]) (G':=G') rfl ?_
   lia
   exact hq G' hc hn
end
section
variable{G:Hh}{Q:D->Hh->Prop}{E:Nat->Hh->Prop}{a d:Nat}{h:Hd}
def kA(i c:Nat):Hd:=⟨i,c,false,none,none,0,[],0⟩
def uE{i c:Nat}(ha:G[a]? =some (.ins 0 []))(hq:∀G' d,Chg [a] G G'->G.length<=d->fI G' a d (kA i c)->Q .non G'):run (gT [.ref a,.int (i:Int),.int (c:Int)]) G Q E:=by
 walk_at "f"
 unfold ku
 lia
 refine aM ha ⟨by decide,qP_ rfl⟩ fun G1 c1 l1 h1=>?_
 lia
 refine aM h1 ⟨by decide,qP_ rfl⟩ fun G2 c2 l2 h2=>?_
 lia
 refine aM h2 ⟨by decide,qP_ rfl⟩ fun G3 c3 l3 h3=>?_
 lia
 refine aM h3 ⟨by decide,qP_ rfl⟩ fun G4 c4 l4 h4=>?_
 lia
 refine aM h4 ⟨by decide,qP_ rfl⟩ fun G5 c5 l5 h5=>?_
 lia
 refine aM h5 ⟨by decide,qP_ rfl⟩ fun G6 c6 l6 h6=>?_
 refine w_next ?_
 refine aA (fG (pT fun G7 c7 l7 h7=>w_var rfl ?_))
 have h6':=c7.get h6 (by simp)
 refine aM h6' ⟨by decide,qP_ rfl⟩ fun G8 c8 l8 h8=>?_
 have hd8:=c8.get h7 (by have:=ax h6;simp;omega)
 lia
 refine aM h8 ⟨by decide,qP_ rfl⟩ fun G9 c9 l9 h9=>?_
 lia
 have hd9:=c9.get hd8 (by have:=ax h6;simp;omega)
 have cc:Chg [a] G G9:=(((((c1.trans c2).trans c3).trans c4).trans c5).trans c6).trans (((c7.mono (by simp)).trans c8).trans c9)
 exact hq G9 G6.length cc (by omega) ⟨h9,hd9⟩
def mJ(h:Hd):List Nat:=(List.range h.cnt).filter fun k=>!decide (k∈h.ar.map (·.1))
def bc(h:Hd):List Lt:=(mJ h).map fun k=>⟨h.num,k,h.rnd,h.pair⟩
def wu(l:List (Nat×Option Pr))(k:Nat):((look (df l) (.inl (k:Int))).isSome)=decide (k∈l.map (·.1)):=by
 rw[vk]
 refine decide_eq_decide.mpr ⟨fun z=>?_,fun z=>?_⟩
 · unfold df at z
   rw[qb_]at z
   obtain⟨e,he,ee⟩:=qH_.mp z
   have:(e.1:Int)=(k:Int):=Sum.inl.inj ee
   exact qH_.mpr ⟨e,he,by omega⟩
 · unfold df
   rw[qb_]
   obtain⟨e,he,ee⟩:=qH_.mp z
   exact qH_.mpr ⟨e,he,by show Sum.inl (e.1:Int)=Sum.inl (k:Int);rw[ee]⟩
def Jg(n:Nat):rng 0 n=(List.range n).map fun(k:Nat)=>D.int (k:Int):=by
 unfold rng
 congr 1
 funext k
 rw[Int.zero_add]
def kI(h:Hd):(mJ h).length<=h.cnt:=by
 unfold mJ
 have:=List.length_filter_le (fun k=>!decide (k∈h.ar.map (·.1))) (List.range h.cnt)
 rw[List.length_range]at this
 exact this
def rz(ha:fI G a d h)(hz:h.cnt<=1000)(hq:∀l G',Ext G G'->G.length<=l->G'[l]? =some (.lst ((bc h).map ltD))->Q (.ref l) G'):run (cC [.ref a]) G Q E:=by
 obtain⟨ha,hd⟩:=ha
 unfold hdF at ha
 walk_at "f"
 unfold gy
 lia
 with_reducible refine M3.gB (by omega) ?_
 rw[Jg]
 refine kU (p:=fun k:Nat=>!decide (k∈h.ar.map (·.1))) (g:=fun k:Nat=>D.int (k:Int)) rfl (by simp;omega) (fun x _=>?_) (fun x _ _=>w_var rfl ⟨rfl,rfl⟩) ?_
 · refine ib (aP (w_var rfl (w_fld (w_var rfl (aZ ha (by decide) rfl ?_)))))
   refine xM (b:=decide (x∈h.ar.map (·.1))) ?_ ?_
   · unfold inG
     dsimp only
     rw[hd]
     show some (look (df h.ar) (.inl (x:Int))).isSome=_
     rw[wu]
   exact⟨rfl,rfl⟩
 have e0:((List.range h.cnt).filter fun k:Nat=>!decide (k∈h.ar.map (·.1)))=mJ h:=rfl
 rw[e0]
 refine w_next ?_
 walk_at "s"
 have ha1:=(Ext.add G (.lst ((mJ h).map fun k:Nat=>D.int (k:Int)))).get ha
 refine bA (s9 (nP (w_var rfl (fF (aV _ _) ?_))))
 have hw:=kI h
 refine kU (p:=fun _:Nat=>true) (g:=fun k:Nat=>ltD ⟨h.num,k,h.rnd,h.pair⟩) (qZ_ (aV _ _)) (by omega) (fun x _=>fZ ⟨rfl,rfl⟩) (fun x _ _=>?_) ?_
 · lia
   exact⟨rfl,rfl⟩
 rw[List.filter_eq_self.mpr (fun _ _=>rfl)]
 lia
 refine hq _ _ ((Ext.add _ _).trans (Ext.add _ _)) (by simp) ?_
 rw[aV]
 unfold bc
 rw[qb_]
 rfl
def roundF(h:Hd)(p:Option Pr):Hd:={h with rnd:=h.rnd+1,pair:=p,ar:=[]}
def lD{p:Option Pr}(ha:fI G a d h)(hz:h.cnt<=1000)(hq:∀l d' G',Chg [a] G G'->G.length<=d'->G.length<=l->fI G' a d' (roundF h p)->G'[l]? =some (.lst ((bc (roundF h p)).map ltD))->Q (.ref l) G'):run (bK [.ref a,opD p]) G Q E:=by
 obtain⟨ha,hd⟩:=ha
 unfold hdF at ha
 walk_at "f"
 unfold eG
 lia
 refine aM ha ⟨by decide,qP_ rfl⟩ fun G1 c1 l1 h1=>?_
 lia
 refine aM h1 ⟨by decide,qP_ rfl⟩ fun G2 c2 l2 h2=>?_
 refine w_next ?_
 refine aA (fG (pT fun G3 c3 l3 h3=>w_var rfl ?_))
 have h2':=c3.get h2 (by simp)
 refine aM h2' ⟨by decide,qP_ rfl⟩ fun G4 c4 l4 h4=>?_
 have hd4:=c4.get h3 (by have:=ax h2;simp;omega)
 refine w_next ?_
 refine bA (bq (w_var rfl (bX h4 (ay ?_))))
 refine rz (h:=roundF h p) (d:=G2.length) ⟨h4,hd4⟩ hz fun l G5 x5 l5 h5=>?_
 lia
 have cc:Chg [a] G G4:=(c1.trans c2).trans ((c3.mono (by simp)).trans c4)
 exact hq l G2.length G5 (cc.trans x5.chg) (by omega) (by omega) ⟨x5.get h4,x5.get hd4⟩ h5
def bM(h:Hd)(v:Option Int):Hd:=roundF {h with atw:=true,val:=v} none
def xO{v:Option Int}(ha:fI G a d h)(hz:h.cnt<=1000)(hb:h.atw=true->E 1004 G)(hq:h.atw=false->∀l d' G',Chg [a] G G'->G.length<=d'->G.length<=l->fI G' a d' (bM h v)->G'[l]? =some (.lst ((bc (bM h v)).map ltD))->Q (.ref l) G'):run (dI [.ref a,oD v]) G Q E:=by
 have ha0:=ha
 obtain⟨ha,hd⟩:=ha
 unfold hdF at ha
 walk_at "f"
 unfold jt
 lia
 cases q:h.atw with
 |true=>
  lia
  exact hb q
 |false=>
  lia
  rw[q]at ha
  refine aM ha ⟨by decide,qP_ rfl⟩ fun G1 c1 l1 h1=>?_
  lia
  refine aM h1 ⟨by decide,qP_ rfl⟩ fun G2 c2 l2 h2=>?_
  refine w_next ?_
  refine bA (bq (w_var rfl (bX h2 (ah (w_c (ay ?_))))))
  have hne:d≠a:=by rintro rfl;rw[ha]at hd;cases hd
  refine lD (p:=none) (h:={h with atw:=true,val:=v}) (d:=d) ⟨h2,c2.get (c1.get hd (by simpa using hne)) (by simpa using hne)⟩ hz fun l d' G3 c3 l3 l4 h3 h4=>?_
  lia
  exact hq q l d' G3 ((c1.trans c2).trans c3) (by omega) (by omega) h3 h4
def qP{v:Int}(ha:fI G a d h)(hz:h.cnt<=1000)(hb:h.atw=true->E 1004 G)(hq:h.atw=false->∀l d' G',Chg [a] G G'->G.length<=d'->G.length<=l->fI G' a d' (bM h (some v))->G'[l]? =some (.lst ((bc (bM h (some v))).map ltD))->Q (.ref l) G'):run (cM [.ref a,.int v]) G Q E:=by
 have ha0:=ha.1
 unfold hdF at ha0
 walk_at "f"
 unfold eB
 lia
 refine xO (v:=some v) ha hz hb fun q l d' G' c l1 l2 h1 h2=>?_
 lia
 exact hq q l d' G' c l1 l2 h1 h2
def t6(ha:fI G a d h)(hz:h.cnt<=1000)(hb:h.atw=true->E 1004 G)(hq:h.atw=false->∀l d' G',Chg [a] G G'->G.length<=d'->G.length<=l->fI G' a d' (bM h none)->G'[l]? =some (.lst ((bc (bM h none)).map ltD))->Q (.ref l) G'):run (cY [.ref a]) G Q E:=by
 have ha0:=ha.1
 unfold hdF at ha0
 walk_at "f"
 unfold ff
 lia
 refine xO (v:=none) ha hz hb fun q l d' G' c l1 l2 h1 h2=>?_
 lia
 exact hq q l d' G' c l1 l2 h1 h2
def lE(ha:fI G a d h)(hb:h.atw=false->E 1005 G)(hq:h.atw=true->Q .non G):run (bL [.ref a]) G Q E:=by
 obtain⟨ha,hd⟩:=ha
 unfold hdF at ha
 walk_at "f"
 unfold dZ
 lia
 cases q:h.atw with
 |true=>lia
        exact hq q
 |false=>lia
         exact hb q
def tU(ha:fI G a d h)(hz:h.cnt<=1000)(hb:h.atw=false->E 1005 G)(hq:h.atw=true->∀l G',Ext G G'->G.length<=l->G'[l]? =some (.lst ((bc h).map ltD))->Q (.ref l) G'):run (c0 [.ref a]) G Q E:=by
 have ha0:=ha.1
 unfold hdF at ha0
 walk_at "f"
 unfold fj
 lia
 refine lE ha hb fun q=>?_
 lia
 refine rz ha hz fun l G' x l1 h1=>?_
 lia
 exact hq q l G' x l1 h1
def yG(ha:fI G a d h)(hb:h.atw=false->E 1005 G)(hq:h.atw=true->∀G',Chg [a] G G'->fI G' a d {h with atw:=false}->Q .non G'):run (eX [.ref a]) G Q E:=by
 have ha0:=ha.1
 unfold hdF at ha0
 have hne:d≠a:=by rintro rfl;have:=ha.2;rw[ha0]at this;cases this
 walk_at "f"
 unfold gE
 lia
 refine lE ha hb fun q=>?_
 lia
 refine aM ha0 ⟨by decide,qP_ rfl⟩ fun G1 c1 l1 h1=>?_
 lia
 exact hq q G1 c1 ⟨h1,c1.get ha.2 (by simpa using hne)⟩
def bC(h:Hd)(ps:List Pr):Hd×Pr:=match h.val with
 |none=>(h,xS ps)
 |some v=>({h with own:=zZ ps h.own+1},((zZ ps h.own+1,(h.num:Int)),v))
def As{ps:List Pr}(ha:fI G a d h)(hp:h.ar.map (·.2)=ps.map some)(hz:ps.length<=1000)(hq:∀G',Chg [a] G G'->fI G' a d (bC h ps).1->Q (pD (bC h ps).2) G'):run (fO [.ref a]) G Q E:=by
 obtain⟨ha,hd⟩:=ha
 unfold hdF at ha
 have hne:d≠a:=by rintro rfl;rw[ha]at hd;cases hd
 unfold bC at hq
 walk_at "f"
 unfold ie
 lia
 refine CT hd ?_
 have e1:(df h.ar).map (·.2)=ps.map pD:=by
  have:(h.ar.map (·.2)).map opD=(ps.map some).map opD:=by rw[hp]
  rw[qb_,qb_]at this
  unfold df
  rw[qb_]
  exact this
 rw[e1]
 have x1:Ext G (G++[O.lst (ps.map pD)]):=Ext.add _ _
 have ha1:=x1.get ha
 have hd1:=x1.get hd
 have hl1:(G++[O.lst (ps.map pD)])[G.length]? =some (.lst (ps.map pD)):=aV _ _
 generalize G++[O.lst (ps.map pD)]=G1 at x1 ha1 hd1 hl1
 generalize G.length=ll at hl1
 lia
 rw[Aw]
 cases hv:h.val with
 |none=>
  rw[hv]at hq
  refine lP ?_
  lia
  refine Au hl1 ?_
  lia
  exact hq G1 x1.chg ⟨ha1,hd1⟩
 |some v=>
  rw[hv]at hq
  refine nC ?_
  lia
  refine qK hl1 hz fun G2 x2=>?_
  have ha2:=x2.get ha1
  lia
  refine aM ha2 ⟨by decide,qP_ rfl⟩ fun G3 c3 l3 h3=>?_
  have hd3:=c3.get (x2.get hd1) (by simpa using hne)
  rw[hv]at h3
  lia
  exact hq G3 ((x1.trans x2).chg.trans c3) ⟨h3,hd3⟩
def bf(l:List (Nat×Option Pr))(k:Nat)(p:Option Pr):List (Nat×Option Pr):=
 if (l.any fun e=>decide (e.1=k))then l.map fun e=>if e.1=k then (e.1,p)else e else l++[(k,p)]
def GF(l:List (Nat×Option Pr))(k:Nat)(p:Option Pr):put (df l) (.inl (k:Int)) (opD p)=df (bf l k p):=by
 have key:∀e:Nat×Option Pr,decide ((Sum.inl (e.1:Int):Key)= .inl (k:Int))=decide (e.1=k):=fun e=>decide_eq_decide.mpr ⟨fun z=>by have:=Sum.inl.inj z;omega,fun z=>by rw[z]⟩
 unfold put bf
 have e1:((df l).any fun kv=>decide (kv.1=(.inl (k:Int):Key)))=l.any fun e=>decide (e.1=k):=by
  unfold df
  rw[List.any_map]
  congr 1
  funext e
  exact key e
 rw[e1]
 by_cases c:(l.any fun e=>decide (e.1=k))=true
 · rw[if_pos c,if_pos c]
   unfold df
   rw[qb_,qb_]
   apply List.map_congr_left
   intro e _
   by_cases z:e.1=k
   · have z':(Sum.inl (e.1:Int):Key)= .inl (k:Int):=by rw[z]
     show (if (Sum.inl (e.1:Int):Key)= .inl (k:Int)then ((Sum.inl (e.1:Int):Key),opD p)else (Sum.inl (e.1:Int),opD e.2))=(Sum.inl ((if e.1=k then (e.1,p)else e).1:Int),opD (if e.1=k then (e.1,p)else e).2)
     rw[if_pos z',if_pos z]
   · have z':¬(Sum.inl (e.1:Int):Key)= .inl (k:Int):=fun w=>z (by have:=Sum.inl.inj w;omega)
     show (if (Sum.inl (e.1:Int):Key)= .inl (k:Int)then ((Sum.inl (e.1:Int):Key),opD p)else (Sum.inl (e.1:Int),opD e.2))=(Sum.inl ((if e.1=k then (e.1,p)else e).1:Int),opD (if e.1=k then (e.1,p)else e).2)
     rw[if_neg z',if_neg z]
 · rw[if_neg c,if_neg c]
   unfold df
   rw[qT_]
   rfl
def vals(l:List (Nat×Option Pr)):List Pr:=l.filterMap (·.2)
def DB{l:List (Nat×Option Pr)}(hl:∀e∈l,e.2.isSome=true):l.map (·.2)=(vals l).map some:=by
 induction l with
 |nil=>rfl
 |cons e r ih=>
  have h1:=hl e qI_
  obtain⟨p,hp⟩:=Option.isSome_iff_exists.mp h1
  unfold vals at*
  rw[List.filterMap_cons,hp]
  simp only[List.map_cons,hp]
  rw[ih fun x hx=>hl x (qR_ _ hx)]
def BJ(l:List (Nat×Option Pr)):(vals l).length<=l.length:=List.length_filterMap_le _ _
def aR(h:Hd)(l:Lt):Hd×List Lt×Option Pr:=
 if (!h.atw||!decide (l.num=h.rnd))=true then (h,[],none)
 else
  let h1:Hd:={h with ar:=bf h.ar l.kpr l.pair}
  if (!decide (h.cnt < h1.ar.length*2))=true then (h1,[],none)
  else match h.pair with
   |none=>let c:=bC h1 (vals h1.ar);(roundF c.1 (some c.2),bc (roundF c.1 (some c.2)),none)
   |some p=>({h1 with atw:=false},[],some p)
def gL(h:Hd)(ps:List Pr):(bC h ps).1.cnt=h.cnt:=by unfold bC;cases h.val <;> rfl
def FW{l:Lt}(ha:fI G a d h)(hz:h.cnt<=1000)(hz2:(bf h.ar l.kpr l.pair).length<=1000)(hok:h.atw=true->l.num=h.rnd->h.pair=none->∀e∈bf h.ar l.kpr l.pair,e.2.isSome=true)
 (hq:∀ll d' G',Chg [a,d] G G'->(d'=d\/G.length<=d')->G.length<=ll->fI G' a d' (aR h l).1->G'[ll]? =some (.lst ((aR h l).2.1.map ltD))->Q (.tup [.ref ll,opD (aR h l).2.2]) G'):run (gQ [.ref a,ltD l]) G Q E:=by
 have ha0:=ha
 obtain⟨ha,hd⟩:=ha
 unfold hdF at ha
 have hne:d≠a:=by rintro rfl;rw[ha]at hd;cases hd
 have nothing:run (aH (bU (aa (cS ai) (aa (eC .non) ai))) [some (.ref a),some (ltD l)]) G (fun p G1=>p.1= .ret (.tup [.ref G.length,.non])/\Chg [] G G1/\G1[G.length]? =some (.lst [])) E:=by
  refine bA (va (ah (dM fun G1 c1 l1 h1=>ah (w_c (ay ⟨qP_ (by with_unfolding_all rfl),rfl,c1,h1⟩)))))
 unfold aR at hq
 walk_at "f"
 unfold jU
 refine aA (cX (uy (hJ (iu (w_fld (w_var rfl (aZ ha (by decide) rfl (jK ?_))))))))
 have stop:(!h.atw||!decide (l.num=h.rnd))=true->∀p G1,(p:Fl×St).1= .ret (.tup [.ref G.length,.non])/\Chg [] G G1/\G1[G.length]? =some (.lst [])->Q (.tup [.ref G.length,.non]) G1:=fun c p G1 ⟨_,c1,h1⟩=>by
  rw[if_pos c]at hq
  exact hq G.length d G1 (c1.mono (by simp)) (.inl rfl) (qO_ _) ⟨c1.get ha (by simp),c1.get hd (by simp)⟩ h1
 cases qa:h.atw with
 |false=>
  refine oQ ?_
  refine fZ ?_
  refine lP ?_
  refine au nothing (fun p G1 q=>?_) fun _ _ z=>z
  have qq:=stop (by rw[qa];rfl) p G1 q
  obtain⟨f,σ⟩:=p
  cases (show f= .ret (.tup [.ref G.length,.non])from q.1)
  lia
  exact qq
 |true=>
  refine oC ?_
  unfold ltD
  lia
  refine m3 eq_int ?_
  lia
  refine w_ite (fun c=>?_) fun c=>?_
  · refine au nothing (fun p G1 q=>?_) fun _ _ z=>z
    have qq:=stop (by rw[qa];simpa using c) p G1 q
    obtain⟨f,σ⟩:=p
    cases (show f= .ret (.tup [.ref G.length,.non])from q.1)
    lia
    exact qq
  have hnum:l.num=h.rnd:=by simpa using c
  have hc0:¬(!h.atw||!decide (l.num=h.rnd))=true:=by rw[qa,hnum];simp
  rw[if_neg hc0]at hq
  lia
  have hzl:(df h.ar).length < aC:=by
   have:h.ar.length<=(bf h.ar l.kpr l.pair).length:=by
    unfold bf
    split <;> simp
   unfold df
   rw[qM_]
   unfold aC
   omega
  refine xl hd rfl hzl fun G1 c1 l1 h1=>?_
  rw[GF]at h1
  have ha1:=c1.get ha (by simpa using Ne.symm hne)
  have c1':Chg [a,d] G G1:=c1.mono (by simp)
  lia
  refine Fg h1 ?_
  have e2:(df (bf h.ar l.kpr l.pair)).length=(bf h.ar l.kpr l.pair).length:=by unfold df;rw[qM_]
  rw[e2]
  lia
  with_reducible refine yr ?_
  have e3:decide ((h.cnt:Int) < ((bf h.ar l.kpr l.pair).length:Int)*2)=decide (h.cnt < (bf h.ar l.kpr l.pair).length*2):=decide_eq_decide.mpr (by omega)
  rw[e3]
  lia
  dsimp only at hq
  cases qm:decide (h.cnt < (bf h.ar l.kpr l.pair).length*2)with
  |false=>
   rw[qm]at hq
   rw[if_pos (show (!false)=true from rfl)]at hq
   lia
   have c2:Chg [] G1 (G1++[O.lst []]):=Chg.add _ _
   exact hq G1.length d (G1++[O.lst []]) (c1'.trans (c2.mono (by simp))) (.inl rfl) (Nat.le_of_eq l1.symm) ⟨c2.get ha1 (by simp),c2.get h1 (by simp)⟩ (aV _ _)
  |true=>
   rw[qm]at hq
   rw[if_neg (show ¬(!true)=true from qC_)]at hq
   lia
   rw[oP]
   cases qp:h.pair with
   |none=>
    rw[qp]at hq
    refine lP ?_
    dsimp only at hq
    have hv:=DB (hok qa hnum qp)
    have hvl:=BJ (bf h.ar l.kpr l.pair)
    lia
    have hat1:fI G1 a d {h with ar:=bf h.ar l.kpr l.pair,pair:=none}:=⟨by rw[qp]at ha1;exact ha1,h1⟩
    refine As hat1 hv (by omega) fun G2 c2 h2=>?_
    have hcn:=gL {h with ar:=bf h.ar l.kpr l.pair,pair:=none} (vals (bf h.ar l.kpr l.pair))
    generalize bC {h with ar:=bf h.ar l.kpr l.pair,pair:=none} (vals (bf h.ar l.kpr l.pair))=ch at hq h2 hcn
    lia
    refine lD (p:=some ch.2) h2 (by rw[hcn];exact hz) fun ll d' G3 c3 l3 l4 h3 h4=>?_
    lia
    have g2:=c2.1
    exact hq ll d' G3 ((c1'.trans (c2.mono (by simp))).trans (c3.mono (by simp))) (.inr (by omega)) (by omega) h3 h4
   |some p=>
    rw[qp]at hq
    refine nC ?_
    lia
    refine aM ha1 ⟨by decide,qP_ rfl⟩ fun G2 c2 l2 h2=>?_
    have hd2:=c2.get h1 (by simpa using hne)
    refine w_next ?_
    refine bA (va (ah (dM fun G3 c3 l3 h3=>?_)))
    have h23:=c3.get h2 (by simp)
    have hd3:=c3.get hd2 (by simp)
    refine ah (w_fld (w_var rfl (aZ h23 (by decide) rfl (ay ⟨qP_ (by with_unfolding_all rfl),?_⟩))))
    lia
    rw[qp]
    refine hq G2.length d G3 ((c1'.trans (c2.mono (by simp))).trans (c3.mono (by simp))) (.inl rfl) (by omega) ⟨?_,hd3⟩ h3
    rw[qp]at h23
    exact h23
end
structure Hl where
 ks:List Kr
 hs:List Hd
 row:List (Bool×Lt)
structure Ad where
 a:Nat
 lk:Nat
 lh:Nat
 lr:Nat
 ka:List Nat
 ha:List Nat
 da:List Nat
def Ad.foot(A:Ad):List Nat:=[A.a,A.lk,A.lh,A.lr]++(A.ka++(A.ha++A.da))
def refs(xs:List Nat):List D:=xs.map D.ref
structure bw (G:Hh) (A:Ad) (st:Hl):Prop where
 o:G[A.a]? =some (.ins 2 [(9,.ref A.lk),(10,.ref A.lh),(11,.ref A.lr)])
 k:G[A.lk]? =some (.lst (refs A.ka))
 h:G[A.lh]? =some (.lst (refs A.ha))
 r:G[A.lr]? =some (.lst (st.row.map enD))
 kl:A.ka.length=st.ks.length
 hl:A.ha.length=st.hs.length
 dl:A.da.length=st.hs.length
 kr:∀(i:Nat) a k,A.ka[i]? =some a->st.ks[i]? =some k->gx G a k
 hd:∀(i:Nat) a d h,A.ha[i]? =some a->A.da[i]? =some d->st.hs[i]? =some h->fI G a d h
 nd:A.foot.Nodup
section
variable{G G':Hh}{Q:D->Hh->Prop}{E:Nat->Hh->Prop}{A:Ad}{st:Hl}
def bw.lt(H:bw G A st):∀n∈A.foot,n < G.length:=by
 intro n hn
 unfold Ad.foot at hn
 rcases qG_.mp hn with z |z
 · simp only[qS_,List.not_mem_nil,or_false]at z
   rcases z with rfl |rfl |rfl |rfl
   · exact ax H.o
   · exact ax H.k
   · exact ax H.h
   · exact ax H.r
 · rcases qG_.mp z with z |z
   · obtain⟨i,hi,e⟩:=List.getElem_of_mem z
     have h1:A.ka[i]? =some n:=by rw[qA_ hi,e]
     have h2:i < st.ks.length:=by rw[<-H.kl];exact hi
     exact ax (H.kr i n _ h1 (qA_ h2))
   · have lens:=H.dl.trans H.hl.symm
     rcases qG_.mp z with z |z
     · obtain⟨i,hi,e⟩:=List.getElem_of_mem z
       have h1:A.ha[i]? =some n:=by rw[qA_ hi,e]
       have h2:i < st.hs.length:=by rw[<-H.hl];exact hi
       have h3:i < A.da.length:=by rw[H.dl];exact h2
       exact ax (H.hd i n _ _ h1 (qA_ h3) (qA_ h2)).1
     · obtain⟨i,hi,e⟩:=List.getElem_of_mem z
       have h1:A.da[i]? =some n:=by rw[qA_ hi,e]
       have h2:i < st.hs.length:=by rw[<-H.dl];exact hi
       have h3:i < A.ha.length:=by rw[H.hl];exact h2
       exact ax (H.hd i _ n _ (qA_ h3) h1 (qA_ h2)).2
def fI.chg{S:List Nat}{a d:Nat}{h:Hd}(x:fI G a d h)(c:Chg S G G')(h1:a∉S)(h2:d∉S):fI G' a d h:=⟨c.get x.1 h1,c.get x.2 h2⟩
def xu{i a:Nat}(h:A.ka[i]? =some a):a∈A.foot:=by unfold Ad.foot;simp [qD_ h]
def vb{i a:Nat}(h:A.ha[i]? =some a):a∈A.foot:=by unfold Ad.foot;simp [qD_ h]
def xn{i a:Nat}(h:A.da[i]? =some a):a∈A.foot:=by unfold Ad.foot;simp [qD_ h]
def bw.frame{S:List Nat}(H:bw G A st)(c:Chg S G G')(hs:∀n∈S,n∉A.foot):bw G' A st:=by
 have ns:∀n∈A.foot,n∉S:=fun n h z=>hs n z h
 exact⟨c.get H.o (ns _ (by simp [Ad.foot])),c.get H.k (ns _ (by simp [Ad.foot])),c.get H.h (ns _ (by simp [Ad.foot])),c.get H.r (ns _ (by simp [Ad.foot])),H.kl,H.hl,H.dl,
  fun i a k h1 h2=>c.get (H.kr i a k h1 h2) (ns _ (xu h1)),fun i a d h h1 h2 h3=>(H.hd i a d h h1 h2 h3).chg c (ns _ (vb h1)) (ns _ (xn h2)),H.nd⟩
def pS(nd:A.foot.Nodup):(A.a≠A.lk/\A.a≠A.lh/\A.a≠A.lr/\A.lk≠A.lh/\A.lk≠A.lr/\A.lh≠A.lr)/\(∀x∈A.ka++(A.ha++A.da),x≠A.a/\x≠A.lk/\x≠A.lh/\x≠A.lr)/\A.ka.Nodup/\(∀x∈A.ka,x∉A.ha/\x∉A.da)/\A.ha.Nodup/\A.da.Nodup/\∀x∈A.ha,x∉A.da:=by
 unfold Ad.foot at nd
 rw[List.nodup_append]at nd
 obtain⟨n1,n2,n3⟩:=nd
 rw[List.nodup_append]at n2
 obtain⟨n4,n5,n6⟩:=n2
 rw[List.nodup_append]at n5
 obtain⟨n7,n8,n9⟩:=n5
 refine⟨?_,fun x hx=>⟨fun z=>n3 A.a (by simp) x hx z.symm,fun z=>n3 A.lk (by simp) x hx z.symm,fun z=>n3 A.lh (by simp) x hx z.symm,fun z=>n3 A.lr (by simp) x hx z.symm⟩,n4,fun x hx=>⟨fun z=>n6 x hx x (qF_ _ z) rfl,fun z=>n6 x hx x (qE_ _ z) rfl⟩,n7,n8,fun x hx z=>n9 x hx x z rfl⟩
 simp only[List.nodup_cons,qS_,List.not_mem_nil,or_false,not_or]at n1
 obtain⟨⟨a1,a2,a3⟩,⟨a4,a5⟩,a6,_⟩:=n1
 exact⟨a1,a2,a3,a4,a5,a6⟩
def get_inj{xs:List Nat}(nd:xs.Nodup){i j x:Nat}(h1:xs[i]? =some x)(h2:xs[j]? =some x):i=j:=by
 obtain⟨l1,e1⟩:=qB_.mp h1
 obtain⟨l2,e2⟩:=qB_.mp h2
 exact(List.getElem_inj nd).mp (e1.trans e2.symm)
def HC{xs:List Nat}(h:∀(i j x:Nat),xs[i]? =some x->xs[j]? =some x->i=j):xs.Nodup:=by
 unfold List.Nodup
 rw[List.pairwise_iff_getElem]
 intro i j hi hj hij e
 have:=h i j xs[i] (qA_ hi) (by rw[qA_ hj,e])
 omega
def bw.EI{i a:Nat}{k:Kr}(H:bw G A st)(hi:A.ka[i]? =some a)(c:Chg [a] G G')(hk:gx G' a k):bw G' A {st with ks:=st.ks.set i k}:=by
 obtain⟨_,q,nk,nkh,_⟩:=pS H.nd
 have ha:=qD_ hi
 obtain⟨e1,e2,e3,e4⟩:=q a (qF_ _ ha)
 have ns:∀n,n≠a->n∉ [a]:=fun n h z=>h (by simpa using z)
 refine⟨c.get H.o (ns _ (Ne.symm e1)),c.get H.k (ns _ (Ne.symm e2)),c.get H.h (ns _ (Ne.symm e3)),c.get H.r (ns _ (Ne.symm e4)),by simp [H.kl],H.hl,H.dl,fun j b k' h1 h2=>?_,fun j b d h h1 h2 h3=>?_,H.nd⟩
 · by_cases z:j=i
   · subst z
     rw[hi]at h1
     cases h1
     have:j < st.ks.length:=by rw[<-H.kl];exact(qB_.mp hi).1
     rw[qU_ this]at h2
     cases h2
     exact hk
   · have h2:st.ks[j]? =some k':=by
      have h2:(st.ks.set i k)[j]? =some k':=h2
      rw[qV_ (Ne.symm z)]at h2
      exact h2
     refine c.get (H.kr j b k' h1 h2) (ns _ fun w=>z ?_)
     subst w
     exact get_inj nk h1 hi
 · refine(H.hd j b d h h1 h2 h3).chg c (ns _ fun w=>?_) (ns _ fun w=>?_)
   · subst w;exact(nkh _ ha).1 (qD_ h1)
   · subst w;exact(nkh _ ha).2 (qD_ h2)
def bw.Hc{i a d d':Nat}{h:Hd}(H:bw G A st)(hi:A.ha[i]? =some a)(hj:A.da[i]? =some d)(c:Chg [a,d] G G')(hd':d'=d\/G.length<=d')(hk:fI G' a d' h):bw G' {A with da:=A.da.set i d'} {st with hs:=st.hs.set i h}:=by
 obtain⟨p0,q,nk,nkh,nh,nD,nhd⟩:=pS H.nd
 have ha:=qD_ hi
 have hda:=qD_ hj
 obtain⟨e1,e2,e3,e4⟩:=q a (qE_ _ (qF_ _ ha))
 obtain⟨g1,g2,g3,g4⟩:=q d (qE_ _ (qE_ _ hda))
 have ns:∀n,n≠a->n≠d->n∉ [a,d]:=fun n h1 h2 z=>by
  simp only[qS_,List.not_mem_nil,or_false]at z
  exact z.elim h1 h2
 have fresh:∀n∈A.foot,n=d'->d'=d:=fun n hn z=>by
  rcases hd' with w |w
  · exact w
  · have:=H.lt n hn;omega
 have mem_set:∀x,x∈A.da.set i d'->x=d'\/x∈A.da/\x≠d:=fun x hx=>by
  obtain⟨j,hjl,e⟩:=List.getElem_of_mem hx
  have e':(A.da.set i d')[j]? =some x:=by rw[qA_ hjl,e]
  by_cases z:j=i
  · subst z
    rw[qU_ (qB_.mp hj).1]at e'
    cases e'
    exact .inl rfl
  · rw[qV_ (Ne.symm z)]at e'
    exact .inr ⟨qD_ e',fun w=>z (by subst w;exact get_inj nD e' hj)⟩
 refine⟨c.get H.o (ns _ (Ne.symm e1) (Ne.symm g1)),c.get H.k (ns _ (Ne.symm e2) (Ne.symm g2)),c.get H.h (ns _ (Ne.symm e3) (Ne.symm g3)),c.get H.r (ns _ (Ne.symm e4) (Ne.symm g4)),H.kl,by simp [H.hl],by simp [H.dl],fun j b k' h1 h2=>?_,fun j b dd hh h1 h2 h3=>?_,?_⟩
 · refine c.get (H.kr j b k' h1 h2) (ns _ (fun w=>?_) fun w=>?_)
   · subst w;exact(nkh _ (qD_ h1)).1 ha
   · subst w;exact(nkh _ (qD_ h1)).2 hda
 · have h2:(A.da.set i d')[j]? =some dd:=h2
   have h3:(st.hs.set i h)[j]? =some hh:=h3
   by_cases z:j=i
   · subst z
     rw[hi]at h1
     cases h1
     rw[qU_ (qB_.mp hj).1]at h2
     rw[qU_ (by rw[<-H.hl];exact(qB_.mp hi).1)]at h3
     cases h2
     cases h3
     exact hk
   · rw[qV_ (Ne.symm z)]at h2 h3
     refine(H.hd j b dd hh h1 h2 h3).chg c (ns _ (fun w=>z ?_) fun w=>?_) (ns _ (fun w=>?_) fun w=>z ?_)
     · subst w;exact get_inj nh h1 hi
     · subst w;exact nhd _ (qD_ h1) hda
     · subst w;exact nhd _ ha (qD_ h2)
     · subst w;exact get_inj nD h2 hj
 · by_cases hz:d'=d
   · subst hz
     have:A.da.set i d'=A.da:=by
      obtain⟨l,e⟩:=qB_.mp hj
      rw[<-e];exact List.set_getElem_self l
     unfold Ad.foot
     dsimp only
     rw[this]
     exact H.nd
   · have big:G.length<=d':=hd'.resolve_left hz
     have nd:=H.nd
     unfold Ad.foot at nd ⊢
     dsimp only
     rw[List.nodup_append]at nd ⊢
     obtain⟨n1,n2,n3⟩:=nd
     rw[List.nodup_append]at n2 ⊢
     obtain⟨n4,n5,n6⟩:=n2
     rw[List.nodup_append]at n5 ⊢
     obtain⟨n7,n8,n9⟩:=n5
     have old:∀x∈A.foot,x≠d':=fun x hx w=>by have:=H.lt x hx;omega
     have nset:(A.da.set i d').Nodup:=by
      refine HC fun u v x e1 e2=>?_
      by_cases zu:u=i
      · by_cases zv:v=i
        · rw[zu,zv]
        · rw[zu,qU_ (qB_.mp hj).1]at e1
          cases e1
          rw[qV_ (Ne.symm zv)]at e2
          exact absurd rfl (old d' (xn e2))
      · rw[qV_ (Ne.symm zu)]at e1
        by_cases zv:v=i
        · rw[zv,qU_ (qB_.mp hj).1]at e2
          cases e2
          exact absurd rfl (old d' (xn e1))
        · rw[qV_ (Ne.symm zv)]at e2
          exact get_inj n8 e1 e2
     refine⟨n1,⟨n4,⟨n7,nset,fun x hx y hy=>?_⟩,fun x hx y hy=>?_⟩,fun x hx y hy=>?_⟩
     · rcases mem_set y hy with w |w
       · rw[w];exact old x (by unfold Ad.foot;simp [hx])
       · exact n9 x hx y w.1
     · rcases qG_.mp hy with w |w
       · exact n6 x hx y (qF_ _ w)
       · rcases mem_set y w with w |w
         · rw[w];exact old x (by unfold Ad.foot;simp [hx])
         · exact n6 x hx y (qE_ _ w.1)
     · rcases qG_.mp hy with w |w
       · exact n3 x hx y (qF_ _ w)
       · rcases qG_.mp w with w |w
         · exact n3 x hx y (qE_ _ (qF_ _ w))
         · rcases mem_set y w with w |w
           · rw[w];exact old x (by unfold Ad.foot;exact qF_ _ hx)
           · exact n3 x hx y (qE_ _ (qE_ _ w.1))
def bw.F9{row:List (Bool×Lt)}(H:bw G A st)(c:Chg [A.lr] G G')(hr:G'[A.lr]? =some (.lst (row.map enD))):bw G' A {st with row:=row}:=by
 obtain⟨⟨_,_,p3,_,p5,p6⟩,q,_⟩:=pS H.nd
 have ns:∀n,n≠A.lr->n∉ [A.lr]:=fun n h z=>h (by simpa using z)
 have nq:∀x∈A.ka++(A.ha++A.da),x≠A.lr:=fun x hx=>(q x hx).2.2.2
 exact⟨c.get H.o (ns _ p3),c.get H.k (ns _ p5),c.get H.h (ns _ p6),hr,H.kl,H.hl,H.dl,
  fun i a k h1 h2=>c.get (H.kr i a k h1 h2) (ns _ (nq _ (qF_ _ (qD_ h1)))),
  fun i a d h h1 h2 h3=>(H.hd i a d h h1 h2 h3).chg c (ns _ (nq _ (qE_ _ (qF_ _ (qD_ h1))))) (ns _ (nq _ (qE_ _ (qE_ _ (qD_ h2))))),H.nd⟩
end
structure WF (st:Hl):Prop where
 hk:∀(i:Nat) h,st.hs[i]? =some h->h.num=i/\h.cnt=st.ks.length/\(∀e∈h.ar,e.1 < st.ks.length)/\(h.ar.map (·.1)).Nodup/\(h.pair=none->∀e∈h.ar,e.2.isSome=true)
 rw:∀e∈st.row,∃h,st.hs[e.2.hand]? =some h/\e.2.kpr < st.ks.length/\e.2.num<=h.rnd/\(e.2.num=h.rnd->(e.1=false->e.2.pair=h.pair)/\(e.1=true->e.2.pair.isSome=h.pair.isNone))
 ksz:st.ks.length<=9
 hsz:st.hs.length<=9
def qb(e:Nat×Pr):D:= .tup [.int (e.1:Int),pD e.2]
def cn(st:Hl)(place:Nat)(stays:Bool):List (Bool×Lt):=if stays then st.row else st.row.eraseIdx place
def aE(st:Hl)(place:Nat)(stays:Bool):Hl×List (Nat×Pr):=
 match st.row[place]? with
 |none=>(st,[])
 |some (true,l)=>(match st.hs[l.hand]? with
  |none=>(st,[])
  |some h=>({st with hs:=st.hs.set l.hand (aR h l).1,row:=cn st place stays++(aR h l).2.1.map fun x=>(false,x)},match (aR h l).2.2 with
   |none=>[]
   |some p=>[(l.hand,p)]))
 |some (false,l)=>(match st.ks[l.kpr]? with
  |none=>(st,[])
  |some k=>({st with ks:=st.ks.set l.kpr (bJ k l).1,row:=cn st place stays++(match (bJ k l).2 with
   |none=>[]
   |some x=>[(true,x)])},[]))
structure Ad.To (A A':Ad) (n:Nat):Prop where
 a:A'.a=A.a
 lk:A'.lk=A.lk
 lh:A'.lh=A.lh
 lr:A'.lr=A.lr
 ka:A'.ka=A.ka
 ha:A'.ha=A.ha
 da:∀x∈A'.da,x∈A.da\/n<=x
def Ad.To.refl(A:Ad)(n:Nat):A.To A n:=⟨rfl,rfl,rfl,rfl,rfl,rfl,fun _ h=>.inl h⟩
theorem Ad.To.trans{A B C:Ad}{n m:Nat}(x:A.To B n)(y:B.To C m)(h:n<=m):A.To C n:=
 ⟨y.a.trans x.a,y.lk.trans x.lk,y.lh.trans x.lh,y.lr.trans x.lr,y.ka.trans x.ka,y.ha.trans x.ha,fun z hz=>(y.da z hz).elim (x.da z) fun w=>.inr (Nat.le_trans h w)⟩
theorem Ad.To.foot{A B:Ad}{n:Nat}(x:A.To B n):∀z∈B.foot,z∈A.foot\/n<=z:=by
 intro z hz
 unfold Ad.foot at*
 rw[x.a,x.lk,x.lh,x.lr,x.ka,x.ha]at hz
 rcases qG_.mp hz with w |w
 · exact .inl (qF_ _ w)
 · rcases qG_.mp w with w |w
   · exact .inl (qE_ _ (qF_ _ w))
   · rcases qG_.mp w with w |w
     · exact .inl (qE_ _ (qE_ _ (qF_ _ w)))
     · exact(x.da z w).elim (fun w=>.inl (qE_ _ (qE_ _ (qE_ _ w)))) .inr
section
variable{G:Hh}{Q:D->Hh->Prop}{E:Nat->Hh->Prop}{A:Ad}{st:Hl}
def jj{xs:List Nat}{i a:Nat}(h:xs[i]? =some a):atI (refs xs) (i:Int)=some (.ref a):=gk h
def bw.hand(H:bw G A st){i:Nat}{h:Hd}(e:st.hs[i]? =some h):∃a d,A.ha[i]? =some a/\A.da[i]? =some d/\fI G a d h:=by
 have hl:=(qB_.mp e).1
 have h1:i < A.ha.length:=by rw[H.hl];exact hl
 have h2:i < A.da.length:=by rw[H.dl];exact hl
 exact⟨_,_,qA_ h1,qA_ h2,H.hd i _ _ _ (qA_ h1) (qA_ h2) e⟩
def bw.GS(H:bw G A st){i:Nat}{k:Kr}(e:st.ks[i]? =some k):∃a,A.ka[i]? =some a/\gx G a k:=by
 have hl:=(qB_.mp e).1
 have h1:i < A.ka.length:=by rw[H.kl];exact hl
 exact⟨_,qA_ h1,H.kr i _ _ (qA_ h1) e⟩
def yD{n k:Nat}{xs:List D}{y:D}(hn:G[n]? =some (.lst xs))(hy:xs[k]? =some y)(hz:xs.length<=1000000)(h:∀G',Chg [n] G G'->G'.length=G.length->G'[n]? =some (.lst (xs.eraseIdx k))->Q y G'):run (mh (.ref n) (.int (k:Int))) G Q E:=by
 have hk:=(qB_.mp hy).1
 refine BH hn (k:=k) ?_ hy (by omega) (h _ (Chg.set _ _ qI_) (by simp) (iB hn))
 unfold M3.ixN
 rw[if_pos (by omega),if_pos (by omega)]
 simp
def sk{ll:Nat}{ls:List Lt}(H:bw G A st)(hl:G[ll]? =some (.lst (ls.map ltD)))(hz:st.row.length+ls.length<=1000000)(hq:∀G',Chg [A.lr] G G'->bw G' A {st with row:=st.row++ls.map fun x=>(false,x)}->Q .non G'):run (bZ [.ref A.a,.ref ll]) G Q E:=by
 have ho:=H.o
 walk_at "f"
 unfold kD
 lia
 refine iM H.r ?_
 lia
 refine fF hl ?_
 refine kU (p:=fun _:Lt=>true) (g:=fun x=>enD (false,x)) (qZ_ hl) (by omega) (fun x _=>fZ ⟨rfl,rfl⟩) (fun x _ _=>?_) ?_
 · lia
   exact⟨rfl,rfl⟩
 rw[List.filter_eq_self.mpr (fun _ _=>rfl)]
 have c1:Chg [] G (G++[O.lst (ls.map fun x=>enD (false,x))]):=Chg.add _ _
 have H1:bw (G++[O.lst (ls.map fun x=>enD (false,x))]) A st:=H.frame c1 (by simp)
 refine gJ H1.r (aV _ _) (by simp [aC];omega) fun G2 c2 l2 h2=>?_
 lia
 refine hq G2 ((c1.mono (by simp)).trans c2) (H1.F9 c2 ?_)
 rw[h2,qT_,qb_]
 rfl
def m4{l:Lt}{k:Kr}(H:bw G A st)(hk:st.ks[l.kpr]? =some k)(hz:st.row.length < 1000000)
 (hq:∀G',Chg A.foot G G'->bw G' A {st with ks:=st.ks.set l.kpr (bJ k l).1,row:=st.row++(match (bJ k l).2 with |none=>[] |some x=>[(true,x)])}->Q .non G'):run (b7 [.ref A.a,ltD l]) G Q E:=by
 obtain⟨a,ha,hka⟩:=H.GS hk
 have ho:=H.o
 have hka0:=hka
 unfold gx krF at hka0
 walk_at "f"
 unfold cT
 refine aA (ba (bq (aP (w_fld (w_var rfl (aZ ho (by decide) rfl (aP (w_var rfl (w_c ?_)))))))))
 unfold ltD
 refine bH rfl ?_
 refine cP H.k (jj ha) (bX hka0 (ah (w_var rfl (ay ?_))))
 refine uG hka fun G1 c1 h1=>?_
 have H1:=H.EI ha c1 h1
 have ho1:=H1.o
 have cf:Chg A.foot G G1:=c1.mono (by intro n hn;simp at hn;subst hn;exact xu ha)
 refine w_next ?_
 refine cX (ib (ot (w_var rfl ?_)))
 lia
 cases q:(bJ k l).2 with
 |none=>
  rw[q]at hq
  refine oC ?_
  lia
  rw[qY_]at hq
  exact hq G1 cf H1
 |some x=>
  rw[q]at hq
  refine oQ ?_
  lia
  refine iM H1.r ?_
  lia
  refine fz H1.r (by rw[qM_];unfold aC;exact qd_ hz (by decide)) fun G2 c2 l2 h2=>?_
  lia
  refine hq G2 (cf.trans (c2.mono (by intro n hn;simp at hn;subst hn;simp [Ad.foot]))) (H1.F9 c2 ?_)
  rw[h2,qT_]
  rfl
theorem sT:∀(n:Nat) (m:List Nat),m.Nodup->(∀x∈m,x < n)->m.length<=n
 |0,m,_,h=>by
  cases m with
  |nil=>simp
  |cons a r=>exact absurd (h a qI_) (Nat.not_lt_zero _)
 |n+1,m,nd,h=>by
  by_cases hn:n∈m
  · have:=sT n (m.erase n) (nd.erase n) fun x hx=>by
     have h1:=nd.mem_erase_iff.mp hx
     have h2:=h x h1.2
     have h3:=h1.1
     omega
    rw[List.length_erase_of_mem hn]at this
    omega
  · have:=sT n m nd fun x hx=>by
     have h1:=h x hx
     have h2:x≠n:=fun z=>hn (z ▸ hx)
     omega
    omega
def BQ{l:List (Nat×Option Pr)}{k:Nat}{p:Option Pr}{n:Nat}(hn:(l.map (·.1)).Nodup)(hl:∀e∈l,e.1 < n)(hk:k < n):(bf l k p).length<=n:=by
 have key:∀m:List Nat,m.Nodup->(∀x∈m,x < n)->m.length<=n:=fun m h1 h2=>sT n m h1 h2
 unfold bf
 split
 · rw[qM_,<-qM_ (f:=(·.1))]
   exact key _ hn fun x hx=>by obtain⟨e,he,rfl⟩:=qH_.mp hx;exact hl e he
 · rename_i hc
   have:((l++[(k,p)]).map (·.1)).length<=n:=by
    refine key _ ?_ fun x hx=>?_
    · rw[qT_,List.nodup_append]
      refine⟨hn,by simp,fun x hx y hy=>?_⟩
      simp at hy
      subst hy
      rintro rfl
      obtain⟨e,he,ee⟩:=qH_.mp hx
      exact hc (List.any_eq_true.mpr ⟨e,he,qZ_ ee⟩)
    · obtain⟨e,he,rfl⟩:=qH_.mp hx
      rcases qG_.mp he with z |z
      · exact hl e z
      · simp at z;rw[z];exact hk
   rw[qM_]at this
   exact this
def pO{l:List (Nat×Option Pr)}{k:Nat}{p:Option Pr}{e:Nat×Option Pr}(h:e∈bf l k p):(e.1=k/\e.2=p)\/e∈l:=by
 unfold bf at h
 split at h
 · obtain⟨x,hx,ex⟩:=qH_.mp h
   split at ex
   · rename_i z;subst ex;exact .inl ⟨z,rfl⟩
   · subst ex;exact .inr hx
 · rcases qG_.mp h with z |z
   · exact .inr z
   · simp at z;rw[z];exact .inl ⟨rfl,rfl⟩
def tZ(h:Hd)(l:Lt):(aR h l).2.1.length<=h.cnt:=by
 unfold aR
 split
 · simp
 · dsimp only
   split
   · simp
   · split
     · dsimp only
       unfold bc
       rw[qM_]
       have:=kI (roundF (bC {h with ar:=bf h.ar l.kpr l.pair} (vals (bf h.ar l.kpr l.pair))).1 (some (bC {h with ar:=bf h.ar l.kpr l.pair} (vals (bf h.ar l.kpr l.pair))).2))
       rw[show (roundF (bC {h with ar:=bf h.ar l.kpr l.pair} (vals (bf h.ar l.kpr l.pair))).1 (some (bC {h with ar:=bf h.ar l.kpr l.pair} (vals (bf h.ar l.kpr l.pair))).2)).cnt=h.cnt from gL _ _]at this
       exact this
     · simp
def o7{l:Lt}{h:Hd}(H:bw G A st)(hh:st.hs[l.hand]? =some h)(hc:h.cnt<=9)(hz2:(bf h.ar l.kpr l.pair).length<=1000)(hok:h.atw=true->l.num=h.rnd->h.pair=none->∀e∈bf h.ar l.kpr l.pair,e.2.isSome=true)(hz:st.row.length < 900000)
 (hq:∀le A' G',Chg A.foot G G'->A.To A' G.length->G.length<=le->bw G' A' {st with hs:=st.hs.set l.hand (aR h l).1,row:=st.row++(aR h l).2.1.map fun x=>(false,x)}->G'[le]? =some (.lst ((match (aR h l).2.2 with |none=>[] |some p=>[(l.hand,p)]).map qb))->Q (.ref le) G'):run (cu [.ref A.a,ltD l]) G Q E:=by
 obtain⟨a,d,ha,hda,hat⟩:=H.hand hh
 have ho:=H.o
 have hat0:=hat.1
 unfold hdF at hat0
 walk_at "f"
 unfold dO
 refine aA (ba (bq (aP (w_fld (w_var rfl (aZ ho (by decide) rfl (aP (w_var rfl (w_c ?_)))))))))
 unfold ltD
 refine bH rfl ?_
 refine cP H.h (jj ha) (bX hat0 (ah (w_var rfl (ay ?_))))
 refine FW hat (by omega) hz2 hok fun ll d' G1 c1 l1 l2 h1 h2=>?_
 have H1:=H.Hc ha hda c1 l1 h1
 have ho1:G1[A.a]? =_:=H1.o
 have cf:Chg A.foot G G1:=c1.mono (by
  intro n hn
  simp only[qS_,List.not_mem_nil,or_false]at hn
  rcases hn with rfl |rfl
  · exact vb ha
  · exact xn hda)
 have to:A.To {A with da:=A.da.set l.hand d'} G.length:=⟨rfl,rfl,rfl,rfl,rfl,rfl,fun x hx=>by
  rcases List.mem_or_eq_of_mem_set hx with z |z
  · exact .inl z
  · rw[z]
    exact l1.elim (fun w=>.inl (by rw[w];exact qD_ hda)) .inr⟩
 have hl3:=tZ h l
 generalize aR h l=r at*
 lia
 refine sk (A:={A with da:=A.da.set l.hand d'}) H1 h2 (by show st.row.length+_<=_;omega) fun G2 c2 H2=>?_
 have c2f:Chg A.foot G1 G2:=c2.mono (by intro n hn;simp at hn;subst hn;simp [Ad.foot])
 have g1:=c1.1
 have g2:=c2.1
 lia
 rw[oP]
 cases q:r.2.2 with
 |none=>
  rw[q]at hq
  refine lP ?_
  refine bA (dM fun G3 c3 l3 h3=>?_)
  lia
  exact hq G2.length _ G3 ((cf.trans c2f).trans (c3.mono (by simp))) to (by omega) (H2.frame c3 (by simp)) h3
 |some p=>
  rw[q]at hq
  refine nC ?_
  lia
  have c3:Chg [] G2 (G2++[O.lst [D.tup [D.int (l.hand:Int),opD (some p)]]]):=Chg.add _ _
  exact hq G2.length _ _ ((cf.trans c2f).trans (c3.mono (by simp))) to (by omega) (H2.frame c3 (by simp)) (aV _ _)
end
def HOK(n i:Nat)(h:Hd):Prop:=h.num=i/\h.cnt=n/\(∀e∈h.ar,e.1 < n)/\(h.ar.map (·.1)).Nodup/\(h.pair=none->∀e∈h.ar,e.2.isSome=true)
def EOK(n:Nat)(hs:List Hd)(e:Bool×Lt):Prop:=∃h,hs[e.2.hand]? =some h/\e.2.kpr < n/\e.2.num<=h.rnd/\(e.2.num=h.rnd->(e.1=false->e.2.pair=h.pair)/\(e.1=true->e.2.pair.isSome=h.pair.isNone))
def wU{l:List (Nat×Option Pr)}{k:Nat}{p:Option Pr}(hn:(l.map (·.1)).Nodup):((bf l k p).map (·.1)).Nodup:=by
 unfold bf
 split
 · rw[qb_]
   have:((fun x:Nat×Option Pr=>x.1) ∘ fun e:Nat×Option Pr=>if e.1=k then (e.1,p)else e)=fun e=>e.1:=by
    funext e
    show (if e.1=k then (e.1,p)else e).1=e.1
    split <;> rfl
   rw[this]
   exact hn
 · rename_i hc
   rw[qT_,List.nodup_append]
   refine⟨hn,by simp,fun x hx y hy=>?_⟩
   simp at hy
   subst hy
   rintro rfl
   obtain⟨e,he,ee⟩:=qH_.mp hx
   exact hc (List.any_eq_true.mpr ⟨e,he,qZ_ ee⟩)
def uR{n i:Nat}{h:Hd}(hc:h.cnt=n)(hi:h.num=i)(p:Option Pr):HOK n i (roundF h p):=⟨hi,hc,by simp [roundF],by simp [roundF],by simp [roundF]⟩
def mq(h:Hd)(ps:List Pr):(bC h ps).1.num=h.num/\(bC h ps).1.rnd=h.rnd/\(bC h ps).1.atw=h.atw:=by unfold bC;cases h.val <;> exact⟨rfl,rfl,rfl⟩
def oY{n i:Nat}{h:Hd}(H:HOK n i h){x:Lt}(hx:x∈bc h):x.hand=i/\x.kpr < n/\x.num=h.rnd/\x.pair=h.pair:=by
 unfold bc at hx
 obtain⟨k,hk,rfl⟩:=qH_.mp hx
 unfold mJ at hk
 have:=List.mem_range.mp (List.mem_filter.mp hk).1
 exact⟨H.1,by rw[<-H.2.1];exact this,rfl,rfl⟩
def Fu{n i:Nat}{h:Hd}(H:HOK n i h){l:Lt}(hk:l.kpr < n)(hp:h.pair=none->l.pair.isSome=true):HOK n i {h with ar:=bf h.ar l.kpr l.pair}:=by
 refine⟨H.1,H.2.1,fun e he=>?_,wU H.2.2.2.1,fun z e he=>?_⟩
 · rcases pO he with w |w
   · rw[w.1];exact hk
   · exact H.2.2.1 e w
 · rcases pO he with w |w
   · rw[w.2];exact hp z
   · exact H.2.2.2.2 z e w
def DQ{n i:Nat}{h:Hd}(H:HOK n i h){l:Lt}(hk:l.kpr < n)(hp:l.num=h.rnd->l.pair.isSome=h.pair.isNone):
 HOK n i (aR h l).1/\((aR h l).1.rnd=h.rnd/\(aR h l).1.pair=h.pair\/(aR h l).1.rnd=h.rnd+1)/\∀x∈(aR h l).2.1,x.hand=i/\x.kpr < n/\x.num=(aR h l).1.rnd/\x.pair=(aR h l).1.pair:=by
 unfold aR
 split
 · exact⟨H,.inl ⟨rfl,rfl⟩,by simp⟩
 · rename_i hc
   have hnum:l.num=h.rnd:=by
    simp only[Bool.or_eq_true,Bool.not_eq_true',decide_eq_false_iff_not,not_or,Bool.not_eq_false,Decidable.not_not]at hc
    exact hc.2
   have P:=Fu H hk (l:=l) fun z=>by rw[hp hnum,z];rfl
   dsimp only
   split
   · exact⟨P,.inl ⟨rfl,rfl⟩,by simp⟩
   · split
     · rename_i qp
       dsimp only
       have c1:=gL {h with ar:=bf h.ar l.kpr l.pair} (vals (bf h.ar l.kpr l.pair))
       have c2:=mq {h with ar:=bf h.ar l.kpr l.pair} (vals (bf h.ar l.kpr l.pair))
       generalize bC {h with ar:=bf h.ar l.kpr l.pair} (vals (bf h.ar l.kpr l.pair))=c at*
       have R:=uR (n:=n) (i:=i) (h:=c.1) (c1.trans H.2.1) (c2.1.trans H.1) (some c.2)
       refine⟨R,.inr ?_,fun x hx=>oY R hx⟩
       show c.1.rnd+1=h.rnd+1
       rw[c2.2.1]
     · exact⟨⟨P.1,P.2.1,P.2.2.1,P.2.2.2.1,P.2.2.2.2⟩,.inl ⟨rfl,rfl⟩,by simp⟩
def WF.hok{st:Hl}(W:WF st){i:Nat}{h:Hd}(e:st.hs[i]? =some h):HOK st.ks.length i h:=W.hk i h e
def WF.eok{st:Hl}(W:WF st){e:Bool×Lt}(h:e∈st.row):EOK st.ks.length st.hs e:=W.rw e h
def x3{st:Hl}{p:Nat}{s:Bool}{e:Bool×Lt}(h:e∈cn st p s):e∈st.row:=by
 unfold cn at h
 cases s with
 |true=>exact h
 |false=>exact List.mem_of_mem_eraseIdx h
def gn{st:Hl}(W:WF st)(p:Nat)(s:Bool):WF (aE st p s).1:=by
 unfold aE
 split
 · exact W
 · rename_i l hr
   obtain⟨h,hh,hk,hn,hp⟩:=W.eok (qD_ hr)
   have hh:st.hs[l.hand]? =some h:=hh
   rw[hh]
   dsimp only
   obtain⟨o1,o2,o3⟩:=DQ (W.hok hh) hk fun z=>(hp z).2 rfl
   have hlt:=(qB_.mp hh).1
   generalize aR h l=r at*
   refine⟨fun i g e=>?_,fun e he=>?_,W.ksz,by simpa using W.hsz⟩
   · have e:(st.hs.set l.hand r.1)[i]? =some g:=e
     by_cases z:i=l.hand
     · subst z
       rw[qU_ hlt]at e
       cases e
       exact o1
     · rw[qV_ (Ne.symm z)]at e
       exact W.hk i g e
   · show EOK st.ks.length (st.hs.set l.hand r.1) e
     have he:e∈cn st p s++r.2.1.map fun x=>(false,x):=he
     rcases qG_.mp he with z |z
     · obtain⟨g,hg,q1,q2,q3⟩:=W.eok (x3 z)
       by_cases w:e.2.hand=l.hand
       · rw[w]at hg
         rw[hh]at hg
         cases hg
         refine⟨r.1,by rw[w];exact qU_ hlt,q1,?_,fun c=>?_⟩
         · rcases o2 with ⟨o2,_⟩ |o2 <;> omega
         · rcases o2 with ⟨o2,o4⟩ |o2
           · rw[o4];exact q3 (by omega)
           · omega
       · exact⟨g,by rw[qV_ (Ne.symm w)];exact hg,q1,q2,q3⟩
     · obtain⟨x,hx,rfl⟩:=qH_.mp z
       obtain⟨y1,y2,y3,y4⟩:=o3 x hx
       exact⟨r.1,by rw[y1];exact qU_ hlt,y2,Int.le_of_eq y3,fun _=>⟨fun _=>y4,fun z=>by cases z⟩⟩
 · rename_i l hr
   obtain⟨h,hh,hk,hn,hp⟩:=W.eok (qD_ hr)
   have hk':st.ks[l.kpr]? =some st.ks[l.kpr]:=qA_ hk
   rw[hk']
   dsimp only
   generalize st.ks[l.kpr]=k
   have hp0:l.num=h.rnd->l.pair=h.pair:=fun z=>(hp z).1 rfl
   refine⟨fun i g e=>by
    show HOK (st.ks.set l.kpr (bJ k l).1).length i g
    rw[qX_]
    exact W.hk i g e,fun e he=>?_,by simpa using W.ksz,W.hsz⟩
   show EOK (st.ks.set l.kpr (bJ k l).1).length st.hs e
   rw[qX_]
   have he:e∈cn st p s++(match (bJ k l).2 with |none=>[] |some x=>[(true,x)]):=he
   rcases qG_.mp he with z |z
   · exact W.eok (x3 z)
   · unfold bJ at z
     split at z
     · rename_i e1
       cases up:k.up with
       |false=>simp at z
       |true=>simp at z
     · rename_i x e1
       have z:e=(true,x):=by simpa using z
       subst z
       cases up:k.up with
       |false=>
        rw[up]at e1
        cases e1
       |true=>
        rw[up]at e1
        cases lp:l.pair with
        |none=>
         rw[lp]at e1
         cases e1
         exact⟨h,hh,hk,hn,fun c=>⟨fun z=>(by cases z),fun _=>by rw[<-hp0 c,lp];rfl⟩⟩
        |some q=>
         rw[lp]at e1
         cases e1
         exact⟨h,hh,hk,hn,fun c=>⟨fun z=>(by cases z),fun _=>by rw[<-hp0 c,lp];rfl⟩⟩
def wt(e:Bool×Lt):Nat:=if e.1 then 1 else 2
def pot(h:Hd):Nat:=if h.atw&&h.pair.isNone then 2*h.cnt else 0
def mea(st:Hl):Nat:=(st.row.map wt).sum+(st.hs.map pot).sum
def yJ{xs:List (Bool×Lt)}:∀{i:Nat} {e:Bool×Lt},xs[i]? =some e->(xs.map wt).sum=wt e+((xs.eraseIdx i).map wt).sum:=by
 induction xs with
 |nil=>intro i e h;simp at h
 |cons x r ih=>
  intro i e h
  cases i with
  |zero=>simp at h;subst h;simp
  |succ i=>
   have:=ih (i:=i) (e:=e) (by simpa using h)
   simp only[List.eraseIdx_cons_succ,List.map_cons,List.sum_cons]
   omega
def sum_set{hs:List Hd}:∀{i:Nat} {h g:Hd},hs[i]? =some h->((hs.set i g).map pot).sum+pot h=(hs.map pot).sum+pot g:=by
 induction hs with
 |nil=>intro i h g e;simp at e
 |cons x r ih=>
  intro i h g e
  cases i with
  |zero=>simp at e;subst e;simp;omega
  |succ i=>
   have:=ih (i:=i) (h:=h) (g:=g) (by simpa using e)
   simp only[List.set_cons_succ,List.map_cons,List.sum_cons]
   omega
def oh(ls:List Lt):((ls.map fun x=>(false,x)).map wt).sum=2*ls.length:=by
 induction ls with
 |nil=>rfl
 |cons x r ih=>
  simp only[List.map_cons,List.sum_cons,List.length_cons]
  rw[ih]
  show 2+2*r.length=2*(r.length+1)
  omega
def B0{h:Hd}{l:Lt}:pot (aR h l).1+2*(aR h l).2.1.length<=pot h:=by
 unfold aR
 split
 · simp
 · rename_i hc
   have hat:h.atw=true:=by
    simp only[Bool.or_eq_true,Bool.not_eq_true',decide_eq_false_iff_not,not_or,Bool.not_eq_false,Decidable.not_not]at hc
    exact hc.1
   dsimp only
   split
   · simp [pot]
   · split
     · rename_i qp
       dsimp only
       have c1:=gL {h with ar:=bf h.ar l.kpr l.pair} (vals (bf h.ar l.kpr l.pair))
       generalize bC {h with ar:=bf h.ar l.kpr l.pair} (vals (bf h.ar l.kpr l.pair))=c at*
       have h1:pot (roundF c.1 (some c.2))=0:=by unfold pot roundF;simp
       have h2:pot h=2*h.cnt:=by unfold pot;rw[hat,qp];rfl
       have h3:(bc (roundF c.1 (some c.2))).length<=h.cnt:=by
        unfold bc
        rw[qM_]
        have:=kI (roundF c.1 (some c.2))
        rw[show (roundF c.1 (some c.2)).cnt=h.cnt from c1]at this
        exact this
       rw[h1,h2]
       omega
     · simp [pot]
def uj{st:Hl}(W:WF st){p:Nat}{s:Bool}{e:Bool×Lt}(hr:st.row[p]? =some e):mea (aE st p s).1+(if s then 0 else 1)<=mea st+(if s then 1 else 0):=by
 have off:((cn st p s).map wt).sum+(if s then 0 else wt e)=(st.row.map wt).sum:=by
  unfold cn
  cases s with
  |true=>simp
  |false=>have:=yJ hr;simp;omega
 obtain⟨h,hh,hk,_⟩:=W.eok (qD_ hr)
 unfold aE
 rw[hr]
 obtain⟨b,l⟩:=e
 cases b with
 |true=>
  have hh:st.hs[l.hand]? =some h:=hh
  dsimp only
  rw[hh]
  dsimp only
  have h1:=B0 (h:=h) (l:=l)
  have h2:=sum_set (g:=(aR h l).1) hh
  unfold mea
  dsimp only
  rw[qT_,List.sum_append,oh]
  have h3:wt (true,l)=1:=rfl
  cases s <;> simp only[reduceIte,Bool.false_eq_true]at off ⊢ <;> omega
 |false=>
  dsimp only
  have hk':st.ks[l.kpr]? =some st.ks[l.kpr]:=qA_ hk
  rw[hk']
  dsimp only
  unfold mea
  dsimp only
  rw[qT_,List.sum_append]
  have h3:wt (false,l)=2:=rfl
  generalize bJ st.ks[l.kpr] l=r
  obtain⟨r1,r2⟩:=r
  cases r2 with
  |none=>
   dsimp only
   rw[List.map_nil,List.sum_nil]
   cases s <;> simp only[reduceIte,Bool.false_eq_true]at off ⊢ <;> omega
  |some x=>
   dsimp only
   have h5:([(true,x)].map wt).sum=1:=rfl
   rw[h5]
   cases s <;> simp only[reduceIte,Bool.false_eq_true]at off ⊢ <;> omega
def sW(st:Hl):st.row.length<=mea st:=by
 unfold mea
 have:∀xs:List (Bool×Lt),xs.length<=(xs.map wt).sum:=by
  intro xs
  induction xs with
  |nil=>simp
  |cons x r ih=>
   simp only[List.length_cons,List.map_cons,List.sum_cons]
   have:1<=wt x:=by unfold wt;split <;> omega
   omega
 have:=this st.row
 omega
section
variable{G:Hh}{Q:D->Hh->Prop}{E:Nat->Hh->Prop}{A:Ad}{st:Hl}
theorem rN{α β:Type}(f:α->β):∀(xs:List α) (i:Nat),(xs.map f).eraseIdx i=(xs.eraseIdx i).map f
 | [],_=>rfl
 |_ :: _,0=>rfl
 |x :: r,i+1=>by
  show f x :: (r.map f).eraseIdx i=f x :: (r.eraseIdx i).map f
  rw[rN f r i]
def vU{p:Nat}{s:Bool}{e:Bool×Lt}(H:bw G A st)(W:WF st)(hr:st.row[p]? =some e)(hz:mea st<=800000)
 (hq:∀le A' G',Chg A.foot G G'->A.To A' G.length->G.length<=le->bw G' A' (aE st p s).1->G'[le]? =some (.lst ((aE st p s).2.map qb))->Q (.ref le) G'):run (cF [.ref A.a,.int (p:Int),.bl s]) G Q E:=by
 obtain⟨h,hh,hk,hn,hp⟩:=W.eok (qD_ hr)
 have hrl:=sW st
 have ho:=H.o
 have hix:atI (st.row.map enD) (p:Int)=some (enD e):=gk hr
 have hre:(st.row.map enD)[p]? =some (enD e):=by rw[qQ_,hr];rfl
 walk_at "f"
 unfold ky
 refine aA (ba (aP (w_fld (w_var rfl (aZ ho (by decide) rfl (w_var rfl (cP H.r hix ?_)))))))
 refine w_next ?_
 walk_at "s"
 have step:run (sIf (eT (tOf (ae 2))) (bP (tY (aT (ae 0) 11) (ae 1))) aX [some (.ref A.a),some (.int (p:Int)),some (.bl s),some (enD e)]) G (fun r G1=>r=(.next,[some (.ref A.a),some (.int (p:Int)),some (.bl s),some (enD e)])/\Chg [A.lr] G G1/\bw G1 A {st with row:=cn st p s}) E:=by
  refine cX (hJ (iu (w_var rfl (jK ?_))))
  cases s with
  |true=>
   refine oC (iz ⟨rfl,Chg.refl _ _,H⟩)
  |false=>
   refine oQ (cJ (yd (w_fld (w_var rfl (aZ ho (by decide) rfl (iM H.r (w_var rfl ?_)))))))
   refine yD H.r hre (by rw[qM_];omega) fun G1 c1 l1 h1=>⟨rfl,c1,H.F9 c1 ?_⟩
   rw[h1]
   show some (O.lst ((st.row.map enD).eraseIdx p))=some (O.lst ((st.row.eraseIdx p).map enD))
   rw[rN]
 refine aA (au step (fun r G1 ⟨er,c1,H1⟩=>?_) fun _ _ z=>z)
 subst er
 refine w_next ?_
 have c1f:Chg A.foot G G1:=c1.mono (by intro n hn;simp at hn;subst hn;simp [Ad.foot])
 have g1:=c1.1
 have ho1:=H1.o
 have lo:(cn st p s).length<=st.row.length:=by
  unfold cn
  cases s with
  |true=>exact qO_ _
  |false=>exact List.length_eraseIdx_le _ _
 obtain⟨b,l⟩:=e
 unfold aE at hq
 rw[hr]at hq
 cases b with
 |true=>
  have hh:st.hs[l.hand]? =some h:=hh
  dsimp only at hq
  rw[hh]at hq
  dsimp only at hq
  obtain⟨k1,k2,k3,k4,k5⟩:=W.hk _ _ hh
  have hks:=W.ksz
  refine aA (cX (iu (aP (w_var rfl (w_c (bH rfl (jK (lP ?_))))))))
  refine bA (bq (w_var rfl (bX ho1 (ah (aP (w_var rfl (w_c (bH rfl (ay ?_)))))))))
  refine o7 (st:={st with row:=cn st p s}) H1 hh (by omega) (Nat.le_trans (BQ k4 k3 hk) (by omega)) (fun q1 q2 q3 x hx=>?_) (by show (cn st p s).length < 900000;omega) fun le A' G2 c2 to l2 H2 h2=>?_
  · rcases pO hx with w |w
    · rw[w.2,(hp q2).2 rfl,q3];rfl
    · exact k5 q3 x w
  · lia
    exact hq le A' G2 (c1f.trans c2) ⟨to.a,to.lk,to.lh,to.lr,to.ka,to.ha,fun x hx=>(to.da x hx).imp id fun z=>by omega⟩ (by omega) H2 h2
 |false=>
  have hk':st.ks[l.kpr]? =some st.ks[l.kpr]:=qA_ hk
  dsimp only at hq
  rw[hk']at hq
  dsimp only at hq
  generalize st.ks[l.kpr]=k at hq hk'
  refine aA (cX (iu (aP (w_var rfl (w_c (bH rfl (jK (nC ?_))))))))
  refine iz (w_next ?_)
  refine aA (cJ (bq (w_var rfl (bX ho1 (ah (aP (w_var rfl (w_c (bH rfl (ay ?_))))))))))
  refine m4 (st:={st with row:=cn st p s}) H1 hk' (by show (cn st p s).length < 1000000;omega) fun G2 c2 H2=>?_
  refine w_next ?_
  refine bA (dM fun G3 c3 l3 h3=>?_)
  lia
  have g2:=c2.1
  exact hq G2.length A G3 ((c1f.trans c2).trans (c3.mono (by simp))) (Ad.To.refl _ _) (by omega) (H2.frame c3 (by simp)) h3
def iC{i:Int}(H:bw G A st)(hb:(i < 0\/(st.hs.length:Int)<=i)->E 1001 G)(hq:∀j a:Nat,i=(j:Int)->A.ha[j]? =some a->Q (.ref a) G):run (aU [.ref A.a,.int i]) G Q E:=by
 have ho:=H.o
 walk_at "f"
 unfold gD
 lia
 refine w_ite (fun c=>?_) fun c=>?_
 · lia
   exact hb (.inl (of_decide_eq_true c))
 · have c:=of_decide_eq_false c
   lia
   refine cU H.h ?_
   rw[show (refs A.ha).length=A.ha.length from qM_ _]
   lia
   refine w_ite (fun c2=>?_) fun c2=>?_
   · lia
     refine hb (.inr ?_)
     have:=of_decide_eq_true c2
     rw[<-H.hl];exact this
   · have c2:=of_decide_eq_false c2
     have hlt:i.toNat < A.ha.length:=by omega
     have e1:A.ha[i.toNat]? =some A.ha[i.toNat]:=qA_ hlt
     have e2:atI (refs A.ha) i=some (.ref A.ha[i.toNat]):=by
      have:=jj e1
      rwa [Int.toNat_of_nonneg (by omega)]at this
     lia
     refine cP H.h e2 ?_
     lia
     exact hq i.toNat _ (by omega) e1
def ke{i:Int}(H:bw G A st)(hb:(i < 0\/(st.ks.length:Int)<=i)->E 1002 G)(hq:∀j a:Nat,i=(j:Int)->A.ka[j]? =some a->Q (.ref a) G):run (bx [.ref A.a,.int i]) G Q E:=by
 have ho:=H.o
 walk_at "f"
 unfold fx
 lia
 refine w_ite (fun c=>?_) fun c=>?_
 · lia
   exact hb (.inl (of_decide_eq_true c))
 · have c:=of_decide_eq_false c
   lia
   refine cU H.k ?_
   rw[show (refs A.ka).length=A.ka.length from qM_ _]
   lia
   refine w_ite (fun c2=>?_) fun c2=>?_
   · lia
     refine hb (.inr ?_)
     have:=of_decide_eq_true c2
     rw[<-H.kl];exact this
   · have c2:=of_decide_eq_false c2
     have hlt:i.toNat < A.ka.length:=by omega
     have e1:A.ka[i.toNat]? =some A.ka[i.toNat]:=qA_ hlt
     have e2:atI (refs A.ka) i=some (.ref A.ka[i.toNat]):=by
      have:=jj e1
      rwa [Int.toNat_of_nonneg (by omega)]at this
     lia
     refine cP H.k e2 ?_
     lia
     exact hq i.toNat _ (by omega) e1
def newRow(st:Hl)(h:Hd):List (Bool×Lt):=st.row++(bc h).map fun x=>(false,x)
def gX(h:Hd):(bc h).length<=h.cnt:=by unfold bc;rw[qM_];exact kI h
def bT(st:Hl)(i:Nat)(h:Hd)(v:Option Int):Hl:={st with hs:=st.hs.set i (bM h v),row:=newRow st (bM h v)}
def oJ(H:bw G A st){j a:Nat}(hj:A.ha[j]? =some a):∃h,st.hs[j]? =some h:=by
 have:j < st.hs.length:=by rw[<-H.hl];exact(qB_.mp hj).1
 exact⟨_,qA_ this⟩
def zp(H:bw G A st){j a:Nat}(hj:A.ka[j]? =some a):∃k,st.ks[j]? =some k:=by
 have:j < st.ks.length:=by rw[<-H.kl];exact(qB_.mp hj).1
 exact⟨_,qA_ this⟩
def begun{i a d d' ll:Nat}{h:Hd}{v:Option Int}{G1:Hh}(H:bw G A st)(ha:A.ha[i]? =some a)(hd:A.da[i]? =some d)(c1:Chg [a] G G1)(l1:G.length<=d')(h1:fI G1 a d' (bM h v)):
 bw G1 {A with da:=A.da.set i d'} {st with hs:=st.hs.set i (bM h v)}/\A.To {A with da:=A.da.set i d'} G.length/\Chg A.foot G G1:=by
 refine⟨H.Hc ha hd (c1.mono (by simp)) (.inr l1) h1,⟨rfl,rfl,rfl,rfl,rfl,rfl,fun x hx=>?_⟩,c1.mono (by intro n hn;simp at hn;subst hn;exact vb ha)⟩
 rcases List.mem_or_eq_of_mem_set hx with z |z
 · exact .inl z
 · rw[z];exact .inr l1
def Dm{i v:Int}(H:bw G A st)(W:WF st)(hz:mea st<=800000)(hb:(i < 0\/(st.hs.length:Int)<=i)->E 1001 G)(hbusy:∀(j:Nat) h,i=(j:Int)->st.hs[j]? =some h->h.atw=true->E 1004 G)
 (hq:∀(j:Nat) h,i=(j:Int)->st.hs[j]? =some h->h.atw=false->∀A' G',Chg A.foot G G'->A.To A' G.length->bw G' A' (bT st j h (some v))->Q .non G'):run (gq [.ref A.a,.int i,.int v]) G Q E:=by
 have ho:=H.o
 have hrl:=sW st
 walk_at "f"
 unfold ju
 lia
 refine iC H hb fun j a hi ha=>?_
 obtain⟨h,hh⟩:=oJ H ha
 obtain⟨a',d,ha',hd,hat⟩:=H.hand hh
 rw[ha]at ha'
 cases ha'
 obtain⟨k1,k2,_⟩:=W.hk _ _ hh
 have hks:=W.ksz
 have hat0:=hat.1
 unfold hdF at hat0
 lia
 refine qP hat (by omega) (fun q=>hbusy j h hi hh q) fun q ll d' G1 c1 l1 l2 h1 h2=>?_
 obtain⟨H1,to,cf⟩:=begun (ll:=ll) H ha hd c1 l1 h1
 have hll:=gX (bM h (some v))
 have hcn:(bM h (some v)).cnt=h.cnt:=rfl
 lia
 refine sk (A:={A with da:=A.da.set j d'}) H1 h2 (by show st.row.length+_<=_;omega) fun G2 c2 H2=>?_
 lia
 exact hq j h hi hh q _ G2 (cf.trans (c2.mono (by intro n hn;simp at hn;subst hn;simp [Ad.foot]))) to H2
def FF{i:Int}(H:bw G A st)(W:WF st)(hz:mea st<=800000)(hb:(i < 0\/(st.hs.length:Int)<=i)->E 1001 G)(hbusy:∀(j:Nat) h,i=(j:Int)->st.hs[j]? =some h->h.atw=true->E 1004 G)
 (hq:∀(j:Nat) h,i=(j:Int)->st.hs[j]? =some h->h.atw=false->∀A' G',Chg A.foot G G'->A.To A' G.length->bw G' A' (bT st j h none)->Q .non G'):run (gS [.ref A.a,.int i]) G Q E:=by
 have ho:=H.o
 have hrl:=sW st
 walk_at "f"
 unfold j6
 lia
 refine iC H hb fun j a hi ha=>?_
 obtain⟨h,hh⟩:=oJ H ha
 obtain⟨a',d,ha',hd,hat⟩:=H.hand hh
 rw[ha]at ha'
 cases ha'
 obtain⟨k1,k2,_⟩:=W.hk _ _ hh
 have hks:=W.ksz
 have hat0:=hat.1
 unfold hdF at hat0
 lia
 refine t6 hat (by omega) (fun q=>hbusy j h hi hh q) fun q ll d' G1 c1 l1 l2 h1 h2=>?_
 obtain⟨H1,to,cf⟩:=begun (ll:=ll) H ha hd c1 l1 h1
 have hll:=gX (bM h none)
 have hcn:(bM h none).cnt=h.cnt:=rfl
 lia
 refine sk (A:={A with da:=A.da.set j d'}) H1 h2 (by show st.row.length+_<=_;omega) fun G2 c2 H2=>?_
 lia
 exact hq j h hi hh q _ G2 (cf.trans (c2.mono (by intro n hn;simp at hn;subst hn;simp [Ad.foot]))) to H2
def DJ{i:Int}(H:bw G A st)(W:WF st)(hz:mea st<=800000)(hb:(i < 0\/(st.hs.length:Int)<=i)->E 1001 G)(hidle:∀(j:Nat) h,i=(j:Int)->st.hs[j]? =some h->h.atw=false->∀G',Chg [] G G'->E 1005 G')
 (hq:∀(j:Nat) h,i=(j:Int)->st.hs[j]? =some h->h.atw=true->∀G',Chg A.foot G G'->bw G' A {st with row:=newRow st h}->Q (.int ((bc h).length:Int)) G'):run (gm [.ref A.a,.int i]) G Q E:=by
 have ho:=H.o
 have hrl:=sW st
 walk_at "f"
 unfold jk
 lia
 refine iC H hb fun j a hi ha=>?_
 obtain⟨h,hh⟩:=oJ H ha
 obtain⟨a',d,ha',hd,hat⟩:=H.hand hh
 rw[ha]at ha'
 cases ha'
 obtain⟨k1,k2,_⟩:=W.hk _ _ hh
 have hks:=W.ksz
 have hat0:=hat.1
 unfold hdF at hat0
 lia
 refine tU hat (by omega) (fun q=>hidle j h hi hh q G (Chg.refl _ _)) fun q ll G1 x1 l1 h1=>?_
 have H1:=H.frame (S:=[]) x1.chg (by simp)
 have ho1:=H1.o
 have hll:=gX h
 lia
 refine sk H1 h1 (by omega) fun G2 c2 H2=>?_
 have hne:ll∉ [A.lr]:=fun z=>by
  have:=ax H.r
  simp at z
  omega
 lia
 refine cU (c2.get h1 hne) ?_
 rw[qM_]
 lia
 exact hq j h hi hh q G2 (x1.chg.trans (c2.mono (by intro n hn;simp at hn;subst hn;simp [Ad.foot]))) H2
def DG{i:Int}(H:bw G A st)(hb:(i < 0\/(st.hs.length:Int)<=i)->E 1001 G)(hidle:∀(j:Nat) h,i=(j:Int)->st.hs[j]? =some h->h.atw=false->E 1005 G)
 (hq:∀(j:Nat) h,i=(j:Int)->st.hs[j]? =some h->h.atw=true->∀G',Chg A.foot G G'->bw G' A {st with hs:=st.hs.set j {h with atw:=false}}->Q .non G'):run (gp [.ref A.a,.int i]) G Q E:=by
 have ho:=H.o
 walk_at "f"
 unfold iT
 lia
 refine iC H hb fun j a hi ha=>?_
 obtain⟨h,hh⟩:=oJ H ha
 obtain⟨a',d,ha',hd,hat⟩:=H.hand hh
 rw[ha]at ha'
 cases ha'
 have hat0:=hat.1
 unfold hdF at hat0
 lia
 refine yG hat (fun q=>hidle j h hi hh q) fun q G1 c1 h1=>?_
 have H1:=H.Hc ha hd (c1.mono (by simp)) (.inl rfl) h1
 have e1:A.da.set j d=A.da:=by
  obtain⟨l,e⟩:=qB_.mp hd
  rw[<-e];exact List.set_getElem_self l
 rw[e1]at H1
 lia
 exact hq j h hi hh q G1 (c1.mono (by intro n hn;simp at hn;subst hn;exact vb ha)) H1
def qB{i:Int}(H:bw G A st)(hb:(i < 0\/(st.ks.length:Int)<=i)->E 1002 G)
 (hq:∀(j:Nat) k,i=(j:Int)->st.ks[j]? =some k->∀G',Chg A.foot G G'->bw G' A {st with ks:=st.ks.set j {k with up:=false}}->Q (.bl k.up) G'):run (cO [.ref A.a,.int i]) G Q E:=by
 have ho:=H.o
 walk_at "f"
 unfold eD
 lia
 refine ke H hb fun j a hi ha=>?_
 obtain⟨k,hk⟩:=zp H ha
 have hka:=H.kr j a k ha hk
 have hka0:=hka
 unfold gx krF at hka0
 lia
 refine E6 hka fun G1 c1 h1=>?_
 lia
 exact hq j k hi hk G1 (c1.mono (by intro n hn;simp at hn;subst hn;exact xu ha)) (H.EI ha c1 h1)
def qD{i:Int}(H:bw G A st)(hb:(i < 0\/(st.ks.length:Int)<=i)->E 1002 G)
 (hq:∀(j:Nat) k,i=(j:Int)->st.ks[j]? =some k->∀G',Chg A.foot G G'->bw G' A {st with ks:=st.ks.set j {k with up:=true}}->Q (.bl (!k.up)) G'):run (cN [.ref A.a,.int i]) G Q E:=by
 have ho:=H.o
 walk_at "f"
 unfold eE
 lia
 refine ke H hb fun j a hi ha=>?_
 obtain⟨k,hk⟩:=zp H ha
 have hka:=H.kr j a k ha hk
 have hka0:=hka
 unfold gx krF at hka0
 lia
 refine ET hka fun G1 c1 h1=>?_
 lia
 exact hq j k hi hk G1 (c1.mono (by intro n hn;simp at hn;subst hn;exact xu ha)) (H.EI ha c1 h1)
end
def runN(sel:Hl->Option Nat):Nat->Hl->Hl×List (Nat×Pr)
 |0,st=>(st,[])
 |k+1,st=>match sel st with
  |none=>(st,[])
  |some p=>((runN sel k (aE st p false).1).1,(aE st p false).2++(runN sel k (aE st p false).1).2)
def Sel(sel:Hl->Option Nat):Prop:=∀st p,sel st=some p->p < st.row.length
def bD{st:Hl}(W:WF st){p:Nat}(hp:p < st.row.length):mea (aE st p false).1+1<=mea st:=by
 have:=uj W (s:=false) (qA_ hp)
 simpa using this
theorem jN{sel:Hl->Option Nat}(hs:Sel sel):∀(k:Nat) (st:Hl),WF st->mea st<=k->runN sel k st=runN sel (mea st) st
 |0,st,W,h=>by rw[Nat.le_zero.mp h]
 |k+1,st,W,h=>by
  have key:∀m,mea st<=m+1->m<=k->runN sel (m+1) st=match sel st with
   |none=>(st,[])
   |some p=>((runN sel (mea (aE st p false).1) (aE st p false).1).1,(aE st p false).2++(runN sel (mea (aE st p false).1) (aE st p false).1).2):=by
   intro m hm hmk
   show (match sel st with
    |none=>(st,[])
    |some p=>((runN sel m (aE st p false).1).1,(aE st p false).2++(runN sel m (aE st p false).1).2))=_
   cases q:sel st with
   |none=>rfl
   |some p=>
    dsimp only
    have h1:=bD W (hs st p q)
    have ih:=jN hs k (aE st p false).1 (gn W p false) (by omega)
    rcases Nat.lt_or_ge m k with z |z
    · have ih2:runN sel m (aE st p false).1=runN sel (mea (aE st p false).1) (aE st p false).1:=by
       have a1:=jN hs m (aE st p false).1 (gn W p false) (by omega)
       exact a1
      rw[ih2]
    · have:m=k:=by omega
      rw[this,ih]
  rw[key k h (qO_ _)]
  cases q:mea st with
  |zero=>
   cases qs:sel st with
   |none=>rfl
   |some p=>
    have h1:=bD W (hs st p qs)
    omega
  |succ m=>
   rw[key m (by omega) (by omega)]
 termination_by k=>k
def bj(sel:Hl->Option Nat)(st:Hl):Hl×List (Nat×Pr):=runN sel (mea st) st
def cg{sel:Hl->Option Nat}{st:Hl}(h:sel st=none):bj sel st=(st,[]):=by
 unfold bj
 cases mea st with
 |zero=>rfl
 |succ k=>show (match sel st with |none=>(st,[]) |some p=>_)=_;rw[h]
def gw{sel:Hl->Option Nat}(hs:Sel sel){st:Hl}(W:WF st){p:Nat}(h:sel st=some p):bj sel st=((bj sel (aE st p false).1).1,(aE st p false).2++(bj sel (aE st p false).1).2):=by
 unfold bj
 have h1:=bD W (hs st p h)
 cases q:mea st with
 |zero=>omega
 |succ k=>
  show (match sel st with |none=>(st,[]) |some p=>_)=_
  rw[h]
  dsimp only
  rw[jN hs k _ (gn W p false) (by omega)]
def k6(st:Hl)(p:Nat)(s:Bool):(aE st p s).2.length<=1:=by
 unfold aE
 split
 · simp
 · split
   · simp
   · dsimp only;split <;> simp
 · split <;> simp
def mY{sel:Hl->Option Nat}(hs:Sel sel):∀(n:Nat) (st:Hl),WF st->mea st<=n->(bj sel st).2.length<=mea st:=by
 intro n
 induction n with
 |zero=>
  intro st W h
  cases q:sel st with
  |none=>rw[cg q];simp
  |some p=>have:=bD W (hs st p q);omega
 |succ n ih=>
  intro st W h
  cases q:sel st with
  |none=>rw[cg q];simp
  |some p=>
   have h1:=bD W (hs st p q)
   have h2:=ih (aE st p false).1 (gn W p false) (by omega)
   have h3:=k6 st p false
   rw[gw hs W q]
   dsimp only
   rw[qN_]
   omega
def aD(st:Hl):Option Nat:=if st.row=[]then none else some 0
def bF:Sel aD:=fun st p h=>by
 unfold aD at h
 split at h
 · cases h
 · rename_i hn
   cases h
   cases q:st.row with
   |nil=>exact absurd q hn
   |cons _ _=>simp
def rk(i j:Nat)(e:Bool×Lt):Bool:=decide (e.2.hand=i)&&decide (e.2.kpr=j)
def cx(i j:Nat)(st:Hl):Option Nat:=st.row.findIdx? (rk i j)
def cL(i j:Nat):Sel (cx i j):=fun st p h=>by
 unfold cx at h
 exact(List.findIdx?_eq_some_iff_getElem.mp h).1
section
variable{G:Hh}{Q:D->Hh->Prop}{E:Nat->Hh->Prop}{A:Ad}{st:Hl}
def oN:Option Nat->D
 |none=>.non
 |some p=>.int (p:Int)
def jF{i j:Nat}(H:bw G A st)(hq:Q (oN (cx i j st)) G):run (bN [.ref A.a,.int (i:Int),.int (j:Int)]) G Q E:=by
 have ho:=H.o
 walk_at "f"
 unfold du
 lia
 refine C7 H.r ?_
 refine pX (xs:=ir (st.row.map enD)) (fun k σ G'=>G'=G/\(∀x∈st.row.take k,rk i j x=false)/\∃x y,σ=[some (.ref A.a),some (.int (i:Int)),some (.int (j:Int)),x,y]) ?_ ?_ ?_ _ 0 _ _ List.drop_zero (qf_ _) ⟨rfl,by simp,none,none,rfl⟩
 · rintro k σ G' ⟨rfl,_⟩
   exact qZ_ H.r
 · rintro k x σ G' hx ⟨rfl,hP,_,_,rfl⟩
   obtain⟨z,hz,rfl⟩:=yQ hx
   obtain⟨e,he,rfl⟩:=oA hz
   have hsplit:st.row.take (k+1)=st.row.take k++[e]:=take_succ he
   unfold enD ltD
   lia
   refine aG (a:=D.tup [D.int (e.2.hand:Int),D.int (e.2.kpr:Int)]) (G':=G') rfl ?_
   lia
   refine w_eq (b:=rk i j e) ?_ ?_
   · show some ((decide ((e.2.hand:Int)=(i:Int))&&(decide ((e.2.kpr:Int)=(j:Int))&&true))&&decide (2=2))=some (rk i j e)
     unfold rk
     congr 1
     have a1:decide ((e.2.hand:Int)=(i:Int))=decide (e.2.hand=i):=decide_eq_decide.mpr (by omega)
     have a2:decide ((e.2.kpr:Int)=(j:Int))=decide (e.2.kpr=j):=decide_eq_decide.mpr (by omega)
     rw[a1,a2]
     simp
   lia
   cases q:rk i j e with
   |true=>
    lia
    have:cx i j st=some k:=by
     unfold cx
     rw[List.findIdx?_eq_some_iff_getElem]
     obtain⟨hl,ee⟩:=qB_.mp he
     refine⟨hl,by rw[ee];exact q,fun m hm=>?_⟩
     have hml:m < st.row.length:=by omega
     have:=hP st.row[m] (qD_ (i:=m) (by rw[List.getElem?_take,if_pos hm,qA_ hml]))
     rw[this];exact qC_
    rw[this]at hq
    exact hq
   |false=>
    lia
    refine⟨rfl,fun x hx=>?_,_,_,rfl⟩
    rw[hsplit]at hx
    rcases qG_.mp hx with z |z
    · exact hP x z
    · simp at z;rw[z];exact q
 · rintro σ G' ⟨rfl,hP,_,_,rfl⟩
   lia
   have:cx i j st=none:=by
    unfold cx
    rw[List.findIdx?_eq_none_iff]
    intro x hx
    refine hP x ?_
    have:=y7 (xs:=st.row.map enD)
    rw[qM_]at this
    show x∈st.row.take (ir (st.row.map enD)).length
    rw[this,List.take_length]
    exact hx
   rw[this]at hq
   exact hq
def DO{n:Int}{s:Bool}(H:bw G A st)(W:WF st)(hz:mea st<=800000)(hb:st.row=[]->E 1003 G)
 (hq:∀p:Nat,p=(n % (st.row.length:Int)).toNat->p < st.row.length->∀le A' G',Chg A.foot G G'->A.To A' G.length->G.length<=le->bw G' A' (aE st p s).1->G'[le]? =some (.lst ((aE st p s).2.map qb))->Q (.ref le) G'):run (gr [.ref A.a,.int n,.bl s]) G Q E:=by
 have ho:=H.o
 walk_at "f"
 unfold iN
 lia
 refine aG (a:=!(st.row.map enD).isEmpty) (G':=G) ?_ ?_
 · unfold truth
   dsimp only
   rw[H.r]
 cases q:st.row with
 |nil=>
  rw[q]at hb
  lia
  exact hb rfl
 |cons e r=>
  refine w_ite (fun c=>by cases c) fun _=>?_
  lia
  refine cU H.r ?_
  rw[qM_]
  have hpos:0 < (st.row.length:Int):=by rw[q,List.length_cons];omega
  lia
  refine iO hpos ?_
  have h1:=Int.emod_nonneg n (show (st.row.length:Int)≠0 by omega)
  have h2:=Int.emod_lt_of_pos n hpos
  have hp:(n % (st.row.length:Int)).toNat < st.row.length:=by omega
  have e1:n % (st.row.length:Int)=(((n % (st.row.length:Int)).toNat:Nat):Int):=by omega
  lia
  rw[e1]
  refine vU (p:=(n % (st.row.length:Int)).toNat) H W (qA_ hp) hz fun le A' G' c to l h3 h4=>?_
  lia
  exact hq _ rfl hp le A' G' c to l h3 h4
structure Lp (sel:Hl->Option Nat) (G0:Hh) (A:Ad) (st:Hl) (le:Nat) (G:Hh) (A':Ad) (st':Hl) (acc:List (Nat×Pr)):Prop where
 H:bw G A' st'
 W:WF st'
 m:mea st'<=mea st
 l:G[le]? =some (.lst (acc.map qb))
 r1:(bj sel st').1=(bj sel st).1
 r2:acc++(bj sel st').2=(bj sel st).2
 c:Chg A.foot G0 G
 to:A.To A' G0.length
 nf:le∉A'.foot
 ge:G0.length<=le
def Lp.start{sel:Hl->Option Nat}{G1:Hh}(H:bw G A st)(W:WF st)(c1:Chg [] G G1)(h1:G1[G.length]? =some (.lst [])):Lp sel G A st G.length G1 A st []:=
 ⟨H.frame c1 (by simp),W,qO_ _,h1,rfl,rfl,c1.mono (by simp),Ad.To.refl _ _,fun z=>by have:=H.lt _ z;omega,qO_ _⟩
def Lp.step{sel:Hl->Option Nat}(hs:Sel sel){G0:Hh}{le ln p:Nat}{A' A2:Ad}{st':Hl}{acc:List (Nat×Pr)}{G1 G2:Hh}(L:Lp sel G0 A st le G A' st' acc)(hp:sel st'=some p)
 (c1:Chg A'.foot G G1) (to:A'.To A2 G.length) (H2:bw G1 A2 (aE st' p false).1) (c2:Chg [le] G1 G2) (h2:G2[le]? =some (.lst ((acc++(aE st' p false).2).map qb))):Lp sel G0 A st le G2 A2 (aE st' p false).1 (acc++(aE st' p false).2):=by
 have h1:=bD L.W (hs st' p hp)
 have hr:=gw hs L.W hp
 have g:=L.c.1
 have gl:=ax L.l
 have nf2:le∉A2.foot:=fun z=>(to.foot le z).elim L.nf fun w=>by omega
 refine⟨H2.frame c2 (by intro n hn;simp at hn;rw[hn];exact nf2),gn L.W p false,by have:=L.m;omega,h2,?_,?_,?_,L.to.trans to g,nf2,L.ge⟩
 · rw[<-L.r1,hr]
 · rw[<-L.r2,hr,List.append_assoc]
 · refine(L.c.trans' c1 fun n hn=>L.to.foot n hn).trans' c2 fun n hn=>?_
   simp at hn
   rw[hn]
   exact .inr L.ge
def DS(H:bw G A st)(W:WF st)(hz:mea st<=800000)(hq:∀le A' G',Chg A.foot G G'->A.To A' G.length->G.length<=le->le∉A'.foot->bw G' A' (bj aD st).1->G'[le]? =some (.lst ((bj aD st).2.map qb))->Q (.ref le) G'):run (gh [.ref A.a]) G Q E:=by
 have hlen:=mY bF (mea st) st W (qO_ _)
 walk_at "f"
 unfold jy
 refine aA (ba (dM fun G1 c1 l1 h1=>w_next ?_))
 walk_at "s"
 refine aA (uD (m:=mea st) (fun σ G' m=>∃A' st' acc,m=mea st'/\σ=[some (.ref A.a),some (.ref G.length)]/\Lp aD G A st G.length G' A' st' acc) ?_ (by omega) ⟨A,st,[],rfl,rfl,Lp.start H W c1 h1⟩)
 rintro σ G' m ⟨A',st',acc,rfl,rfl,L⟩
 have ho:G'[A.a]? =some (.ins 2 [(9,.ref A'.lk),(10,.ref A'.lh),(11,.ref A'.lr)]):=by rw[<-L.to.a];exact L.H.o
 have hlr:=L.H.r
 refine iu (w_fld (w_var rfl (aZ ho (by decide) rfl ?_)))
 refine aG (a:=!(st'.row.map enD).isEmpty) (G':=G') ?_ ?_
 · unfold truth
   dsimp only
   rw[hlr]
 cases q:st'.row with
 |nil=>
  rw[List.map_nil]
  refine(if_neg (show ¬(!([]:List D).isEmpty)=true by decide)).mpr ?_
  refine w_next ?_
  have hs:aD st'=none:=by unfold aD;rw[if_pos q]
  have hr:=cg hs
  have r1:=L.r1
  have r2:=L.r2
  rw[hr]at r1 r2
  dsimp only at r1 r2
  rw[qY_]at r2
  lia
  have HH:=L.H
  rw[r1]at HH
  have ll:=L.l
  rw[r2]at ll
  exact hq _ A' G' L.c L.to L.ge L.nf HH ll
 |cons e r=>
  refine(if_pos (show (!(List.map enD (e :: r)).isEmpty)=true from rfl)).mpr ?_
  have hs:aD st'=some 0:=by unfold aD;rw[if_neg (by rw[q];simp)]
  have h0:st'.row[0]? =some e:=by rw[q];rfl
  have hm:=L.m
  have acl:acc.length<=800000:=by
   have:=congrArg List.length L.r2
   rw[qN_]at this
   omega
  have hend:=k6 st' 0 false
  refine cJ (uN (w_var rfl (iM L.l (bq (w_var rfl (bX ho (ah (w_c (ah (w_c (ay ?_)))))))))))
  rw[<-L.to.a]
  refine vU (p:=0) (s:=false) L.H L.W h0 (by omega) fun ln A2 G2 c2 to l2 H2 h2=>?_
  have hle2:=c2.get L.l L.nf
  refine gJ hle2 h2 (by simp [aC];omega) fun G3 c3 l3 h3=>?_
  rw[<-qT_]at h3
  have L2:=L.step (ln:=ln) bF hs c2 to H2 c3 h3
  have:=bD L.W (bF st' 0 hs)
  exact⟨mea (aE st' 0 false).1,by omega,A2,_,_,rfl,by rw[L.to.a],L2⟩
def om{i j:Int}(H:bw G A st)(W:WF st)(hz:mea st<=800000)(hb:(i < 0\/(st.hs.length:Int)<=i)->E 1001 G)(hb2:¬(i < 0\/(st.hs.length:Int)<=i)->(j < 0\/(st.ks.length:Int)<=j)->E 1002 G)
 (hq:∀p k:Nat,i=(p:Int)->j=(k:Int)->p < st.hs.length->k < st.ks.length->∀le A' G',Chg A.foot G G'->A.To A' G.length->G.length<=le->le∉A'.foot->bw G' A' (bj (cx p k) st).1->G'[le]? =some (.lst ((bj (cx p k) st).2.map qb))->Q (.ref le) G'):run (cj [.ref A.a,.int i,.int j]) G Q E:=by
 have ho0:=H.o
 walk_at "f"
 unfold dq
 refine aA (cJ (bq (w_var rfl (bX ho0 (ah (w_var rfl (ay ?_)))))))
 refine iC H hb fun p a hi ha=>?_
 have hpl:p < st.hs.length:=by rw[<-H.hl];exact(qB_.mp ha).1
 refine w_next ?_
 refine aA (cJ (bq (w_var rfl (bX ho0 (ah (w_var rfl (ay ?_)))))))
 refine ke H (hb2 (by omega)) fun k a2 hj ha2=>?_
 have hkl:k < st.ks.length:=by rw[<-H.kl];exact(qB_.mp ha2).1
 subst hi hj
 have hq:=hq p k rfl rfl hpl hkl
 have hlen:=mY (cL p k) (mea st) st W (qO_ _)
 refine w_next ?_
 refine aA (ba (dM fun G1 c1 l1 h1=>w_next ?_))
 walk_at "s"
 have H1:=H.frame c1 (by simp)
 refine aA (ba (bq (w_var rfl (bX H1.o (ah (w_var rfl (ah (w_var rfl (ay ?_)))))))))
 refine jF H1 ?_
 refine w_next ?_
 walk_at "s"
 refine aA (uD (m:=mea st) (fun σ G' m=>∃A' st' acc,m=mea st'/\σ=[some (.ref A.a),some (.int (p:Int)),some (.int (k:Int)),some (.ref G.length),some (oN (cx p k st'))]/\Lp (cx p k) G A st G.length G' A' st' acc) ?_ (by omega) ⟨A,st,[],rfl,rfl,Lp.start H W c1 h1⟩)
 rintro σ G' m ⟨A',st',acc,rfl,rfl,L⟩
 have ho:G'[A.a]? =some (.ins 2 [(9,.ref A'.lk),(10,.ref A'.lh),(11,.ref A'.lr)]):=by rw[<-L.to.a];exact L.H.o
 refine ib (ot (w_var rfl (m8 (fV ?_))))
 cases hs:cx p k st' with
 |none=>
  refine(if_neg (show ¬(!decide (oN none=D.non))=true by decide)).mpr ?_
  refine w_next ?_
  have hr:=cg hs
  have r1:=L.r1
  have r2:=L.r2
  rw[hr]at r1 r2
  dsimp only at r1 r2
  rw[qY_]at r2
  lia
  have HH:=L.H
  rw[r1]at HH
  have ll:=L.l
  rw[r2]at ll
  exact hq _ A' G' L.c L.to L.ge L.nf HH ll
 |some q=>
  refine(if_pos (show (!decide (oN (some q)=D.non))=true from rfl)).mpr ?_
  have hql:=cL p k st' q hs
  have h0:st'.row[q]? =some st'.row[q]:=qA_ hql
  have hm:=L.m
  have acl:acc.length<=800000:=by
   have:=congrArg List.length L.r2
   rw[qN_]at this
   omega
  have hend:=k6 st' q false
  refine aA (cJ (uN (w_var rfl (iM L.l (bq (w_var rfl (bX ho (ah (w_var rfl (ah (w_c (ay ?_))))))))))))
  rw[<-L.to.a]
  refine vU (p:=q) (s:=false) L.H L.W h0 (by omega) fun ln A2 G2 c2 to l2 H2 h2=>?_
  have hle2:=c2.get L.l L.nf
  refine gJ hle2 h2 (by simp [aC];omega) fun G3 c3 l3 h3=>?_
  rw[<-qT_]at h3
  have L2:=L.step (ln:=ln) (cL p k) hs c2 to H2 c3 h3
  have lm:=bD L.W (cL p k st' q hs)
  refine w_next ?_
  have ho2:G3[A'.a]? =some (.ins 2 [(9,.ref A2.lk),(10,.ref A2.lh),(11,.ref A2.lr)]):=by rw[L.to.a,<-L2.to.a];exact L2.H.o
  refine ba (bq (w_var rfl (bX ho2 (ah (w_var rfl (ah (w_var rfl (ay ?_))))))))
  rw[L.to.a,<-L2.to.a]
  refine jF L2.H ?_
  exact⟨mea (aE st' q false).1,by omega,A2,_,_,rfl,by walk_at "s",L2⟩
end
def word(b:Bool):Str:=if b then "read" else "write"
def stD:Option (Int×Int)->D
 |none=>.non
 |some s=>.tup [.int s.1,.int s.2]
structure Wk where
 hand:Nat
 rd:Bool
 val:Option Int
 beg:Nat
 en:Option Nat
 lI:Option (Int×Int)
def nD:Option Nat->D
 |none=>.non
 |some n=>.int (n:Int)
def wkF(w:Wk):List (Nat×D):=[(12,.int (w.hand:Int)),(13,.str (word w.rd)),(3,oD w.val),(14,.int (w.beg:Int)),(15,nD w.en),(16,stD w.lI)]
def nr(G:Hh)(a:Nat)(w:Wk):Prop:=G[a]? =some (.ins 3 (wkF w))
def dh(w:Wk):D:= .tup [.int (w.hand:Int),.str (word w.rd),oD w.val,.int (w.beg:Int),nD w.en]
structure Sy where
 af:Hl
 ak:List Wk
 last:List (Nat×Nat)
 aK:Nat
structure Sd where
 s:Nat
 lw:Nat
 ld:Nat
 wa:List Nat
 A:Ad
def gd(l:List (Nat×Nat)):List (Key×D):=l.map fun e=>(.inl (e.1:Int),.int (e.2:Int))
def Sd.own(S:Sd):List Nat:=[S.s,S.lw,S.ld]++S.wa
structure cq (G:Hh) (S:Sd) (y:Sy):Prop where
 o:G[S.s]? =some (.ins 4 [(17,.ref S.A.a),(18,.ref S.lw),(19,.ref S.ld),(20,.int (y.aK:Int))])
 w:G[S.lw]? =some (.lst (refs S.wa))
 d:G[S.ld]? =some (.dK (gd y.last))
 wl:S.wa.length=y.ak.length
 wk:∀(i:Nat) a w,S.wa[i]? =some a->y.ak[i]? =some w->nr G a w
 H:bw G S.A y.af
 nd:S.own.Nodup
 dj:∀x∈S.own,x∉S.A.foot
structure SWF (y:Sy):Prop where
 W:WF y.af
 la:∀e∈y.last,e.1 < y.af.hs.length/\e.2 < y.ak.length
 nd:(y.last.map (·.1)).Nodup
 atw:∀(i:Nat) h,y.af.hs[i]? =some h->h.atw=true->i∈y.last.map (·.1)
section
variable{G G':Hh}{Q:D->Hh->Prop}{E:Nat->Hh->Prop}{S:Sd}{y:Sy}
def cq.lt(Y:cq G S y):∀n∈S.own,n < G.length:=by
 intro n hn
 unfold Sd.own at hn
 rcases qG_.mp hn with z |z
 · simp only[qS_,List.not_mem_nil,or_false]at z
   rcases z with rfl |rfl |rfl
   · exact ax Y.o
   · exact ax Y.w
   · exact ax Y.d
 · obtain⟨i,hi,e⟩:=List.getElem_of_mem z
   have h1:S.wa[i]? =some n:=by rw[qA_ hi,e]
   have h2:i < y.ak.length:=by rw[<-Y.wl];exact hi
   exact ax (Y.wk i n _ h1 (qA_ h2))
def uw{i a:Nat}(h:S.wa[i]? =some a):a∈S.own:=by unfold Sd.own;simp [qD_ h]
def iI(nd:S.own.Nodup):S.s≠S.lw/\S.s≠S.ld/\S.lw≠S.ld/\S.wa.Nodup/\∀x∈S.wa,x≠S.s/\x≠S.lw/\x≠S.ld:=by
 unfold Sd.own at nd
 rw[List.nodup_append]at nd
 obtain⟨n1,n2,n3⟩:=nd
 simp only[List.nodup_cons,qS_,List.not_mem_nil,or_false,not_or]at n1
 obtain⟨⟨a1,a2⟩,a3,_⟩:=n1
 exact⟨a1,a2,a3,n2,fun x hx=>⟨fun z=>n3 S.s (by simp) x hx z.symm,fun z=>n3 S.lw (by simp) x hx z.symm,fun z=>n3 S.ld (by simp) x hx z.symm⟩⟩
theorem cq.af{A':Ad}{st:Hl}(Y:cq G S y)(c:Chg S.A.foot G G')(to:S.A.To A' G.length)(H:bw G' A' st):cq G' {S with A:=A'} {y with af:=st}:=by
 have ns:∀x∈S.own,x∉S.A.foot:=Y.dj
 refine⟨?_,c.get Y.w (ns _ (by simp [Sd.own])),c.get Y.d (ns _ (by simp [Sd.own])),Y.wl,fun i a w h1 h2=>c.get (Y.wk i a w h1 h2) (ns _ (uw h1)),H,Y.nd,fun x hx z=>?_⟩
 · show G'[S.s]? =some (.ins 4 [(17,.ref A'.a),(18,.ref S.lw),(19,.ref S.ld),(20,.int (y.aK:Int))])
   rw[to.a]
   exact c.get Y.o (ns _ (by simp [Sd.own]))
 · rcases to.foot x z with w |w
   · exact Y.dj x hx w
   · have:=Y.lt x hx;omega
def cq.HY{i a:Nat}{w:Wk}(Y:cq G S y)(hi:S.wa[i]? =some a)(c:Chg [a] G G')(hw:nr G' a w):cq G' S {y with ak:=y.ak.set i w}:=by
 obtain⟨_,_,_,nw,q⟩:=iI Y.nd
 have ha:=qD_ hi
 obtain⟨e1,e2,e3⟩:=q a ha
 have ns:∀n,n≠a->n∉ [a]:=fun n h z=>h (by simpa using z)
 refine⟨c.get Y.o (ns _ (Ne.symm e1)),c.get Y.w (ns _ (Ne.symm e2)),c.get Y.d (ns _ (Ne.symm e3)),by simp [Y.wl],fun j b v h1 h2=>?_,Y.H.frame c (by intro n hn;simp at hn;rw[hn];exact Y.dj a (uw hi)),Y.nd,Y.dj⟩
 by_cases z:j=i
 · subst z
   rw[hi]at h1
   cases h1
   have:j < y.ak.length:=by rw[<-Y.wl];exact(qB_.mp hi).1
   have h2:(y.ak.set j w)[j]? =some v:=h2
   rw[qU_ this]at h2
   cases h2
   exact hw
 · have h2:(y.ak.set i w)[j]? =some v:=h2
   rw[qV_ (Ne.symm z)]at h2
   refine c.get (Y.wk j b v h1 h2) (ns _ fun w=>z ?_)
   subst w
   exact get_inj nw h1 hi
theorem cq.frame{T:List Nat}(Y:cq G S y)(c:Chg T G G')(hs:∀n∈T,n∉S.own/\n∉S.A.foot):cq G' S y:=by
 have ns:∀x∈S.own,x∉T:=fun x hx z=>(hs x z).1 hx
 exact⟨c.get Y.o (ns _ (by simp [Sd.own])),c.get Y.w (ns _ (by simp [Sd.own])),c.get Y.d (ns _ (by simp [Sd.own])),Y.wl,fun i a w h1 h2=>c.get (Y.wk i a w h1 h2) (ns _ (uw h1)),Y.H.frame c fun n hn=>(hs n hn).2,Y.nd,Y.dj⟩
def qT{l:List (Nat×Nat)}{i p:Nat}(nd:(l.map (·.1)).Nodup)(h:(i,p)∈l):look (gd l) (.inl (i:Int))=some (.int (p:Int)):=by
 induction l with
 |nil=>cases h
 |cons e r ih=>
  obtain⟨k,q⟩:=e
  rw[List.map_cons,List.nodup_cons]at nd
  unfold gd look
  rw[List.map_cons,List.find?_cons]
  by_cases z:k=i
  · subst z
    rcases qS_.mp h with w |w
    · cases w
      rw[qZ_ rfl]
      rfl
    · exact absurd (qH_.mpr ⟨_,w,rfl⟩) nd.1
  · have zz:¬((Sum.inl (k:Int):Key)= .inl (i:Int)):=fun w=>z (by have:=Sum.inl.inj w;omega)
    rw[qa_ zz]
    rcases qS_.mp h with w |w
    · cases w;exact absurd rfl z
    · exact ih nd.2 w
def putL(l:List (Nat×Nat))(k p:Nat):List (Nat×Nat):=if (l.any fun e=>decide (e.1=k))then l.map fun e=>if e.1=k then (e.1,p)else e else l++[(k,p)]
def Fv(l:List (Nat×Nat))(k p:Nat):put (gd l) (.inl (k:Int)) (.int (p:Int))=gd (putL l k p):=by
 have key:∀e:Nat×Nat,decide ((Sum.inl (e.1:Int):Key)= .inl (k:Int))=decide (e.1=k):=fun e=>decide_eq_decide.mpr ⟨fun z=>by have:=Sum.inl.inj z;omega,fun z=>by rw[z]⟩
 unfold put putL
 have e1:((gd l).any fun kv=>decide (kv.1=(.inl (k:Int):Key)))=l.any fun e=>decide (e.1=k):=by
  unfold gd
  rw[List.any_map]
  congr 1
  funext e
  exact key e
 rw[e1]
 by_cases c:(l.any fun e=>decide (e.1=k))=true
 · rw[if_pos c,if_pos c]
   unfold gd
   rw[qb_,qb_]
   apply List.map_congr_left
   intro e _
   by_cases z:e.1=k
   · have z':(Sum.inl (e.1:Int):Key)= .inl (k:Int):=by rw[z]
     show (if (Sum.inl (e.1:Int):Key)= .inl (k:Int)then ((Sum.inl (e.1:Int):Key),D.int (p:Int))else (Sum.inl (e.1:Int),D.int (e.2:Int)))=(Sum.inl ((if e.1=k then (e.1,p)else e).1:Int),D.int ((if e.1=k then (e.1,p)else e).2:Int))
     rw[if_pos z',if_pos z]
   · have z':¬(Sum.inl (e.1:Int):Key)= .inl (k:Int):=fun w=>z (by have:=Sum.inl.inj w;omega)
     show (if (Sum.inl (e.1:Int):Key)= .inl (k:Int)then ((Sum.inl (e.1:Int):Key),D.int (p:Int))else (Sum.inl (e.1:Int),D.int (e.2:Int)))=(Sum.inl ((if e.1=k then (e.1,p)else e).1:Int),D.int ((if e.1=k then (e.1,p)else e).2:Int))
     rw[if_neg z',if_neg z]
 · rw[if_neg c,if_neg c]
   unfold gd
   rw[qT_]
   rfl
def uF{i b:Nat}{rd:Bool}{v:Option Int}{a:Nat}(ha:G[a]? =some (.ins 3 []))(hq:∀G',Chg [a] G G'->nr G' a ⟨i,rd,v,b,none,none⟩->Q .non G'):run (gU [.ref a,.int (i:Int),.str (word rd),oD v,.int (b:Int)]) G Q E:=by
 walk_at "f"
 unfold kj
 lia
 refine aM ha ⟨by decide,qP_ rfl⟩ fun G1 c1 l1 h1=>?_
 lia
 refine aM h1 ⟨by decide,qP_ rfl⟩ fun G2 c2 l2 h2=>?_
 lia
 refine aM h2 ⟨by decide,qP_ rfl⟩ fun G3 c3 l3 h3=>?_
 lia
 refine aM h3 ⟨by decide,qP_ rfl⟩ fun G4 c4 l4 h4=>?_
 lia
 refine aM h4 ⟨by decide,qP_ rfl⟩ fun G5 c5 l5 h5=>?_
 lia
 refine aM h5 ⟨by decide,qP_ rfl⟩ fun G6 c6 l6 h6=>?_
 lia
 exact hq G6 (((((c1.trans c2).trans c3).trans c4).trans c5).trans c6) h6
def gO(y:Sy)(i:Nat)(rd:Bool)(v:Option Int):Sy:={y with ak:=y.ak++[⟨i,rd,v,y.aK,none,none⟩],last:=putL y.last i y.ak.length}
def A7{l:List (Nat×Nat)}{k p:Nat}{e:Nat×Nat}(h:e∈putL l k p):e=(k,p)\/e∈l:=by
 unfold putL at h
 split at h
 · obtain⟨x,hx,ex⟩:=qH_.mp h
   split at ex
   · rename_i z;subst ex;rw[z];exact .inl rfl
   · subst ex;exact .inr hx
 · rcases qG_.mp h with z |z
   · exact .inr z
   · simp at z;rw[z];exact .inl rfl
def nS{i:Nat}{rd:Bool}{v:Option Int}(Y:cq G S y)(hz:y.ak.length<=1000)(hz2:y.last.length<=1000)(hq:∀a G',Chg (S.own++S.A.foot) G G'->G.length<=a->cq G' {S with wa:=S.wa++[a]} (gO y i rd v)->Q (.int (y.ak.length:Int)) G'):run (cm [.ref S.s,.int (i:Int),.str (word rd),oD v]) G Q E:=by
 obtain⟨n1,n2,n3,n4,n5⟩:=iI Y.nd
 have ho:=Y.o
 walk_at "f"
 unfold eZ
 lia
 refine cU Y.w ?_
 rw[show (refs S.wa).length=S.wa.length from qM_ _,Y.wl]
 lia
 refine iM Y.w ?_
 refine kQ (ah (w_var rfl (ah (w_var rfl (ah (w_var rfl (ah (w_fld (w_var rfl (aZ ho (by decide) rfl (ay ?_)))))))))))
 intro G1 c1 l1 h1
 refine uF h1 fun G2 c2 h2=>⟨rfl,?_⟩
 have nw:∀x∈S.own,x∉ [G.length]:=fun x hx z=>by have:=Y.lt x hx;simp at z;omega
 have w2:=c2.get (c1.get Y.w (by simp)) (nw _ (by simp [Sd.own]))
 refine fz w2 (by rw[show (refs S.wa).length=S.wa.length from qM_ _,Y.wl];unfold aC;omega) fun G3 c3 l3 h3=>?_
 have c12:Chg [] G G2:=(c1.trans' c2 (by intro n hn;simp at hn;rw[hn];exact .inr (qO_ _)))
 have Y2:=Y.frame c12 (by simp)
 have nlw:∀x,x≠S.lw->x∉ [S.lw]:=fun x h z=>h (by simpa using z)
 have o3:=c3.get Y2.o (nlw _ n1)
 have d3:=c3.get Y2.d (nlw _ (Ne.symm n3))
 lia
 refine xl d3 rfl (by unfold gd;rw[qM_];unfold aC;omega) fun G4 c4 l4 h4=>?_
 rw[Fv]at h4
 lia
 have g12:=c12.1
 have nld:∀x,x≠S.ld->x∉ [S.ld]:=fun x h z=>h (by simpa using z)
 have lwlt:=ax Y.w
 have ldlt:=ax Y.d
 refine hq G.length G4 ?_ (qO_ _) ⟨c4.get o3 (nld _ n2),?_,h4,by simp [gO,Y.wl],fun j b w e1 e2=>?_,?_,?_,fun x hx z=>?_⟩
 · refine((c12.mono (by simp)).trans (c3.mono ?_)).trans (c4.mono ?_)
   · intro n hn;simp at hn;rw[hn];simp [Sd.own]
   · intro n hn;simp at hn;rw[hn];simp [Sd.own]
 · have:=c4.get h3 (nld _ n3)
   show G4[S.lw]? =some (.lst (refs (S.wa++[G.length])))
   rw[this]
   unfold refs
   rw[qT_]
   rfl
 · have e1:(S.wa++[G.length])[j]? =some b:=e1
   have e2:(y.ak++[⟨i,rd,v,y.aK,none,none⟩])[j]? =some w:=e2
   by_cases hj:j < S.wa.length
   · rw[qK_ hj]at e1
     rw[qK_ (by rw[<-Y.wl];exact hj)]at e2
     have q:=n5 b (qD_ e1)
     exact c4.get (c3.get (Y2.wk j b w e1 e2) (nlw _ q.2.1)) (nld _ q.2.2)
   · have hj2:j=S.wa.length:=by
      have:=(qB_.mp e1).1
      simp at this
      omega
     subst hj2
     simp at e1
     rw[Y.wl]at e2
     simp at e2
     subst e1 e2
     exact c4.get (c3.get h2 (nlw _ (by omega))) (nld _ (by omega))
 · exact((Y2.H.frame c3 (by intro n hn;simp at hn;rw[hn];exact Y.dj _ (by simp [Sd.own]))).frame c4 (by intro n hn;simp at hn;rw[hn];exact Y.dj _ (by simp [Sd.own])))
 · have nd:=Y.nd
   unfold Sd.own at nd ⊢
   dsimp only
   rw[<-List.append_assoc,List.nodup_append]
   refine⟨nd,by simp,fun x hx z hz w=>?_⟩
   simp at hz
   have:=Y.lt x hx
   omega
 · unfold Sd.own at hx
   dsimp only at hx
   rw[<-List.append_assoc]at hx
   rcases qG_.mp hx with w |w
   · exact Y.dj x w z
   · simp at w
     have:=Y.H.lt x z
     omega
end
def lastOf(l:List (Nat×Nat))(i:Nat):Nat:=((l.find? fun e=>decide (e.1=i)).map (·.2)).getD 0
def pj{l:List (Nat×Nat)}{i:Nat}(h:i∈l.map (·.1)):(i,lastOf l i)∈l:=by
 unfold lastOf
 cases q:l.find? fun e=>decide (e.1=i)with
 |none=>
  obtain⟨e,he,ee⟩:=qH_.mp h
  exact absurd (qZ_ ee) (List.find?_eq_none.mp q e he)
 |some e=>
  have h1:=List.find?_some q
  have h2:=List.mem_of_find?_eq_some q
  have h3:e.1=i:=of_decide_eq_true h1
  show (i,e.2)∈l
  rw[<-h3]
  exact h2
def iL(y:Sy)(q:Nat)(f:Wk->Wk):Sy:=match y.ak[q]? with
 |none=>y
 |some w=>{y with ak:=y.ak.set q (f w)}
def yP(y:Sy)(p:Pr)(w:Wk):Wk:={w with val:=some p.2,en:=some y.aK}
def gG(y:Sy)(e:Nat×Pr):Sy:=iL y (lastOf y.last e.1) (yP y e.2)
def bV(y:Sy)(es:List (Nat×Pr)):Sy:=es.foldl gG y
def iP(y:Sy)(q:Nat)(f:Wk->Wk):(iL y q f).last=y.last/\(iL y q f).af=y.af/\(iL y q f).aK=y.aK/\(iL y q f).ak.length=y.ak.length:=by
 unfold iL
 split <;> simp
theorem dk:∀(es:List (Nat×Pr)) (y:Sy),(bV y es).last=y.last/\(bV y es).af=y.af/\(bV y es).aK=y.aK/\(bV y es).ak.length=y.ak.length
 | [],y=>⟨rfl,rfl,rfl,rfl⟩
 |e :: r,y=>by
  have h1:=dk r (gG y e)
  have h2:=iP y (lastOf y.last e.1) (yP y e.2)
  unfold bV at*
  rw[List.foldl_cons]
  exact⟨h1.1.trans h2.1,h1.2.1.trans h2.2.1,h1.2.2.1.trans h2.2.2.1,h1.2.2.2.trans h2.2.2.2⟩
def seD(y:Sy)(e:Nat×Pr):D:= .tup [.int (lastOf y.last e.1:Int),.int e.2.2]
section
variable{G G':Hh}{Q:D->Hh->Prop}{E:Nat->Hh->Prop}{S:Sd}{y:Sy}
def cq.Jp(Y:cq G S y){i:Nat}{w:Wk}(h:y.ak[i]? =some w):∃a,S.wa[i]? =some a/\nr G a w:=by
 have:i < S.wa.length:=by rw[Y.wl];exact(qB_.mp h).1
 exact⟨_,qA_ this,Y.wk i _ w (qA_ this) h⟩
def wN{e:Nat×Pr}(Y:cq G S y)(W:SWF y)(he:e.1∈y.last.map (·.1))(hq:∀G',Chg S.own G G'->cq G' S (gG y e)->Q (seD y e) G'):run (dJ [.ref S.s,.int (e.1:Int),pD e.2]) G Q E:=by
 have hm:=pj he
 have hlt:=(W.la _ hm).2
 have hw:y.ak[lastOf y.last e.1]? =some y.ak[lastOf y.last e.1]:=qA_ hlt
 generalize y.ak[lastOf y.last e.1]=w at hw
 obtain⟨a,ha,hwa⟩:=Y.Jp hw
 have ho:=Y.o
 have hne:S.s∉ [a]:=fun z=>by simp at z;exact(iI Y.nd).2.2.2.2 a (qD_ ha) |>.1 z.symm
 unfold nr wkF at hwa
 walk_at "f"
 unfold fy
 refine aA (ba (aP (w_fld (w_var rfl (aZ ho (by decide) rfl (w_var rfl (D9 Y.d rfl (qT W.nd hm) (w_next ?_))))))))
 walk_at "s"
 refine aA (ba (aP (w_fld (w_var rfl (aZ ho (by decide) rfl (w_var rfl (cP Y.w (jj ha) (w_next ?_))))))))
 walk_at "s"
 unfold pD
 refine aA (fG (aP (w_var rfl (w_c (bH rfl (w_var rfl ?_))))))
 refine aM hwa ⟨by decide,qP_ rfl⟩ fun G1 c1 l1 h1=>?_
 have ho1:=c1.get ho hne
 refine w_next ?_
 refine aA (fG (w_fld (w_var rfl (aZ ho1 (by decide) rfl (w_var rfl ?_)))))
 refine aM h1 ⟨by decide,qP_ rfl⟩ fun G2 c2 l2 h2=>?_
 refine w_next ?_
 refine bA (va (ah (w_var rfl (ah (w_fld (w_var rfl (aZ h2 (by decide) rfl (ay ⟨qP_ (by with_unfolding_all rfl),?_⟩))))))))
 lia
 have c:=c1.trans c2
 have Y2:=Y.HY (w:=yP y e.2 w) ha c h2
 have e1:gG y e={y with ak:=y.ak.set (lastOf y.last e.1) (yP y e.2 w)}:=by
  unfold gG iL
  rw[hw]
 refine hq G2 (c.mono (by intro n hn;simp at hn;rw[hn];exact uw ha)) ?_
 rw[e1]
 exact Y2
def um{le:Nat}{es:List (Nat×Pr)}(Y:cq G S y)(W:SWF y)(hl:G[le]? =some (.lst (es.map qb)))(hn:le∉S.own)(hz:es.length<=1000000)(he:∀e∈es,e.1∈y.last.map (·.1))
 (hq:∀l2 G',Chg S.own G G'->G.length<=l2->cq G' S (bV y es)->G'[l2]? =some (.lst (es.map (seD y)))->Q (.ref l2) G'):run (bB [.ref S.s,.ref le]) G Q E:=by
 walk_at "f"
 unfold fg
 refine bA (s9 (nP (w_var rfl (fF hl ?_))))
 refine jo (xs:=es.map qb) (fun i acc G'=>Chg S.own G G'/\cq G' S (bV y (es.take i))/\acc=(es.take i).map (seD y)) ?_ ?_ ?_ _ 0 [] G List.drop_zero (qf_ _) ⟨Chg.refl _ _,Y,rfl⟩
 · rintro i acc G' ⟨c,_⟩
   exact qZ_ (c.get hl hn)
 · rintro i x acc G' hx ⟨c,Y',rfl⟩
   obtain⟨e,he1,rfl⟩:=oA hx
   refine fZ ?_
   rw[if_pos rfl]
   obtain⟨q1,q2,q3,q4⟩:=dk (es.take i) y
   have W':SWF (bV y (es.take i)):=⟨by rw[q2];exact W.W,by rw[q1,q2,q4];exact W.la,by rw[q1];exact W.nd,by rw[q1,q2];exact W.atw⟩
   have ho:=Y'.o
   unfold qb
   refine bq (w_var rfl (bX ho (ah (aP (w_var rfl (w_c (bH rfl (ah (aP (w_var rfl (w_c (bH rfl (ay ?_)))))))))))))
   refine wN (e:=e) Y' W' (by rw[q1];exact he e (qD_ he1)) fun G2 c2 Y2=>?_
   refine⟨by have:=List.length_take_le i es;simp [aC];omega,c.trans c2,?_,?_⟩
   · rw[take_succ he1]
     unfold bV at*
     rw[List.foldl_append]
     exact Y2
   · rw[take_succ he1,qT_]
     unfold seD
     rw[q1]
     rfl
 · rintro acc G' ⟨c,Y',rfl⟩
   rw[qM_,List.take_length]at*
   lia
   have c3:Chg [] G' (G'++[O.lst (es.map (seD y))]):=Chg.add _ _
   exact hq G'.length _ (c.trans (c3.mono (by simp))) c.1 (Y'.frame c3 (by simp)) (aV _ _)
end
section
variable{G G':Hh}{Q:D->Hh->Prop}{E:Nat->Hh->Prop}{S:Sd}{y:Sy}{σ:St}{QS:Fl×St->Hh->Prop}
def Ci{e:E3}{g:D->St->M St}{body:S3}(h:run (e σ) G (fun x G1=>∃n kvs,x= .ref n/\G1[n]? =some (.dK kvs)/\run (forL (fun _=>true) (fun x σ=>bnd (g x σ) body) (fq kvs) σ) (G1.set n (.dF kvs)) (fun p G2=>G2[n]? =some (.dF kvs)/\QS p (G2.set n (.dK kvs))) (fun _ _=>False)) E):run (vT e g body σ) G QS E:=by
 refine aB (au h (fun x G1 q=>?_) fun _ _ z=>z)
 obtain⟨n,kvs,rfl,hn,hr⟩:=q
 unfold M3.run xc
 dsimp only
 rw[hn]
 dsimp only
 unfold uC
 unfold M3.run at hr
 cases q:forL (fun _=>true) (fun x σ=>bnd (g x σ) body) (fq kvs) σ (G1.set n (.dF kvs))with
 |none=>rw[q]at hr;exact hr
 |some r=>
  obtain⟨o,G2⟩:=r
  rw[q]at hr
  cases o with
  |exc c=>exact absurd hr (by intro z;exact z)
  |ok p=>
   dsimp only at hr ⊢
   rw[if_pos hr.1]
   exact hr.2
def tL(p:Pr)(w:Wk):Wk:={w with lI:=some p.1}
def bp(y:Sy)(e:Nat×Nat):Sy:=match (y.af.hs[e.1]?).bind (·.pair)with
 |none=>y
 |some p=>iL y e.2 (tL p)
def bO(y:Sy):Sy:=y.last.foldl bp y
def oj(y:Sy)(e:Nat×Nat):(bp y e).last=y.last/\(bp y e).af=y.af/\(bp y e).aK=y.aK/\(bp y e).ak.length=y.ak.length:=by
 unfold bp
 split
 · exact⟨rfl,rfl,rfl,rfl⟩
 · exact iP _ _ _
theorem cG:∀(l:List (Nat×Nat)) (y:Sy),(l.foldl bp y).last=y.last/\(l.foldl bp y).af=y.af/\(l.foldl bp y).aK=y.aK/\(l.foldl bp y).ak.length=y.ak.length
 | [],y=>⟨rfl,rfl,rfl,rfl⟩
 |e :: l,y=>by
  obtain⟨a,b,c,d⟩:=cG l (bp y e)
  obtain⟨a',b',c',d'⟩:=oj y e
  exact⟨a.trans a',b.trans b',c.trans c',d.trans d'⟩
def iJ{n m:Nat}{o p:O}(h:(G.set n o)[m]? =some p)(hm:m≠n):G[m]? =some p:=by
 rw[qV_ (Ne.symm hm)]at h;exact h
def ur{T:List Nat}{n:Nat}{o:O}(c:Chg T G G'):Chg T (G.set n o) (G'.set n o):=by
 refine⟨by simpa using c.1,fun m hm ht=>?_⟩
 have hm':m < G.length:=by simpa using hm
 by_cases z:m=n
 · subst z
   rw[qU_ hm',qU_ (qd_ hm' c.1)]
 · rw[qV_ (Ne.symm z),qV_ (Ne.symm z)]
   exact c.2 m hm' ht
def uk{n:Nat}{o p:O}(h:G[n]? =some o):(G.set n p).set n o=G:=by
 rw[List.set_set]
 apply List.ext_getElem?
 intro m
 by_cases z:m=n
 · subst z
   rw[qU_ (ax h),h]
 · rw[qV_ (Ne.symm z)]
def qF(Y:cq G S y)(W:SWF y)(hq:∀G',Chg S.own G G'->cq G' S (bO y)->Q .non G'):run (cy [.ref S.s]) G Q E:=by
 obtain⟨n1,n2,n3,n4,n5⟩:=iI Y.nd
 have ho:=Y.o
 walk_at "f"
 unfold dN
 refine Ci (w_fld (w_var rfl (aZ ho (by decide) rfl ⟨S.ld,gd y.last,rfl,Y.d,?_⟩)))
 have hit:fq (gd y.last)=y.last.map fun e=>D.tup [.int (e.1:Int),.int (e.2:Int)]:=by
  unfold fq gd
  rw[qb_]
  rfl
 rw[hit]
 refine lW (fun i σ G'=>(∃a b c d,σ=[some (.ref S.s),a,b,c,d])/\G'[S.ld]? =some (.dF (gd y.last))/\Chg S.own G (G'.set S.ld (.dK (gd y.last)))/\cq (G'.set S.ld (.dK (gd y.last))) S ((y.last.take i).foldl bp y)) (fun _ _ _ _=>rfl) ?_ ?_ ⟨⟨_,_,_,_,rfl⟩,iB Y.d,by rw[uk Y.d];exact Chg.refl _ _,by rw[uk Y.d];exact Y⟩
 · rintro i e σ G' he ⟨⟨v1,v2,v3,v4,rfl⟩,hf,c,Y'⟩
   obtain⟨q1,q2,q3,q4⟩:=cG (y.last.take i) y
   have hem:=qD_ he
   obtain⟨l1,l2⟩:=W.la e hem
   rw[show (y.last.take (i+1)).foldl bp y=bp ((y.last.take i).foldl bp y) e by rw[take_succ he,List.foldl_append];rfl]
   generalize (y.last.take i).foldl bp y=y' at*
   have hh:y'.af.hs[e.1]? =some y.af.hs[e.1]:=by rw[q2];exact qA_ l1
   generalize y.af.hs[e.1]=h at hh
   obtain⟨a,d,ha,hd,hat⟩:=Y'.H.hand hh
   have hso:∀x,x∈S.A.foot->x≠S.ld:=fun x hx z=>Y.dj S.ld (by simp [Sd.own]) (z ▸ hx)
   have o1:=iJ Y'.o n2
   have w1:=iJ Y'.w n3
   have ho1:=iJ Y'.H.o (hso _ (by simp [Ad.foot]))
   have hh1:=iJ Y'.H.h (hso _ (by simp [Ad.foot]))
   have ha1:=iJ hat.1 (hso _ (vb ha))
   refine aB (DY rfl ?_)
   walk_at "s"
   refine aA (ba (w_fld (aP (w_fld (w_fld (w_var rfl (aZ o1 (by decide) rfl (aZ ho1 (by decide) rfl (w_var rfl (cP hh1 (jj ha) (aZ ha1 (by decide) rfl (w_next ?_))))))))))))
   walk_at "s"
   refine cX (ib (ot (w_var rfl ?_)))
   lia
   rw[oP]
   cases hp:h.pair with
   |none=>
    have e1:bp y' e=y':=by unfold bp;rw[hh];dsimp only[Option.bind];rw[hp]
    rw[e1]
    dsimp only[Option.isNone]
    lia
    exact⟨⟨_,_,_,_,rfl⟩,hf,c,Y'⟩
   |some p=>
    have e1:bp y' e=iL y' e.2 (tL p):=by unfold bp;rw[hh];dsimp only[Option.bind];rw[hp]
    rw[e1]
    dsimp only[Option.isNone]
    have hw:y'.ak[e.2]? =some (y'.ak[e.2]'(by rw[q4];exact l2)):=qA_ _
    generalize y'.ak[e.2]'(by rw[q4];exact l2)=w at hw
    obtain⟨b,hb,hwb⟩:=Y'.Jp hw
    have hbn:=n5 b (qD_ hb)
    have hwb1:=iJ hwb hbn.2.2
    unfold wkF at hwb1
    lia
    refine cP w1 (jj hb) ?_
    lia
    unfold opD pD
    lia
    refine aM hwb1 ⟨by decide,qP_ rfl⟩ fun G2 c2 g2 h2=>?_
    refine⟨⟨_,_,_,_,rfl⟩,c2.get hf (by intro z;simp at z;exact hbn.2.2 z.symm),?_,?_⟩
    · exact c.trans ((ur c2).mono (by intro n hn;simp at hn;rw[hn];exact uw hb))
    · unfold iL
      rw[hw]
      refine Y'.HY (w:=tL p w) hb (ur c2) ?_
      show (G2.set S.ld _)[b]? =some (.ins 3 (wkF (tL p w)))
      rw[qV_ (Ne.symm hbn.2.2)]
      exact h2
 · rintro σ G' ⟨⟨v1,v2,v3,v4,rfl⟩,hf,c,Y'⟩
   refine⟨hf,?_⟩
   rw[List.take_length]at Y'
   lia
   exact hq _ c Y'
end
inductive aY where
 |wr (i v:Int)
 |rd (i:Int)
 |ca (n:Int) (s:Bool)
 |pa (i j:Int)
 |sw
 |ag (i:Int)
 |qu (i:Int)
 |st (j:Int)
 |wa (j:Int)
def bI:aY->D
 | .wr i v=>.tup [.str "write",.int i,.int v]
 | .rd i=>.tup [.str "read",.int i]
 | .ca n s=>.tup [.str "carry",.int n,.bl s]
 | .pa i j=>.tup [.str "pass",.int i,.int j]
 | .sw=>.tup [.str "sweep"]
 | .ag i=>.tup [.str "again",.int i]
 | .qu i=>.tup [.str "quit",.int i]
 | .st j=>.tup [.str "stop",.int j]
 | .wa j=>.tup [.str "wake",.int j]
inductive An where
 |one (d:D)
 |lst (ds:List D)
inductive Rs where
 |no (c:Nat)
 |ok (y:Sy) (a:An)
def inB(i:Int)(n:Nat):Option Nat:=if i < 0\/(n:Int)<=i then none else some i.toNat
def fX{i:Int}{n:Nat}(h:i < 0\/(n:Int)<=i):inB i n=none:=if_pos h
def gz{i:Int}{n j:Nat}(h:i=(j:Int))(hj:j < n):inB i n=some j:=by
 unfold inB
 rw[if_neg (by omega),h]
 rfl
def aF(y:Sy)(h:Hl):Sy:={y with af:=h}
def endsF(y:Sy)(r:Hl×List (Nat×Pr)):Sy:=bV (aF y r.1) r.2
def mU(y:Sy)(r:Hl×List (Nat×Pr)):List D:=r.2.map (seD y)
def bS(y:Sy)(i:Int)(rd:Bool)(v:Option Int):Rs:=match inB i y.af.hs.length with
 |none=>.no 1001
 |some j=>match y.af.hs[j]? with
  |none=>.no 1001
  |some h=>if h.atw then .no 1004 else .ok (gO (aF y (bT y.af j h v)) j rd v) (.one (.int (y.ak.length:Int)))
def eM(y:Sy)(i:Int)(f:Nat->Hd->Rs):Rs:=match inB i y.af.hs.length with
 |none=>.no 1001
 |some j=>match y.af.hs[j]? with
  |none=>.no 1001
  |some h=>if h.atw then f j h else .no 1005
def jl(y:Sy)(i:Int)(f:Nat->Kr->Rs):Rs:=match inB i y.af.ks.length with
 |none=>.no 1002
 |some j=>match y.af.ks[j]? with
  |none=>.no 1002
  |some k=>f j k
def AR:List D->D
 | []=>.non
 |d :: _=>d
def yq(y:Sy)(n:Int):Nat:=(n % (y.af.row.length:Int)).toNat
def doneF(y:Sy):aY->Rs
 | .wr i v=>bS y i false (some v)
 | .rd i=>bS y i true none
 | .ca n s=>if y.af.row=[]then .no 1003 else .ok (endsF y (aE y.af (yq y n) s)) (.one (AR (mU y (aE y.af (yq y n) s))))
 | .pa i j=>match inB i y.af.hs.length with
   |none=>.no 1001
   |some p=>match inB j y.af.ks.length with
    |none=>.no 1002
    |some k=>.ok (endsF y (bj (cx p k) y.af)) (.lst (mU y (bj (cx p k) y.af)))
 | .sw=>.ok (endsF y (bj aD y.af)) (.lst (mU y (bj aD y.af)))
 | .ag i=>eM y i fun j h=>.ok (aF y {y.af with row:=newRow y.af h}) (.one (.int ((bc h).length:Int)))
 | .qu i=>eM y i fun j h=>.ok (aF y {y.af with hs:=y.af.hs.set j {h with atw:=false}}) (.one (.int (lastOf y.last j:Int)))
 | .st i=>jl y i fun j k=>.ok (aF y {y.af with ks:=y.af.ks.set j {k with up:=false}}) (.one (.bl k.up))
 | .wa i=>jl y i fun j k=>.ok (aF y {y.af with ks:=y.af.ks.set j {k with up:=true}}) (.one (.bl (!k.up)))
structure Iv (y:Sy):Prop where
 W:SWF y
 m:mea y.af<=40*y.aK
 w:y.ak.length<=y.aK
 l:y.last.length<=9
def Ds{y:Sy}(nd:(y.last.map (·.1)).Nodup)(la:∀e∈y.last,e.1 < y.af.hs.length)(hs:y.af.hs.length<=9):y.last.length<=9:=by
 have:=sT y.af.hs.length (y.last.map (·.1)) nd (fun x hx=>by
  obtain⟨e,he,rfl⟩:=qH_.mp hx
  exact la e he)
 rw[qM_]at this
 omega
structure Hon (a b:Hl):Prop where
 W:WF b
 hl:b.hs.length=a.hs.length
 at':∀(i:Nat) g,b.hs[i]? =some g->g.atw=true->∃h,a.hs[i]? =some h/\h.atw=true
def Hon.swf{y:Sy}{b:Hl}(W:SWF y)(h:Hon y.af b):SWF (aF y b):=by
 refine⟨h.W,fun e he=>⟨by show e.1 < b.hs.length;rw[h.hl];exact(W.la e he).1,(W.la e he).2⟩,W.nd,fun i g hi hg=>?_⟩
 obtain⟨x,h1,h2⟩:=h.at' i g hi hg
 exact W.atw i x h1 h2
def pR{a:Hl}(W:WF a)(p:Nat)(s:Bool):Hon a (aE a p s).1:=by
 refine⟨gn W p s,?_,?_⟩
 · unfold aE
   split
   · rfl
   · split
     · rfl
     · simp
   · split
     · rfl
     · rfl
 · intro i g
   unfold aE
   split
   · exact fun h1 h2=>⟨g,h1,h2⟩
   · rename_i l hr
     split
     · exact fun h1 h2=>⟨g,h1,h2⟩
     · rename_i h hh
       intro h1 h2
       have h1:(a.hs.set l.hand (aR h l).1)[i]? =some g:=h1
       by_cases z:i=l.hand
       · subst z
         rw[qU_ (qB_.mp hh).1]at h1
         cases h1
         refine⟨h,hh,?_⟩
         revert h2
         unfold aR
         cases q:h.atw with
         |true=>exact fun _=>rfl
         |false=>intro h2;simp [q]at h2
       · rw[qV_ (Ne.symm z)]at h1
         exact⟨g,h1,h2⟩
   · split
     · exact fun h1 h2=>⟨g,h1,h2⟩
     · exact fun h1 h2=>⟨g,h1,h2⟩
theorem Hon.trans{a b c:Hl}(x:Hon a b)(y:Hon b c):Hon a c:=⟨y.W,y.hl.trans x.hl,fun i g h1 h2=>by
 obtain⟨g',h3,h4⟩:=y.at' i g h1 h2
 exact x.at' i g' h3 h4⟩
def Hon.refl{a:Hl}(W:WF a):Hon a a:=⟨W,rfl,fun _ g h1 h2=>⟨g,h1,h2⟩⟩
def mz{a:Hl}(p:Nat)(s:Bool):∀e∈(aE a p s).2,∃h,a.hs[e.1]? =some h/\h.atw=true:=by
 intro e he
 unfold aE at he
 split at he
 · cases he
 · split at he
   · cases he
   · rename_i l hr h hh
     dsimp only at he
     split at he
     · cases he
     · rename_i p hp
       simp at he
       subst he
       refine⟨h,hh,?_⟩
       unfold aR at hp
       cases q:h.atw with
       |true=>rfl
       |false=>simp [q]at hp
 · split at he <;> cases he
def iH{sel:Hl->Option Nat}(hs:Sel sel):∀(n:Nat) (a:Hl),WF a->mea a<=n->Hon a (bj sel a).1/\mea (bj sel a).1<=mea a/\∀e∈(bj sel a).2,∃h,a.hs[e.1]? =some h/\h.atw=true:=by
 intro n
 induction n with
 |zero=>
  intro a W hm
  cases q:sel a with
  |none=>rw[cg q];exact⟨Hon.refl W,qO_ _,by simp⟩
  |some p=>
   have:=bD W (hs a p q)
   omega
 |succ n ih=>
  intro a W hm
  cases q:sel a with
  |none=>rw[cg q];exact⟨Hon.refl W,qO_ _,by simp⟩
  |some p=>
   rw[gw hs W q]
   have h1:=bD W (hs a p q)
   have c:=pR W p false
   obtain⟨i1,i2,i3⟩:=ih (aE a p false).1 c.W (by omega)
   refine⟨c.trans i1,by dsimp only;omega,fun e he=>?_⟩
   rcases qG_.mp he with z |z
   · exact mz p false e z
   · obtain⟨h,h2,h3⟩:=i3 e z
     exact c.at' _ h h2 h3
def xN{st:Hl}(W:WF st){j:Nat}{h h':Hd}(hj:st.hs[j]? =some h)(ok:HOK st.ks.length j h')(hr:h.rnd<=h'.rnd)(hp:h'.rnd=h.rnd->h'.pair=h.pair):WF {st with hs:=st.hs.set j h'}:=by
 have hlt:=(qB_.mp hj).1
 refine⟨fun i g hg=>?_,fun e he=>?_,W.ksz,by show (st.hs.set j h').length<=9;simpa using W.hsz⟩
 · have hg:(st.hs.set j h')[i]? =some g:=hg
   by_cases z:i=j
   · subst z
     rw[qU_ hlt]at hg
     cases hg
     exact ok
   · rw[qV_ (Ne.symm z)]at hg
     exact W.hk i g hg
 · obtain⟨g,h1,h2,h3,h4⟩:=W.rw e he
   by_cases z:e.2.hand=j
   · rw[z]at h1
     rw[hj]at h1
     cases h1
     refine⟨h',by show (st.hs.set j h')[e.2.hand]? =some h';rw[z];exact qU_ hlt,h2,by omega,fun w=>?_⟩
     have e1:h'.rnd=h.rnd:=by omega
     rw[hp e1]
     exact h4 (by omega)
   · exact⟨g,by show (st.hs.set j h')[e.2.hand]? =some g;rw[qV_ (Ne.symm z)];exact h1,h2,h3,h4⟩
def xZ{st:Hl}(W:WF st)(j:Nat)(k:Kr):WF {st with ks:=st.ks.set j k}:=by
 have hl:(st.ks.set j k).length=st.ks.length:=by simp
 refine⟨fun i g hg=>?_,fun e he=>?_,by show (st.ks.set j k).length<=9;rw[hl];exact W.ksz,W.hsz⟩
 · have:=W.hk i g hg
   show g.num=i/\g.cnt=(st.ks.set j k).length/\_
   rw[hl]
   exact this
 · have:=W.rw e he
   show ∃h,st.hs[e.2.hand]? =some h/\e.2.kpr < (st.ks.set j k).length/\_
   rw[hl]
   exact this
def Aq{st:Hl}(W:WF st){j:Nat}{h:Hd}(hj:st.hs[j]? =some h):WF {st with row:=newRow st h}:=by
 refine⟨W.hk,fun e he=>?_,W.ksz,W.hsz⟩
 have he:e∈st.row++(bc h).map fun x=>(false,x):=he
 rcases qG_.mp he with z |z
 · exact W.rw e z
 · obtain⟨x,hx,rfl⟩:=qH_.mp z
   obtain⟨a,b,c,d⟩:=oY (W.hok hj) hx
   dsimp only
   refine⟨h,by rw[a];exact hj,b,by omega,fun _=>⟨fun _=>d,fun q=>by cases q⟩⟩
def Be{st:Hl}(W:WF st){j:Nat}{h:Hd}(hj:st.hs[j]? =some h)(v:Option Int):WF (bT st j h v):=by
 have hlt:=(qB_.mp hj).1
 have ok:=W.hok hj
 have W1:WF {st with hs:=st.hs.set j (bM h v)}:=xN W hj (uR (by exact ok.2.1) (by exact ok.1) none) (by show h.rnd<=h.rnd+1;omega) (fun z=>by have z:h.rnd+1=h.rnd:=z;omega)
 exact Aq W1 (by show (st.hs.set j (bM h v))[j]? =_;exact qU_ hlt)
def xm(st:Hl)(h:Hd)(hc:h.cnt<=9):((newRow st h).map wt).sum<=(st.row.map wt).sum+18:=by
 unfold newRow
 rw[qT_,List.sum_append,oh]
 have:=gX h
 omega
def Gm(h:Hd):pot h<=2*h.cnt:=by unfold pot;split <;> omega
def zf{st:Hl}(W:WF st){j:Nat}{h:Hd}(hj:st.hs[j]? =some h)(v:Option Int):mea (bT st j h v)<=mea st+36:=by
 have ok:=(W.hok hj).2.1
 have hk:=W.ksz
 have hc:(bM h v).cnt<=9:=by show h.cnt<=9;omega
 have a:=xm st (bM h v) hc
 have b:=sum_set (g:=bM h v) hj
 have c:=Gm (bM h v)
 show ((newRow st (bM h v)).map wt).sum+((st.hs.set j (bM h v)).map pot).sum<=mea st+36
 unfold mea
 omega
def ye{st:Hl}(W:WF st){j:Nat}{h:Hd}(hj:st.hs[j]? =some h):mea {st with row:=newRow st h}<=mea st+18:=by
 have ok:=(W.hok hj).2.1
 have hk:=W.ksz
 have a:=xm st h (by omega)
 show ((newRow st h).map wt).sum+(st.hs.map pot).sum<=mea st+18
 unfold mea
 omega
def Ar{st:Hl}{j:Nat}{h:Hd}(hj:st.hs[j]? =some h):mea {st with hs:=st.hs.set j {h with atw:=false}}<=mea st:=by
 have b:=sum_set (g:={h with atw:=false}) hj
 have c:pot {h with atw:=false}=0:=by unfold pot;rfl
 show (st.row.map wt).sum+((st.hs.set j {h with atw:=false}).map pot).sum<=mea st
 unfold mea
 omega
structure Iv1 (y z:Sy):Prop where
 W:SWF z
 d:z.aK=y.aK
 m:mea z.af<=40*y.aK+40
 w:z.ak.length<=y.aK+1
 l:z.last.length<=9
 hl:z.af.hs.length=y.af.hs.length
 kl:z.af.ks.length=y.af.ks.length
def Iv.same{y:Sy}(I:Iv y):Iv1 y y:=⟨I.W,rfl,by have:=I.m;omega,by have:=I.w;omega,I.l,rfl,rfl⟩
def rj{y z:Sy}(I:Iv1 y z)(es:List (Nat×Pr)):Iv1 y (bV z es):=by
 obtain⟨q1,q2,q3,q4⟩:=dk es z
 exact⟨⟨by rw[q2];exact I.W.W,by rw[q1,q2,q4];exact I.W.la,by rw[q1];exact I.W.nd,by rw[q1,q2];exact I.W.atw⟩,q3.trans I.d,by rw[q2];exact I.m,by rw[q4];exact I.w,by rw[q1];exact I.l,by rw[q2];exact I.hl,by rw[q2];exact I.kl⟩
def kL{y:Sy}(I:Iv y){b:Hl}(h:Hon y.af b)(hm:mea b<=mea y.af+40)(hk:b.ks.length=y.af.ks.length):Iv1 y (aF y b):=
 ⟨h.swf I.W,rfl,by have:=I.m;show mea b<=_;omega,by have:=I.w;show y.ak.length<=_;omega,I.l,h.hl,hk⟩
def uh(l:List (Nat×Nat))(k p:Nat):(putL l k p).map (·.1)=if (l.any fun e=>decide (e.1=k))then l.map (·.1)else l.map (·.1)++[k]:=by
 unfold putL
 split
 · rw[qb_]
   apply List.map_congr_left
   intro e _
   show (if e.1=k then (e.1,p)else e).1=e.1
   split <;> rfl
 · simp
def DR{l:List (Nat×Nat)}{k p:Nat}(h:(l.map (·.1)).Nodup):((putL l k p).map (·.1)).Nodup:=by
 rw[uh]
 split
 · exact h
 · rename_i q
   rw[List.nodup_append]
   refine⟨h,by simp,fun a ha b hb w=>q ?_⟩
   simp at hb
   obtain⟨e,he,e1⟩:=qH_.mp ha
   rw[List.any_eq_true]
   exact⟨e,he,qZ_ (by rw[e1,w,hb])⟩
def Dz{l:List (Nat×Nat)}{k p i:Nat}(h:i=k\/i∈l.map (·.1)):i∈(putL l k p).map (·.1):=by
 rw[uh]
 split
 · rename_i q
   rcases h with rfl |h
   · rw[List.any_eq_true]at q
     obtain⟨e,he,e1⟩:=q
     exact qH_.mpr ⟨e,he,of_decide_eq_true e1⟩
   · exact h
 · rcases h with rfl |h
   · simp
   · exact qF_ _ h
def Bb{y:Sy}(I:Iv y){j:Nat}{h:Hd}(hj:y.af.hs[j]? =some h)(rd:Bool)(v:Option Int):Iv1 y (gO (aF y (bT y.af j h v)) j rd v):=by
 have hlt:=(qB_.mp hj).1
 have W:=I.W
 have wf:=Be W.W hj v
 have hl:(bT y.af j h v).hs.length=y.af.hs.length:=by show (y.af.hs.set j _).length=_;simp
 have la:∀e∈putL y.last j y.ak.length,e.1 < y.af.hs.length/\e.2 < y.ak.length+1:=by
  intro e he
  rcases A7 he with z |z
  · rw[z];exact⟨hlt,by dsimp only;omega⟩
  · have:=W.la e z;exact⟨this.1,by omega⟩
 have nd:=DR (k:=j) (p:=y.ak.length) W.nd
 refine⟨⟨wf,fun e he=>?_,nd,fun i g hg ha=>?_⟩,rfl,?_,?_,?_,hl,rfl⟩
 · have:=la e he
   refine⟨by show e.1 < (bT y.af j h v).hs.length;rw[hl];exact this.1,?_⟩
   show e.2 < (y.ak++[_]).length
   simpa using this.2
 · refine Dz ?_
   by_cases z:i=j
   · exact .inl z
   · have hg:(y.af.hs.set j (bM h v))[i]? =some g:=hg
     rw[qV_ (Ne.symm z)]at hg
     exact .inr (W.atw i g hg ha)
 · have:=zf W.W hj v
   have:=I.m
   show mea (bT y.af j h v)<=_
   omega
 · have:=I.w
   show (y.ak++[_]).length<=_
   simp
   omega
 · have:=Ds (y:={y with last:=putL y.last j y.ak.length}) nd (fun e he=>(la e he).1) W.W.hsz
   exact this
def xW(a:Hl)(p:Nat)(s:Bool):(aE a p s).1.ks.length=a.ks.length:=by
 unfold aE
 split
 · rfl
 · split <;> rfl
 · split
   · rfl
   · simp
def CJ{sel:Hl->Option Nat}(hs:Sel sel):∀(n:Nat) (a:Hl),WF a->mea a<=n->(bj sel a).1.ks.length=a.ks.length:=by
 intro n
 induction n with
 |zero=>
  intro a W hm
  cases q:sel a with
  |none=>rw[cg q]
  |some p=>
   have:=bD W (hs a p q)
   omega
 |succ n ih=>
  intro a W hm
  cases q:sel a with
  |none=>rw[cg q]
  |some p=>
   rw[gw hs W q]
   have h1:=bD W (hs a p q)
   exact(ih (aE a p false).1 (gn W p false) (by omega)).trans (xW a p false)
def CV{y:Sy}(I:Iv y)(d:aY){z:Sy}{a:An}(h:doneF y d= .ok z a):Iv1 y z:=by
 have W:=I.W
 have bg:∀{i rd v},bS y i rd v= .ok z a->Iv1 y z:=by
  intro i rd v h
  unfold bS at h
  split at h
  · cases h
  · split at h
    · cases h
    · rename_i j _ _ g hg
      split at h
      · cases h
      · cases h
        exact Bb I hg rd v
 have rn:∀{sel:Hl->Option Nat},Sel sel->Iv1 y (endsF y (bj sel y.af)):=by
  intro sel hs
  obtain⟨i1,i2,i3⟩:=iH hs (mea y.af) y.af W.W (qO_ _)
  exact rj (kL I i1 (by omega) (CJ hs _ _ W.W (qO_ _))) _
 cases d with
 |wr i v=>exact bg h
 |rd i=>exact bg h
 |ca n s=>
  unfold doneF at h
  dsimp only at h
  split at h
  · cases h
  · rename_i hne
    cases h
    refine rj (kL I (pR W.W _ _) ?_ (xW _ _ _)) _
    have hp:yq y n < y.af.row.length:=by
     unfold yq
     have:0 < y.af.row.length:=List.length_pos_iff.mpr hne
     have h1:=Int.emod_nonneg n (b:=(y.af.row.length:Int)) (by omega)
     have h2:=Int.emod_lt_of_pos n (b:=(y.af.row.length:Int)) (by omega)
     omega
    have:=uj W.W (s:=s) (qA_ hp)
    split at this <;> omega
 |pa i j=>
  unfold doneF at h
  dsimp only at h
  split at h
  · cases h
  · split at h
    · cases h
    · cases h
      exact rn (cL _ _)
 |sw=>
  unfold doneF at h
  dsimp only at h
  cases h
  exact rn bF
 |ag i=>
  unfold doneF eM at h
  dsimp only at h
  split at h
  · cases h
  · split at h
    · cases h
    · rename_i j _ _ g hg
      split at h
      · cases h
        exact kL I ⟨Aq W.W hg,rfl,fun i g h1 h2=>⟨g,h1,h2⟩⟩ (by have:=ye W.W hg;omega) rfl
      · cases h
 |qu i=>
  unfold doneF eM at h
  dsimp only at h
  split at h
  · cases h
  · split at h
    · cases h
    · rename_i j _ _ g hg
      split at h
      · cases h
        have hlt:=(qB_.mp hg).1
        have ok:=W.W.hok hg
        refine kL I ⟨xN W.W hg (h':={g with atw:=false}) ok (Int.le_refl _) (fun _=>rfl),by show (y.af.hs.set j _).length=_;simp,fun i g' h1 h2=>?_⟩ (by have:=Ar hg;omega) rfl
        have h1:(y.af.hs.set j {g with atw:=false})[i]? =some g':=h1
        by_cases q:i=j
        · subst q
          rw[qU_ hlt]at h1
          cases h1
          cases h2
        · rw[qV_ (Ne.symm q)]at h1
          exact⟨g',h1,h2⟩
      · cases h
 |st i=>
  unfold doneF jl at h
  dsimp only at h
  split at h
  · cases h
  · split at h
    · cases h
    · cases h
      exact kL I ⟨xZ W.W _ _,rfl,fun i g h1 h2=>⟨g,h1,h2⟩⟩ (by show mea y.af<=_;omega) (by show (y.af.ks.set _ _).length=_;simp)
 |wa i=>
  unfold doneF jl at h
  dsimp only at h
  split at h
  · cases h
  · split at h
    · cases h
    · cases h
      exact kL I ⟨xZ W.W _ _,rfl,fun i g h1 h2=>⟨g,h1,h2⟩⟩ (by show mea y.af<=_;omega) (by show (y.af.ks.set _ _).length=_;simp)
def Sd.all(S:Sd):List Nat:=S.own++S.A.foot
structure Sd.To (S S':Sd) (n:Nat):Prop where
 s:S'.s=S.s
 z:∀x∈S'.all,x∈S.all\/n<=x
def Sd.To.refl(S:Sd)(n:Nat):S.To S n:=⟨rfl,fun _ h=>.inl h⟩
def Sd.To.af(S:Sd){A':Ad}{n:Nat}(t:S.A.To A' n):S.To {S with A:=A'} n:=by
 refine⟨rfl,fun x hx=>?_⟩
 rcases qG_.mp hx with w |w
 · exact .inl (qF_ _ w)
 · exact(t.foot x w).elim (fun q=>.inl (qE_ _ q)) .inr
def mn(S:Sd)(n:Nat)(G:Hh)(a:An)(v:D):Prop:=match a with
 | .one d=>v=d
 | .lst ds=>∃l,v= .ref l/\n<=l/\l∉S.all/\G[l]? =some (.lst ds)
section
variable{G G':Hh}{Q:D->Hh->Prop}{E:Nat->Hh->Prop}{S:Sd}{y:Sy}{σ:St}{QS:Fl×St->Hh->Prop}
def cq.ltA(Y:cq G S y):∀n∈S.all,n < G.length:=fun n hn=>(qG_.mp hn).elim (Y.lt n) (Y.H.lt n)
def aW{u w:Str}{A B:S3}(hv:σ[2]? =some (some (.str u)))(hn:decide (u=w)=false)(h:M3.run (B σ) G QS E):M3.run (ao (sIf (tB (eOp oEq (ae 2) (eC (.str w)))) A aX) B σ) G QS E:=by
 refine aA (cX (ib (aP (w_var hv (w_c (w_eq (b:=false) ?_ (fV ?_)))))))
 · show some (decide (u=w))=some false
   rw[hn]
 · rw[if_neg qC_]
   exact iz (w_next h)
def jL{u w:Str}{A B:S3}(hv:σ[2]? =some (some (.str u)))(hn:decide (u=w)=true)(h:M3.run (A σ) G (fun r G1=>M3.run (sK B r) G1 QS E) E):M3.run (ao (sIf (tB (eOp oEq (ae 2) (eC (.str w)))) A aX) B σ) G QS E:=by
 refine aA (cX (ib (aP (w_var hv (w_c (w_eq (b:=true) ?_ (fV ?_)))))))
 · show some (decide (u=w))=some true
   rw[hn]
 · rw[if_pos rfl]
   exact h
def EO{n:Nat}{xs:List D}{QB:Bool->Hh->Prop}(hn:G[n]? =some (.lst xs))(h:QB (!xs.isEmpty) G):M3.run (truth (.ref n)) G QB E:=by
 refine aG (a:=!xs.isEmpty) (G':=G) ?_ h
 unfold truth
 dsimp only
 rw[hn]
def nQ{i:Int}{j:Nat}{h:Hd}(e:i=(j:Int))(hj:y.af.hs[j]? =some h):inB i y.af.hs.length=some j:=gz e (qB_.mp hj).1
def DZ{i:Int}{j:Nat}{k:Kr}(e:i=(j:Int))(hj:y.af.ks[j]? =some k):inB i y.af.ks.length=some j:=gz e (qB_.mp hj).1
def BK(Y:cq G S y):G[S.A.a]? =some (.ins 2 [(9,.ref S.A.lk),(10,.ref S.A.lh),(11,.ref S.A.lr)]):=Y.H.o
def vQ{r:Hl×List (Nat×Pr)}{A':Ad}{G1:Hh}{le:Nat}(I:Iv y)(Y:cq G S y)(c:Chg S.A.foot G G1)(to:S.A.To A' G.length)(hl:G.length<=le)(H:bw G1 A' r.1)(h:G1[le]? =some (.lst (r.2.map qb)))
 (hon:Hon y.af r.1) (hat:∀e∈r.2,∃h,y.af.hs[e.1]? =some h/\h.atw=true) (hz:r.2.length<=1000000)
 (hq:∀l2 S' G',S'.s=S.s->Chg S.all G G'->S.To S' G.length->cq G' S' (endsF y r)->G.length<=l2->l2∉S'.all->G'[l2]? =some (.lst (mU y r))->Q (.ref l2) G'):M3.run (bB [.ref S.s,.ref le]) G1 Q E:=by
 have Y1:=Y.af c to H
 have W1:SWF (aF y r.1):=hon.swf I.W
 refine um (S:={S with A:=A'}) (y:=aF y r.1) Y1 W1 h (fun z=>?_) hz (fun e he=>?_) fun l2 G2 c2 hl2 Y2 h2=>?_
 · have:=Y.lt le z;omega
 · obtain⟨g,h1,h2⟩:=hat e he
   exact I.W.atw _ g h1 h2
 · have c1:=c.1
   refine hq l2 {S with A:=A'} G2 rfl ((c.mono fun n hn=>qE_ _ hn).trans (c2.mono fun n hn=>qF_ _ hn)) (Sd.To.af S to) Y2 (by omega) (fun z=>?_) h2
   have:=Y1.ltA l2 z
   omega
def F8{d:aY}(I:Iv y)(hd:y.aK<=1000)(Y:cq G S y)
 (hE:∀c G',doneF y d= .no c->Chg [] G G'->E c G')
 (hq:∀v S' G' z a,doneF y d= .ok z a->Chg S.all G G'->S.To S' G.length->cq G' S' z->mn S' G.length G' a v->Q v G'):M3.run (gu [.ref S.s,bI d]) G Q E:=by
 have W:=I.W
 have hm:mea y.af<=800000:=by have:=I.m;omega
 have ho:=Y.o
 have hH:=BK Y
 have r0:=Chg.refl [] G
 walk_at "f"
 unfold iZ
 cases d with
 |wr i v=>
  unfold bI
  refine aA (ba (aP (w_var rfl (w_c (bH rfl (w_next ?_))))))
  walk_at "s"
  refine jL rfl (by decide) ?_
  refine aA (cJ (bq (w_fld (w_var rfl (aZ ho (by decide) rfl (bX hH (ah (aP (w_var rfl (w_c (bH rfl (ah (aP (w_var rfl (w_c (bH rfl (ay ?_)))))))))))))))))
  refine Dm Y.H W.W hm (fun z=>hE _ _ ?_ r0) (fun j h e hj ha=>hE _ _ ?_ r0) fun j h e hj ha A' G1 c1 to H1=>?_
  · show bS y i false (some v)=_
    unfold bS
    rw[fX z]
  · show bS y i false (some v)=_
    unfold bS
    rw[nQ e hj]
    dsimp only
    rw[hj]
    dsimp only
    rw[if_pos ha]
  · have eR:doneF y (.wr i v)= .ok (gO (aF y (bT y.af j h (some v))) j false (some v)) (.one (.int (y.ak.length:Int))):=by
     show bS y i false (some v)=_
     unfold bS
     rw[nQ e hj]
     dsimp only
     rw[hj]
     dsimp only
     rw[if_neg (by rw[ha];exact qC_)]
    have Y1:=Y.af c1 to H1
    have ho1:=Y1.o
    subst e
    lia
    refine nS (S:={S with A:=A'}) (rd:=false) (v:=some v) Y1 (by have:=I.w;show y.ak.length<=1000;omega) (by have:=I.l;show y.last.length<=1000;omega) fun a G2 c2 hl Y2=>?_
    have g1:=c1.1
    have Y1l:=Y1.ltA
    lia
    refine hq _ {S with A:=A',wa:=S.wa++[a]} G2 _ _ eR ((c1.mono fun n hn=>qE_ _ hn).trans' c2 fun n hn=>(Sd.To.af S to).z n hn) ⟨rfl,fun x hx=>?_⟩ Y2 rfl
    have hx:x∈([S.s,S.lw,S.ld]++(S.wa++[a]))++A'.foot:=hx
    rcases qG_.mp hx with w |w
    · rw[<-List.append_assoc]at w
      rcases qG_.mp w with w |w
      · exact .inl (qF_ _ w)
      · simp at w;exact .inr (by omega)
    · exact(to.foot x w).elim (fun q=>.inl (qE_ _ q)) .inr
 |rd i=>
  unfold bI
  refine aA (ba (aP (w_var rfl (w_c (bH rfl (w_next ?_))))))
  walk_at "s"
  refine aW rfl (by decide) ?_
  refine jL rfl (by decide) ?_
  refine aA (cJ (bq (w_fld (w_var rfl (aZ ho (by decide) rfl (bX hH (ah (aP (w_var rfl (w_c (bH rfl (ay ?_))))))))))))
  refine FF Y.H W.W hm (fun z=>hE _ _ ?_ r0) (fun j h e hj ha=>hE _ _ ?_ r0) fun j h e hj ha A' G1 c1 to H1=>?_
  · show bS y i true none=_
    unfold bS
    rw[fX z]
  · show bS y i true none=_
    unfold bS
    rw[nQ e hj]
    dsimp only
    rw[hj]
    dsimp only
    rw[if_pos ha]
  · have eR:doneF y (.rd i)= .ok (gO (aF y (bT y.af j h none)) j true none) (.one (.int (y.ak.length:Int))):=by
     show bS y i true none=_
     unfold bS
     rw[nQ e hj]
     dsimp only
     rw[hj]
     dsimp only
     rw[if_neg (by rw[ha];exact qC_)]
    have Y1:=Y.af c1 to H1
    have ho1:=Y1.o
    subst e
    lia
    refine nS (S:={S with A:=A'}) (rd:=true) (v:=none) Y1 (by have:=I.w;show y.ak.length<=1000;omega) (by have:=I.l;show y.last.length<=1000;omega) fun a G2 c2 hl Y2=>?_
    have g1:=c1.1
    have Y1l:=Y1.ltA
    lia
    refine hq _ {S with A:=A',wa:=S.wa++[a]} G2 _ _ eR ((c1.mono fun n hn=>qE_ _ hn).trans' c2 fun n hn=>(Sd.To.af S to).z n hn) ⟨rfl,fun x hx=>?_⟩ Y2 rfl
    have hx:x∈([S.s,S.lw,S.ld]++(S.wa++[a]))++A'.foot:=hx
    rcases qG_.mp hx with w |w
    · rw[<-List.append_assoc]at w
      rcases qG_.mp w with w |w
      · exact .inl (qF_ _ w)
      · simp at w;exact .inr (by omega)
    · exact(to.foot x w).elim (fun q=>.inl (qE_ _ q)) .inr
 |ca n s=>
  unfold bI
  refine aA (ba (aP (w_var rfl (w_c (bH rfl (w_next ?_))))))
  walk_at "s"
  refine aW rfl (by decide) ?_
  refine aW rfl (by decide) ?_
  refine jL rfl (by decide) ?_
  refine aA (ba (bq (w_var rfl (bX ho (ah (bq (w_fld (w_var rfl (aZ ho (by decide) rfl (bX hH (ah (aP (w_var rfl (w_c (bH rfl (ah (aP (w_var rfl (w_c (bH rfl (ay ?_)))))))))))))))))))))
  refine DO Y.H W.W hm (fun z=>hE _ _ (if_pos z) r0) fun p hp hlt le A' G1 c1 to hl H1 h1=>ay ?_
  have eR:doneF y (.ca n s)= .ok (endsF y (aE y.af p s)) (.one (AR (mU y (aE y.af p s)))):=by
   subst hp
   exact if_neg (by intro z;rw[z]at hlt;simp at hlt)
  have hln:=k6 y.af p s
  refine vQ I Y c1 to hl H1 h1 (pR W.W p s) (mz p s) (by omega) fun l2 S' G2 hs c2 to2 Y2 hl2 hn2 h2=>?_
  lia
  refine EO h2 ?_
  cases q:mU y (aE y.af p s)with
  |nil=>
   dsimp only[List.isEmpty]
   lia
   exact hq _ S' G2 _ _ eR c2 to2 Y2 (by rw[q];rfl)
  |cons x r=>
   rw[q]at h2
   dsimp only[List.isEmpty]
   lia
   refine cP h2 (show atI (x :: r) 0=some x from ?_) ?_
   · unfold atI M3.ixN
     simp
   lia
   exact hq _ S' G2 _ _ eR c2 to2 Y2 (by rw[q];rfl)
 |pa i j=>
  unfold bI
  refine aA (ba (aP (w_var rfl (w_c (bH rfl (w_next ?_))))))
  walk_at "s"
  refine aW rfl (by decide) ?_
  refine aW rfl (by decide) ?_
  refine aW rfl (by decide) ?_
  refine jL rfl (by decide) ?_
  refine bA (bq (w_var rfl (bX ho (ah (bq (w_fld (w_var rfl (aZ ho (by decide) rfl (bX hH (ah (aP (w_var rfl (w_c (bH rfl (ah (aP (w_var rfl (w_c (bH rfl (ay ?_))))))))))))))))))))
  refine om Y.H W.W hm (fun z=>hE _ _ ?_ r0) (fun z1 z2=>hE _ _ ?_ r0) fun p k e1 e2 h1 h2 le A' G1 c1 to hl hn H1 g1=>ay ?_
  · unfold doneF
    dsimp only
    rw[fX z]
  · unfold doneF
    dsimp only
    have:inB i y.af.hs.length=some i.toNat:=by unfold inB;rw[if_neg z1]
    rw[this]
    dsimp only
    rw[fX z2]
  have eR:doneF y (.pa i j)= .ok (endsF y (bj (cx p k) y.af)) (.lst (mU y (bj (cx p k) y.af))):=by
   unfold doneF
   dsimp only
   rw[gz e1 h1]
   dsimp only
   rw[gz e2 h2]
  have hln:=mY (cL p k) (mea y.af) y.af W.W (qO_ _)
  obtain⟨i1,i2,i3⟩:=iH (cL p k) (mea y.af) y.af W.W (qO_ _)
  refine vQ I Y c1 to hl H1 g1 i1 i3 (by omega) fun l2 S' G2 hs c2 to2 Y2 hl2 hn2 h2=>?_
  lia
  exact hq _ S' G2 _ _ eR c2 to2 Y2 ⟨l2,rfl,hl2,hn2,h2⟩
 |sw=>
  unfold bI
  refine aA (ba (aP (w_var rfl (w_c (bH rfl (w_next ?_))))))
  walk_at "s"
  refine aW rfl (by decide) ?_
  refine aW rfl (by decide) ?_
  refine aW rfl (by decide) ?_
  refine aW rfl (by decide) ?_
  refine jL rfl (by decide) ?_
  refine bA (bq (w_var rfl (bX ho (ah (bq (w_fld (w_var rfl (aZ ho (by decide) rfl (bX hH (ay ?_))))))))))
  refine DS Y.H W.W hm fun le A' G1 c1 to hl hn H1 g1=>ay ?_
  have hln:=mY bF (mea y.af) y.af W.W (qO_ _)
  obtain⟨i1,i2,i3⟩:=iH bF (mea y.af) y.af W.W (qO_ _)
  refine vQ I Y c1 to hl H1 g1 i1 i3 (by omega) fun l2 S' G2 hs c2 to2 Y2 hl2 hn2 h2=>?_
  lia
  exact hq _ S' G2 _ _ rfl c2 to2 Y2 ⟨l2,rfl,hl2,hn2,h2⟩
 |ag i=>
  unfold bI
  refine aA (ba (aP (w_var rfl (w_c (bH rfl (w_next ?_))))))
  walk_at "s"
  refine aW rfl (by decide) ?_
  refine aW rfl (by decide) ?_
  refine aW rfl (by decide) ?_
  refine aW rfl (by decide) ?_
  refine aW rfl (by decide) ?_
  refine jL rfl (by decide) ?_
  refine bA (bq (w_fld (w_var rfl (aZ ho (by decide) rfl (bX hH (ah (aP (w_var rfl (w_c (bH rfl (ay ?_)))))))))))
  refine DJ Y.H W.W hm (fun z=>hE _ _ ?_ r0) (fun j h e hj ha G1 c1=>hE _ _ ?_ c1) fun j h e hj ha G1 c1 H1=>?_
  · unfold doneF eM
    dsimp only
    rw[fX z]
  · unfold doneF eM
    dsimp only
    rw[nQ e hj]
    dsimp only
    rw[hj]
    dsimp only
    rw[if_neg (by rw[ha];exact qC_)]
  · have eR:doneF y (.ag i)= .ok (aF y {y.af with row:=newRow y.af h}) (.one (.int ((bc h).length:Int))):=by
     unfold doneF eM
     dsimp only
     rw[nQ e hj]
     dsimp only
     rw[hj]
     dsimp only
     rw[if_pos ha]
    have to:=Ad.To.refl S.A G.length
    lia
    exact hq _ S G1 _ _ eR (c1.mono fun n hn=>qE_ _ hn) (Sd.To.refl _ _) (Y.af c1 to H1) rfl
 |qu i=>
  unfold bI
  refine aA (ba (aP (w_var rfl (w_c (bH rfl (w_next ?_))))))
  walk_at "s"
  refine aW rfl (by decide) ?_
  refine aW rfl (by decide) ?_
  refine aW rfl (by decide) ?_
  refine aW rfl (by decide) ?_
  refine aW rfl (by decide) ?_
  refine aW rfl (by decide) ?_
  refine jL rfl (by decide) ?_
  refine aA (cJ (bq (w_fld (w_var rfl (aZ ho (by decide) rfl (bX hH (ah (aP (w_var rfl (w_c (bH rfl (ay ?_))))))))))))
  refine DG Y.H (fun z=>hE _ _ ?_ r0) (fun j h e hj ha=>hE _ _ ?_ r0) fun j h e hj ha G1 c1 H1=>?_
  · unfold doneF eM
    dsimp only
    rw[fX z]
  · unfold doneF eM
    dsimp only
    rw[nQ e hj]
    dsimp only
    rw[hj]
    dsimp only
    rw[if_neg (by rw[ha];exact qC_)]
  · have eR:doneF y (.qu i)= .ok (aF y {y.af with hs:=y.af.hs.set j {h with atw:=false}}) (.one (.int (lastOf y.last j:Int))):=by
     unfold doneF eM
     dsimp only
     rw[nQ e hj]
     dsimp only
     rw[hj]
     dsimp only
     rw[if_pos ha]
    have Y1:=Y.af c1 (Ad.To.refl S.A G.length) H1
    have ho1:=Y1.o
    have hl:=qT W.nd (pj (W.atw j h hj ha))
    subst e
    refine w_next (bA (aP (w_fld (w_var rfl (aZ ho1 (by decide) rfl (aP (w_var rfl (w_c (bH rfl (D9 Y1.d rfl hl ?_))))))))))
    lia
    exact hq _ S G1 _ _ eR (c1.mono fun n hn=>qE_ _ hn) (Sd.To.refl _ _) Y1 rfl
 |st i=>
  unfold bI
  refine aA (ba (aP (w_var rfl (w_c (bH rfl (w_next ?_))))))
  walk_at "s"
  refine aW rfl (by decide) ?_
  refine aW rfl (by decide) ?_
  refine aW rfl (by decide) ?_
  refine aW rfl (by decide) ?_
  refine aW rfl (by decide) ?_
  refine aW rfl (by decide) ?_
  refine aW rfl (by decide) ?_
  refine jL rfl (by decide) ?_
  refine bA (bq (w_fld (w_var rfl (aZ ho (by decide) rfl (bX hH (ah (aP (w_var rfl (w_c (bH rfl (ay ?_)))))))))))
  refine qB Y.H (fun z=>hE _ _ ?_ r0) fun j k e hj G1 c1 H1=>?_
  · unfold doneF jl
    dsimp only
    rw[fX z]
  · have eR:doneF y (.st i)= .ok (aF y {y.af with ks:=y.af.ks.set j {k with up:=false}}) (.one (.bl k.up)):=by
     unfold doneF jl
     dsimp only
     rw[DZ e hj]
     dsimp only
     rw[hj]
    lia
    exact hq _ S G1 _ _ eR (c1.mono fun n hn=>qE_ _ hn) (Sd.To.refl _ _) (Y.af c1 (Ad.To.refl S.A G.length) H1) rfl
 |wa i=>
  unfold bI
  refine aA (ba (aP (w_var rfl (w_c (bH rfl (w_next ?_))))))
  walk_at "s"
  refine aW rfl (by decide) ?_
  refine aW rfl (by decide) ?_
  refine aW rfl (by decide) ?_
  refine aW rfl (by decide) ?_
  refine aW rfl (by decide) ?_
  refine aW rfl (by decide) ?_
  refine aW rfl (by decide) ?_
  refine aW rfl (by decide) ?_
  refine bA (bq (w_fld (w_var rfl (aZ ho (by decide) rfl (bX hH (ah (aP (w_var rfl (w_c (bH rfl (ay ?_)))))))))))
  refine qD Y.H (fun z=>hE _ _ ?_ r0) fun j k e hj G1 c1 H1=>?_
  · unfold doneF jl
    dsimp only
    rw[fX z]
  · have eR:doneF y (.wa i)= .ok (aF y {y.af with ks:=y.af.ks.set j {k with up:=true}}) (.one (.bl (!k.up))):=by
     unfold doneF jl
     dsimp only
     rw[DZ e hj]
     dsimp only
     rw[hj]
    lia
    exact hq _ S G1 _ _ eR (c1.mono fun n hn=>qE_ _ hn) (Sd.To.refl _ _) (Y.af c1 (Ad.To.refl S.A G.length) H1) rfl
end
def wordOf(c:Nat):Str:=if c=1001 then "no hand" else if c=1002 then "no keeper" else if c=1003 then "no letter" else if c=1004 then "busy" else "idle"
def gs(y:Sy)(d:aY):Sy×An:=match doneF y d with
 | .no c=>(y,.one (.str (wordOf c)))
 | .ok z a=>(z,a)
def g7(y:Sy):Sy:={y with aK:=y.aK+1}
def aI(y:Sy)(d:aY):Sy×An:=(g7 (bO (gs y d).1),(gs y d).2)
def cz(y:Sy)(ds:List aY):Sy:=ds.foldl (fun y d=>(aI y d).1) y
def cZ:Sy->List aY->List An
 |_,[]=>[]
 |y,d :: r=>(aI y d).2 :: cZ (aI y d).1 r
def ny(y:Sy)(a b:List aY):cZ y (a++b)=cZ y a++cZ (cz y a) b:=by
 induction a generalizing y with
 |nil=>rfl
 |cons d r ih=>
  show _ :: cZ _ (r++b)=_
  rw[ih]
  rfl
def dH(y:Sy)(a:List aY):(cZ y a).length=a.length:=by
 induction a generalizing y with
 |nil=>rfl
 |cons d r ih=>simp [cZ,ih]
def iG(y:Sy)(a b:List aY):cz y (a++b)=cz (cz y a) b:=List.foldl_append
def CO{y:Sy}{d:aY}{c:Nat}(h:doneF y d= .no c):c=1001\/c=1002\/c=1003\/c=1004\/c=1005:=by
 cases d <;> (unfold doneF at h;(try unfold bS at h);(try unfold eM at h);(try unfold jl at h);dsimp only at h;repeat' split at h) <;> cases h <;> simp
def kH{y z:Sy}(I:Iv1 y z):Iv1 y (bO z):=by
 obtain⟨q1,q2,q3,q4⟩:=cG z.last z
 unfold bO
 exact⟨⟨by rw[q2];exact I.W.W,by rw[q1,q2,q4];exact I.W.la,by rw[q1];exact I.W.nd,by rw[q1,q2];exact I.W.atw⟩,q3.trans I.d,by rw[q2];exact I.m,by rw[q4];exact I.w,by rw[q1];exact I.l,by rw[q2];exact I.hl,by rw[q2];exact I.kl⟩
def mV{y:Sy}(I:Iv y)(d:aY):Iv1 y (gs y d).1:=by
 unfold gs
 split
 · exact I.same
 · rename_i z a h
   exact CV I d h
def BV{y z:Sy}(I:Iv1 y z):Iv (g7 z):=by
 have h1:=I.d
 have h2:=I.m
 have h3:=I.w
 refine⟨⟨I.W.W,I.W.la,I.W.nd,I.W.atw⟩,?_,?_,I.l⟩
 · show mea z.af<=40*(z.aK+1);omega
 · show z.ak.length<=z.aK+1;omega
def kW{y:Sy}(I:Iv y)(d:aY):Iv (aI y d).1:=BV (kH (mV I d))
def wA{y:Sy}(I:Iv y)(d:aY):(aI y d).1.aK=y.aK+1:=by
 show (bO (gs y d).1).aK+1=_
 rw[(kH (mV I d)).d]
def Bj{y:Sy}(I:Iv y)(d:aY):(aI y d).1.af.hs.length=y.af.hs.length/\(aI y d).1.af.ks.length=y.af.ks.length:=⟨(kH (mV I d)).hl,(kH (mV I d)).kl⟩
def gV{y:Sy}(I:Iv y)(ds:List aY):Iv (cz y ds)/\(cz y ds).aK=y.aK+ds.length/\(cz y ds).af.hs.length=y.af.hs.length/\(cz y ds).af.ks.length=y.af.ks.length:=by
 induction ds generalizing y with
 |nil=>exact⟨I,rfl,rfl,rfl⟩
 |cons d r ih=>
  obtain⟨a,b,c,e⟩:=ih (kW I d)
  obtain⟨p,q⟩:=Bj I d
  refine⟨a,b.trans ?_,c.trans p,e.trans q⟩
  rw[wA I d,List.length_cons]
  omega
section
variable{G G':Hh}{Q:D->Hh->Prop}{E:Nat->Hh->Prop}{S:Sd}{y:Sy}{σ:St}{QS:Fl×St->Hh->Prop}
def mn.chg{n:Nat}{a:An}{v:D}{T:List Nat}(h:mn S n G a v)(c:Chg T G G')(ht:∀x∈T,x∈S.all):mn S n G' a v:=by
 cases a with
 |one d=>exact h
 |lst ds=>
  obtain⟨l,e,h1,h2,h3⟩:=h
  exact⟨l,e,h1,h2,c.get h3 fun z=>h2 (ht l z)⟩
def mn.on{S':Sd}{n:Nat}{a:An}{v:D}(h:mn S n G a v)(c:Chg S.all G G')(t:S.To S' G.length):mn S' n G' a v:=by
 cases a with
 |one d=>exact h
 |lst ds=>
  obtain⟨l,e,h1,h2,h3⟩:=h
  have:=ax h3
  exact⟨l,e,h1,fun z=>(t.z l z).elim h2 fun w=>by omega,c.get h3 h2⟩
def cq.count(Y:cq G S y)(c:Chg [S.s] G G')(h:G'[S.s]? =some (.ins 4 [(17,.ref S.A.a),(18,.ref S.lw),(19,.ref S.ld),(20,.int ((y.aK+1:Nat):Int))])):cq G' S (g7 y):=by
 obtain⟨n1,n2,n3,n4,n5⟩:=iI Y.nd
 have ns:∀n,n≠S.s->n∉ [S.s]:=fun n h z=>h (by simpa using z)
 exact⟨h,c.get Y.w (ns _ (Ne.symm n1)),c.get Y.d (ns _ (Ne.symm n2)),Y.wl,fun i a w h1 h2=>c.get (Y.wk i a w h1 h2) (ns _ (n5 a (qD_ h1)).1),Y.H.frame c (by intro n hn;simp at hn;rw[hn];exact Y.dj _ (by simp [Sd.own])),Y.nd,Y.dj⟩
def mH{d:aY}(I:Iv y)(hd:y.aK<=1000)(Y:cq G S y)
 (hq:∀v S' G',Chg S.all G G'->S.To S' G.length->cq G' S' (gs y d).1->mn S' G.length G' (gs y d).2 v->Q v G'):M3.run (bQ [.ref S.s,bI d]) G Q E:=by
 have ho:=Y.o
 walk_at "f"
 unfold cE
 refine IT (bq (w_var rfl (bX ho (ah (w_var rfl (ay ?_))))))
 refine F8 I hd Y (fun c G1 e c1=>?_) fun v S' G1 z a e c1 t Y1 h1=>?_
 · have e1:gs y d=(y,.one (.str (wordOf c))):=by unfold gs;rw[e]
   have Y1:cq G1 S (gs y d).1:=by rw[e1];exact Y.frame c1 (by simp)
   have q:=hq (.str (wordOf c)) S G1 (c1.mono (by simp)) (Sd.To.refl _ _) Y1 (by rw[e1];rfl)
   rcases CO e with rfl |rfl |rfl |rfl |rfl
   · exact⟨_,rfl,bA (w_c (je q))⟩
   · exact⟨_,rfl,bA (w_c (je q))⟩
   · exact⟨_,rfl,bA (w_c (je q))⟩
   · exact⟨_,rfl,bA (w_c (je q))⟩
   · exact⟨_,rfl,bA (w_c (je q))⟩
 · have e1:gs y d=(z,a):=by unfold gs;rw[e]
   refine je (hq v S' G1 c1 t (by rw[e1];exact Y1) (by rw[e1];exact h1))
def zH{d:aY}(I:Iv y)(hd:y.aK<=1000)(Y:cq G S y)
 (hq:∀v S' G',Chg S.all G G'->S.To S' G.length->cq G' S' (aI y d).1->mn S' G.length G' (aI y d).2 v->Q v G'):M3.run (b0 [.ref S.s,bI d]) G Q E:=by
 have ho:=Y.o
 walk_at "f"
 unfold gA
 refine aA (ba (bq (w_var rfl (bX ho (ah (w_var rfl (ay ?_)))))))
 refine mH I hd Y fun v S1 G1 c1 t1 Y1 h1=>w_next ?_
 walk_at "s"
 have I1:=mV I d
 have ho1:=Y1.o
 rw[t1.s]at ho1
 refine aA (cJ (bq (w_var rfl (bX ho1 (ay ?_)))))
 rw[<-t1.s]
 refine qF Y1 I1.W fun G2 c2 Y2=>w_next ?_
 have ho2:=Y2.o
 have h2:=h1.chg c2 fun x hx=>qF_ _ hx
 refine aA (fG (aP (w_fld (w_var rfl (aZ ho2 (by decide) rfl (w_c (wR (w_var rfl ?_))))))))
 refine aM ho2 ⟨by decide,qP_ rfl⟩ fun G3 c3 l3 h3=>?_
 lia
 have sm:S1.s∈S1.all:=qF_ _ (by simp [Sd.own])
 refine hq v S1 G3 ?_ t1 (Y2.count c3 ?_) (h2.chg c3 (by intro x hx;simp at hx;rw[hx];exact sm))
 · refine(c1.trans' c2 fun n hn=>t1.z n (qF_ _ hn)).trans' c3 fun n hn=>?_
   simp at hn
   rw[hn]
   exact t1.z _ sm
 · exact h3
end
def k0:Kr:=⟨start,true⟩
def dR(count many:Nat):Hl:=⟨List.replicate count k0,(List.range many).map fun i=>kA i count,[]⟩
def bt(count many:Nat):Sy:=⟨dR count many,[],[],0⟩
def kS{c m:Nat}(hc:c<=9)(hm:m<=9):Iv (bt c m):=by
 have hg:∀(i:Nat) h,(dR c m).hs[i]? =some h->h=kA i c:=by
  intro i h hh
  unfold dR at hh
  dsimp only at hh
  rw[qQ_]at hh
  cases q:(List.range m)[i]? with
  |none=>rw[q]at hh;cases hh
  |some j=>
   rw[q]at hh
   obtain⟨h1,h2⟩:=qB_.mp q
   rw[List.getElem_range]at h2
   cases hh
   rw[h2]
 have hk:(dR c m).ks.length=c:=by unfold dR;simp
 have hl:(dR c m).hs.length=m:=by unfold dR;simp
 refine⟨⟨⟨fun i h hh=>?_,fun e he=>(by cases he),by rw[show (bt c m).af=dR c m from rfl,hk];exact hc,by rw[show (bt c m).af=dR c m from rfl,hl];exact hm⟩,fun e he=>(by cases he),List.nodup_nil,fun i h hh ha=>?_⟩,?_,qO_ _,qf_ _⟩
 · rw[hg i h hh]
   exact⟨rfl,hk.symm,by simp [kA],by simp [kA],by simp [kA]⟩
 · rw[hg i h hh]at ha
   cases ha
 · show mea (dR c m)<=0
   unfold mea dR
   dsimp only
   rw[qb_]
   have:∀l:List Nat,(l.map (pot ∘ fun i=>kA i c)).sum=0:=by
    intro l
    induction l with
    |nil=>rfl
    |cons x r ih=>rw[List.map_cons,List.sum_cons,ih];rfl
   rw[this]
   exact qO_ _
section
variable{G G':Hh}{Q:D->Hh->Prop}{E:Nat->Hh->Prop}{S:Sd}{y:Sy}{σ:St}{QS:Fl×St->Hh->Prop}
def jn{it:I3}{cap:List Nat}{cond:T3}{elt:E3}
 (h:M3.run (it σ) G (fun s G1=>M3.run (b8 s.ck (fun x=>cond (some x :: ef σ cap)) (fun x=>elt (some x :: ef σ cap)) s.xs []) G1 (fun ys G2=>∀G3,Chg [] G2 G3->G3.length=G2.length+1->G3[G2.length]? =some (.lst ys)->Q (.ref G2.length) G3) E) E):M3.run (gb it cap cond elt σ) G Q E:=
 s9 (au h (fun s G1 q=>au q (fun ys G2 q=>q _ (Chg.add _ _) (by simp) (aV _ _)) fun _ _ z=>z) fun _ _ z=>z)
def qL{a:Nat}(ha:G[a]? =some (.ins 1 []))(hq:∀G',Chg [a] G G'->gx G' a k0->Q .non G'):M3.run (fJ [.ref a]) G Q E:=by
 walk_at "f"
 unfold hZ
 lia
 refine aM ha ⟨by decide,qP_ rfl⟩ fun G1 c1 l1 h1=>?_
 lia
 refine aM h1 ⟨by decide,qP_ rfl⟩ fun G2 c2 l2 h2=>?_
 lia
 exact hq G2 (c1.trans c2) h2
def pk{i:Int}{j:Nat}{QI:Src->Hh->Prop}(e:i=(j:Int))(hj:j<=1000000)(h:QI ⟨rng 0 j,fun _=>true⟩ G):M3.run (Cf (.int i)) G QI E:=by
 rw[e]
 with_reducible exact gB hj h
def uS{a c m:Nat}{ci mi:Int}(hci:ci=(c:Int))(hmi:mi=(m:Int))(ha:G[a]? =some (.ins 2 []))(hc:c<=9)(hm:m<=9)(hq:∀A G',A.a=a->Chg [a] G G'->(∀x∈A.foot,x=a\/G.length<=x)->bw G' A (dR c m)->Q .non G'):M3.run (fR [.ref a,.int ci,.int mi]) G Q E:=by
 have hal:=ax ha
 unfold fR
 with_reducible refine M3.DT rfl ?_
 simp only[List.map_cons,List.map_nil,List.cons_append,qc_]
 unfold kB
 with_reducible refine aA ?_
 with_reducible refine fG ?_
 with_reducible refine jn ?_
 with_reducible refine gM ?_
 walk_at "w"
 with_reducible refine pk hci (by omega) ?_
 with_reducible refine jo (xs:=rng 0 c) (fun i acc G'=>∃ka:List Nat,acc=refs ka/\ka.length=i/\ka.Nodup/\(∀x∈ka,G.length<=x/\gx G' x k0)/\Chg [] G G') (fun _ _ _ _=>rfl) ?_ ?_ _ 0 [] G List.drop_zero (qf_ _) ⟨[],rfl,rfl,List.nodup_nil,by simp,Chg.refl _ _⟩
 · rintro i x acc G' hx ⟨ka,rfl,hl,hnd,hk,cc⟩
   obtain⟨_,hi⟩:=mM hx
   refine fZ ?_
   rw[if_pos rfl]
   refine kQ (ay fun G1 c1 l1 h1=>?_)
   refine qL h1 fun G2 c2 h2=>⟨rfl,?_,ka++[G'.length],?_,?_,?_,?_,?_⟩
   · unfold refs;rw[qM_,hl];unfold aC;omega
   · unfold refs;rw[qT_];rfl
   · simp [hl]
   · rw[List.nodup_append]
     refine⟨hnd,by simp,fun x hx y hy w=>?_⟩
     simp at hy
     have:=ax (hk x hx).2
     omega
   · intro x hx
     have g:=cc.1
     rcases qG_.mp hx with w |w
     · obtain⟨q1,q2⟩:=hk x w
       have:=ax q2
       exact⟨q1,c2.get (c1.get q2 (by simp)) (by simp;omega)⟩
     · simp at w
       subst w
       exact⟨g,h2⟩
   · have g:=cc.1
     exact cc.trans (c1.trans' c2 (by intro n hn;simp at hn;rw[hn];exact .inr (qO_ _)))
 rintro acc G1 ⟨ka,rfl,hkl,hknd,hk,cc1⟩
 rw[oE]at hkl
 refine fun G2 c2 l2 h2=>w_var rfl ?_
 have cc2:=cc1.trans c2
 have ha2:=cc2.get ha (by simp)
 refine aM ha2 ⟨by decide,qP_ rfl⟩ fun G3 c3 l3 h3=>w_next ?_
 have g1:=cc1.1
 with_reducible refine aA ?_
 with_reducible refine fG ?_
 with_reducible refine jn ?_
 with_reducible refine gM ?_
 walk_at "w"
 with_reducible refine pk hmi (by omega) ?_
 with_reducible refine jo (xs:=rng 0 m) (fun i acc G'=>∃ha da:List Nat,acc=refs ha/\ha.length=i/\da.length=i/\(ha++da).Nodup/\(∀x∈ha++da,G3.length<=x/\x < G'.length)/\(∀(j:Nat) a d,ha[j]? =some a->da[j]? =some d->fI G' a d (kA j c))/\Chg [] G3 G') (fun _ _ _ _=>rfl) ?_ ?_ _ 0 [] G3 List.drop_zero (qf_ _) ⟨[],[],rfl,rfl,rfl,(by simp),(by simp),(by simp),Chg.refl _ _⟩
 · rintro i x acc G' hx ⟨ha,da,rfl,hl,hdl,hnd,hk,hh,cc⟩
   obtain⟨rfl,hi⟩:=mM hx
   rw[Int.zero_add]
   refine fZ ?_
   rw[if_pos rfl]
   refine kQ (ah (w_var rfl (ah (w_var rfl (ay fun G4 c4 l4 h4=>?_)))))
   rw[hci]
   with_reducible refine uE h4 fun G5 d c5 hd h5=>⟨rfl,?_,ha++[G'.length],da++[d],?_,?_,?_,?_,?_,?_,?_⟩
   · unfold refs;rw[qM_,hl];unfold aC;omega
   · unfold refs;rw[qT_];rfl
   · simp [hl]
   · simp [hdl]
   · have hlt:∀x∈ha++da,x < G'.length:=fun x hx=>(hk x hx).2
     refine(List.Perm.nodup_iff (l₂:=(ha++da)++[G'.length,d]) ?_).mpr ?_
     · rw[List.append_assoc,List.append_assoc]
       exact List.Perm.append_left ha (show (G'.length :: (da++[d])).Perm (da++G'.length :: [d])from List.perm_middle.symm)
     · rw[List.nodup_append]
       refine⟨hnd,by simp;omega,fun x hx y hy w=>?_⟩
       have:=hlt x hx
       simp at hy
       rcases hy with q |q <;> omega
   · intro x hx
     have g:=cc.1
     have l5:=ax h5.1
     have l6:=ax h5.2
     have g5:=c5.1
     simp only[qG_,qS_,List.not_mem_nil,or_false]at hx
     rcases hx with (w |w) |(w |w)
     · have:=hk x (qF_ _ w);omega
     · omega
     · have:=hk x (qE_ _ w);omega
     · omega
   · intro j a' d' e1 e2
     by_cases z:j < i
     · rw[qK_ (by omega)]at e1
       rw[qK_ (by omega)]at e2
       have q:=hh j a' d' e1 e2
       have r1:=ax q.1
       have r2:=ax q.2
       exact(q.chg c4 (by simp) (by simp)).chg c5 (by simp;omega) (by simp;omega)
     · have z1:j=i:=by
        have:=(qB_.mp e1).1
        simp at this
        omega
       subst z1
       rw[qL_ (by omega)]at e1 e2
       simp [hl]at e1
       simp [hdl]at e2
       subst e1 e2
       exact h5
   · exact cc.trans (c4.trans' c5 (by intro n hn;simp at hn;rw[hn];exact .inr (qO_ _)))
 rintro acc G4 ⟨hA,dA,rfl,hhl,hdl,hnd,hk4,hh,cc4⟩
 rw[oE]at hhl hdl
 refine fun G5 c5 l5 h5=>w_var rfl ?_
 have ha5:=c5.get (cc4.get h3 (by simp)) (by simp)
 refine aM ha5 ⟨by decide,qP_ rfl⟩ fun G6 c6 l6 h6=>w_next ?_
 refine fG (dM fun G7 c7 l7 h7=>w_var rfl ?_)
 have ha7:=c7.get h6 (by simp)
 refine aM ha7 ⟨by decide,qP_ rfl⟩ fun G8 c8 l8 h8=>?_
 have g4:=cc4.1
 have na:∀x,x≠a->x∉ [a]:=fun x h z=>h (by simpa using z)
 have k8:G8[G1.length]? =some (.lst (refs ka)):=c8.get (c7.get (c6.get (c5.get (cc4.get (c3.get h2 (na _ (by omega))) (by simp)) (by simp)) (na _ (by omega))) (by simp)) (na _ (by omega))
 have r8:G8[G4.length]? =some (.lst (refs hA)):=c8.get (c7.get (c6.get h5 (na _ (by omega))) (by simp)) (na _ (by omega))
 have e8:G8[G6.length]? =some (.lst []):=c8.get h7 (na _ (by omega))
 refine sO ?_
 refine hq ⟨a,G1.length,G4.length,G6.length,ka,hA,dA⟩ G8 rfl ?_ ?_ ⟨h8,k8,r8,e8,?_,?_,?_,?_,?_,?_⟩
 · exact((cc2.mono (by simp)).trans c3).trans ((((cc4.mono (by simp)).trans (c5.mono (by simp))).trans c6).trans ((c7.mono (by simp)).trans c8))
 · intro x hx
   unfold Ad.foot at hx
   simp only[qG_,qS_,List.not_mem_nil,or_false]at hx
   rcases hx with (w |w |w |w) |(w |w |w)
   · exact .inl w
   · exact .inr (by omega)
   · exact .inr (by omega)
   · exact .inr (by omega)
   · exact .inr (hk x w).1
   · have:=hk4 x (qF_ _ w);exact .inr (by omega)
   · have:=hk4 x (qE_ _ w);exact .inr (by omega)
 · unfold dR;simp [hkl]
 · unfold dR;simp [hhl]
 · unfold dR;simp [hdl]
 · intro i x k h1 h2
   have hk':=hk x (qD_ h1)
   have hlt:=ax hk'.2
   have:k=k0:=by
    have:=qD_ h2
    unfold dR at this
    exact(List.mem_replicate.mp this).2
   subst this
   exact c8.get (c7.get (c6.get (c5.get (cc4.get (c3.get (c2.get hk'.2 (by simp)) (na _ (by omega))) (by simp)) (by simp)) (na _ (by omega))) (by simp)) (na _ (by omega))
 · intro i x d h h1 h2 h3'
   have q:=hh i x d h1 h2
   have e:h=kA i c:=by
    unfold dR at h3'
    dsimp only at h3'
    rw[qQ_]at h3'
    cases w:(List.range m)[i]? with
    |none=>rw[w]at h3';cases h3'
    |some j=>
     rw[w]at h3'
     obtain⟨_,w2⟩:=qB_.mp w
     rw[List.getElem_range]at w2
     cases h3'
     rw[w2]
   subst e
   have u1:=hk4 x (qF_ _ (qD_ h1))
   have u2:=hk4 d (qE_ _ (qD_ h2))
   exact(((q.chg c5 (by simp) (by simp)).chg c6 (na _ (by omega)) (na _ (by omega))).chg c7 (by simp) (by simp)).chg c8 (na _ (by omega)) (na _ (by omega))
 · unfold Ad.foot
   dsimp only
   rw[List.nodup_append]
   refine⟨by simp;omega,?_,fun x hx z hz w=>?_⟩
   · rw[List.nodup_append]
     refine⟨hknd,hnd,fun x hx z hz w=>?_⟩
     have u1:=ax (hk x hx).2
     have u2:=hk4 z hz
     omega
   · subst w
     simp only[qS_,List.not_mem_nil,or_false]at hx
     rcases qG_.mp hz with q |q
     · have u1:=(hk x q).1
       have u2:=ax (hk x q).2
       omega
     · have:=hk4 x q
       omega
def my{a c m:Nat}{ci mi:Int}(hci:ci=(c:Int))(hmi:mi=(m:Int))(ha:G[a]? =some (.ins 4 []))(hc:c<=9)(hm:m<=9)
 (hq:∀S G',S.s=a->Chg [a] G G'->(∀x∈S.all,x=a\/G.length<=x)->cq G' S (bt c m)->Q .non G'):M3.run (dE [.ref a,.int ci,.int mi]) G Q E:=by
 have hal:=ax ha
 have na:∀x,x≠a->x∉ [a]:=fun x h z=>h (by simpa using z)
 walk_at "f"
 unfold iQ
 refine aA (fG (kQ (ah (w_var rfl (ah (w_var rfl (ay fun G1 c1 l1 h1=>?_)))))))
 refine uS hci hmi h1 hc hm fun A G2 hA c2 hf H2=>⟨rfl,w_var rfl ?_⟩
 have ns2:∀x,x < G.length->x∉ [G.length]:=fun x h z=>by simp at z;omega
 have ha2:=c2.get (c1.get ha (by simp)) (ns2 _ hal)
 refine aM ha2 ⟨by decide,qP_ rfl⟩ fun G3 c3 l3 h3=>w_next ?_
 refine aA (fG (dM fun G4 c4 l4 h4=>w_var rfl ?_))
 have ha4:=c4.get h3 (by simp)
 refine aM ha4 ⟨by decide,qP_ rfl⟩ fun G5 c5 l5 h5=>w_next ?_
 refine aA (fG (pT fun G6 c6 l6 h6=>w_var rfl ?_))
 have ha6:=c6.get h5 (by simp)
 refine aM ha6 ⟨by decide,qP_ rfl⟩ fun G7 c7 l7 h7=>w_next ?_
 refine fG (w_c (w_var rfl ?_))
 refine aM h7 ⟨by decide,qP_ rfl⟩ fun G8 c8 l8 h8=>sO ?_
 have g2:=c2.1
 have hfa:∀x∈A.foot,x≠a/\G.length<=x/\x < G2.length:=fun x hx=>by
  have:=H2.lt x hx
  rcases hf x hx with w |w <;> omega
 have fr:∀{T:List Nat} {X Y:Hh},Chg T X Y->(∀n∈T,n=a)->bw X A (dR c m)->bw Y A (dR c m):=fun cc ht H=>H.frame cc fun n hn z=>(hfa n z).1 (ht n hn)
 have e1:∀n∈ [a],n=a:=by simp
 have e0:∀n∈([]:List Nat),n=a:=by simp
 have H8:=fr c8 e1 (fr c7 e1 (fr c6 e0 (fr c5 e1 (fr c4 e0 (fr c3 e1 H2)))))
 rw[<-hA]at h8
 have n1:G3.length∉ [a]:=na _ (by omega)
 have n2:G5.length∉ [a]:=na _ (by omega)
 have w8:G8[G3.length]? =some (.lst []):=c8.get (c7.get (c6.get (c5.get h4 n1) (by simp)) n1) n1
 have d8:G8[G5.length]? =some (.dK []):=c8.get (c7.get h6 n2) n2
 refine hq ⟨a,G3.length,G5.length,[],A⟩ G8 rfl ?_ ?_ ⟨h8,w8,d8,rfl,by simp,H8,?_,?_⟩
 · exact(((c1.mono (T:=[a]) (by simp)).trans' c2 (by intro n hn;simp at hn;exact .inr (by omega))).trans c3 |>.trans (c4.mono (by simp)) |>.trans c5 |>.trans (c6.mono (by simp)) |>.trans c7 |>.trans c8)
 · intro x hx
   rcases qG_.mp hx with w |w
   · unfold Sd.own at w
     simp only[qY_,qS_,List.not_mem_nil,or_false]at w
     rcases w with w |w |w
     · exact .inl w
     · exact .inr (by omega)
     · exact .inr (by omega)
   · exact .inr (hfa x w).2.1
 · unfold Sd.own
   simp
   omega
 · intro x hx z
   unfold Sd.own at hx
   simp only[qY_,qS_,List.not_mem_nil,or_false]at hx
   have:=hfa x z
   omega
def q9{d:aY}{s:Nat}(hs:S.s=s)(I:Iv y)(hd:y.aK<=1000)(Y:cq G S y)
 (hq:∀v S' G',Chg S.all G G'->S.To S' G.length->cq G' S' (aI y d).1->mn S' G.length G' (aI y d).2 v->Q v G'):M3.run (b0 [.ref s,bI d]) G Q E:=by
 subst hs
 exact zH I hd Y hq
def lH(S:Sd)(n:Nat)(G:Hh)(as:List An)(vs:List D):Prop:=as.length=vs.length/\∀(i:Nat) a v,as[i]? =some a->vs[i]? =some v->mn S n G a v
def mn.mono{n m:Nat}{a:An}{v:D}(h:mn S n G a v)(hm:m<=n):mn S m G a v:=by
 cases a with
 |one d=>exact h
 |lst ds=>
  obtain⟨l,e,h1,h2,h3⟩:=h
  exact⟨l,e,Nat.le_trans hm h1,h2,h3⟩
def lH.snoc{n:Nat}{as:List An}{vs:List D}{a:An}{v:D}(h:lH S n G as vs)(h1:mn S n G a v):lH S n G (as++[a]) (vs++[v]):=by
 refine⟨by simp [h.1],fun i b w hb hw=>?_⟩
 by_cases z:i < as.length
 · rw[qK_ z]at hb
   rw[qK_ (by rw[<-h.1];exact z)]at hw
   exact h.2 i b w hb hw
 · rw[qL_ (by omega)]at hb
   rw[qL_ (by rw[<-h.1];omega)]at hw
   have:i - as.length=0:=by
    have:=(qB_.mp hb).1
    simp at this
    omega
   rw[this]at hb
   rw[<-h.1,this]at hw
   simp at hb hw
   subst hb hw
   exact h1
def ui{ds:List aY}{i:Nat}{d:aY}(h:ds[i]? =some d)(y:Sy):cz y (ds.take (i+1))=(aI (cz y (ds.take i)) d).1/\cZ y (ds.take (i+1))=cZ y (ds.take i)++[(aI (cz y (ds.take i)) d).2]:=by
 rw[take_succ h,iG,ny]
 exact⟨rfl,rfl⟩
def zl{c m l:Nat}{ci mi:Int}{ds:List aY}(hci:ci=(c:Int))(hmi:mi=(m:Int))(hc:c<=9)(hm:m<=9)(hl:G[l]? =some (.lst (ds.map bI)))(hz:ds.length<=1000)
 (hq:∀S la vs G',Chg [] G G'->G.length<=la->G'[la]? =some (.lst vs)->lH S G.length G' (cZ (bt c m) ds) vs->Q (.ref la) G'):M3.run (kO [.int ci,.int mi,.ref l]) G Q E:=by
 have hll:=ax hl
 walk_at "f"
 unfold nG
 refine aA (ba (kQ (ah (w_var rfl (ah (w_var rfl (ay fun G1 c1 l1 h1=>?_)))))))
 refine my hci hmi h1 hc hm fun S0 G2 hS c2 hf Y2=>⟨rfl,w_next ?_⟩
 walk_at "s"
 have I0:=kS hc hm
 have c12:Chg [] G G2:=c1.trans' c2 (by intro n hn;simp at hn;rw[hn];exact .inr (qO_ _))
 have hf0:∀x∈S0.all,G.length<=x:=fun x hx=>by rcases hf x hx with w |w <;> omega
 have hl2:=c12.get hl (by simp)
 refine bA (jn (nP (w_var rfl (fF hl2 ?_))))
 refine jo (xs:=ds.map bI) (fun i acc G'=>∃S',Chg [] G G'/\S'.s=G.length/\(∀x∈S'.all,G.length<=x)/\cq G' S' (cz (bt c m) (ds.take i))/\lH S' G.length G' (cZ (bt c m) (ds.take i)) acc) ?_ ?_ ?_ _ 0 [] G2 List.drop_zero (qf_ _) ⟨S0,c12,hS,hf0,Y2,rfl,by intro i a v h;simp [cZ]at h⟩
 · rintro i acc G' ⟨S',cc,_⟩
   exact qZ_ (cc.get hl (by simp))
 · rintro i x acc G' hx ⟨S',cc,hs,hf',Y',A'⟩
   obtain⟨d,hd,rfl⟩:=oA hx
   obtain⟨I',hdd,_,_⟩:=gV I0 (ds.take i)
   obtain⟨e1,e2⟩:=ui hd (bt c m)
   have hdd':(cz (bt c m) (ds.take i)).aK<=1000:=by
    rw[hdd,List.length_take]
    show 0+_<=_
    omega
   have ho:=Y'.o
   rw[hs]at ho
   refine fZ ?_
   rw[if_pos rfl]
   refine bq (w_var rfl (bX ho (ah (w_var rfl (ay ?_)))))
   refine q9 hs (d:=d) I' hdd' Y' fun v S2 G2 c2 t2 Y2 A2=>?_
   have g:=cc.1
   refine⟨?_,S2,?_,t2.s.trans hs,fun x hx=>?_,by rw[e1];exact Y2,?_⟩
   · rw[<-A'.1,dH,List.length_take];unfold aC;omega
   · exact cc.trans' c2 fun n hn=>.inr (hf' n hn)
   · rcases t2.z x hx with w |w
     · exact hf' x w
     · omega
   · rw[e2]
     exact lH.snoc ⟨A'.1,fun j a w h1 h2=>(A'.2 j a w h1 h2).on c2 t2⟩ (A2.mono g)
 · rintro acc G' ⟨S',cc,hs,hf',Y',A'⟩
   rw[qM_,List.take_length]at*
   intro G3 c3 l3 h3
   lia
   exact hq S' G'.length acc G3 (cc.trans c3) cc.1 h3 ⟨A'.1,fun j a w h1 h2=>(A'.2 j a w h1 h2).chg c3 (by simp)⟩
def GV{a:Nat}{w:Wk}(ha:nr G a w)(hq:Q (dh w) G):M3.run (gR [.ref a]) G Q E:=by
 unfold nr wkF at ha
 walk_at "f"
 unfold kE
 lia
 exact hq
def sj{f:Nat->D}{xs:List Nat}{ck:Hh->Bool}{cond:D->M Bool}{elt:D->M D}{QA:List D->Hh->Prop}(hck:ck G=true)(hz:xs.length<=1000000)
 (hc:∀x∈xs,M3.run (cond (.ref x)) G (fun c G1=>G1=G/\c=true) E) (he:∀x∈xs,M3.run (elt (.ref x)) G (fun y G1=>G1=G/\y=f x) E)
 (h:QA (xs.map f) G):M3.run (b8 ck cond elt (refs xs) []) G QA E:=by
 refine kU (f:=D.ref) (p:=fun _=>true) (g:=f) hck hz hc (fun x hx _=>he x hx) ?_
 rw[List.filter_eq_self.mpr (fun _ _=>rfl)]
 exact h
def xi{α:Type}{as:List Nat}{ws:List α}{f:Nat->D}{g:α->D}(hl:as.length=ws.length)(h:∀(i:Nat) a w,as[i]? =some a->ws[i]? =some w->f a=g w):as.map f=ws.map g:=by
 apply List.ext_getElem?
 intro i
 rw[qQ_,qQ_]
 cases p:as[i]? with
 |none=>
  have:ws[i]? =none:=by rw[List.getElem?_eq_none_iff]at*;omega
  rw[this]
  rfl
 |some a=>
  have hi:=(qB_.mp p).1
  have:ws[i]? =some ws[i]:=qA_ (by omega)
  rw[this]
  show some (f a)=some (g _)
  rw[h i a _ p this]
def sv(G:Hh)(a:Nat):D:=match G[a]? with
 |some (.ins _ [(_,a),(_,b),(_,c),(_,d),(_,e),_])=>.tup [a,b,c,d,e]
 |_=>.non
def nU(G:Hh)(i:Nat)(a:Nat):D:=match G[a]? with
 |some (.ins _ fs)=>(fs.lookup i).getD .non
 |_=>.non
def zb(y:Sy)(l1 l2 l3:Nat)(G:Hh):Prop:=G[l1]? =some (.lst (y.ak.map dh))/\G[l2]? =some (.lst (y.ak.map fun w=>stD w.lI))/\G[l3]? =some (.lst (y.af.ks.map fun k=>pD k.pair))
def uT{c m l:Nat}{ci mi:Int}{ds:List aY}(hci:ci=(c:Int))(hmi:mi=(m:Int))(hc:c<=9)(hm:m<=9)(hl:G[l]? =some (.lst (ds.map bI)))(hz:ds.length<=1000)
 (hq:∀l1 l2 l3 G',Chg [] G G'->G.length<=l1->G.length<=l2->G.length<=l3->zb (cz (bt c m) ds) l1 l2 l3 G'->Q (.tup [.ref l1,.ref l2,.ref l3]) G'):M3.run (gP [.int ci,.int mi,.ref l]) G Q E:=by
 have hll:=ax hl
 walk_at "f"
 unfold kq
 refine aA (ba (kQ (ah (w_var rfl (ah (w_var rfl (ay fun G1 c1 l1 h1=>?_)))))))
 refine my hci hmi h1 hc hm fun S0 G2 hS c2 hf Y2=>⟨rfl,w_next ?_⟩
 walk_at "s"
 have I0:=kS hc hm
 have c12:Chg [] G G2:=c1.trans' c2 (by intro n hn;simp at hn;rw[hn];exact .inr (qO_ _))
 have hf0:∀x∈S0.all,G.length<=x:=fun x hx=>by rcases hf x hx with w |w <;> omega
 have hl2:=c12.get hl (by simp)
 refine aA (rB (nP (w_var rfl (fF hl2 ?_))))
 refine lW (fun i σ G'=>∃S' v,σ=[some (.int ci),some (.int mi),some (.ref l),some (.ref G.length),v,none,none,none]/\Chg [] G G'/\S'.s=G.length/\(∀x∈S'.all,G.length<=x)/\cq G' S' (cz (bt c m) (ds.take i))) ?_ ?_ ?_ ⟨S0,none,rfl,c12,hS,hf0,Y2⟩
 · rintro i σ G' ⟨S',v,_,cc,_⟩
   exact qZ_ (cc.get hl (by simp))
 · rintro i d σ G' hd ⟨S',v,rfl,cc,hs,hf',Y'⟩
   obtain⟨I',hdd,_,_⟩:=gV I0 (ds.take i)
   obtain⟨e1,e2⟩:=ui hd (bt c m)
   have hdd':(cz (bt c m) (ds.take i)).aK<=1000:=by
    rw[hdd,List.length_take]
    show 0+_<=_
    omega
   have ho:=Y'.o
   rw[hs]at ho
   refine aB (jD ?_)
   walk_at "s"
   refine cJ (bq (w_var rfl (bX ho (ah (w_var rfl (ay ?_))))))
   refine q9 hs (d:=d) I' hdd' Y' fun v S2 G2 c2 t2 Y2 A2=>?_
   have g:=cc.1
   refine⟨S2,_,rfl,cc.trans' c2 fun n hn=>.inr (hf' n hn),t2.s.trans hs,fun x hx=>?_,by rw[e1];exact Y2⟩
   rcases t2.z x hx with w |w
   · exact hf' x w
   · omega
 · rintro σ G3 ⟨S',v,rfl,cc,hs,hf',Y⟩
   rw[List.take_length]at Y
   obtain⟨I',hdd,_,_⟩:=gV I0 ds
   have hw:(cz (bt c m) ds).ak.length<=1000:=by
    have:=I'.w
    rw[hdd]at this
    have:(cz (bt c m) ds).ak.length<=0+ds.length:=this
    omega
   have hk9:=I'.W.W.ksz
   generalize cz (bt c m) ds=y at*
   have ho:=Y.o
   rw[hs]at ho
   refine w_next ?_
   have hwa:∀a∈S'.wa,∃w,nr G3 a w:=fun a ha=>by
    obtain⟨i,hi,e⟩:=List.getElem_of_mem ha
    have h1:S'.wa[i]? =some a:=by rw[qA_ hi,e]
    exact⟨_,Y.wk i a _ h1 (qA_ (by rw[<-Y.wl];exact hi))⟩
   refine aA (ba (jn (nP (w_fld (w_var rfl (aZ ho (by decide) rfl (fF Y.w ?_)))))))
   refine sj (f:=sv G3) (qZ_ Y.w) (by rw[Y.wl];omega) (fun x _=>fZ ⟨rfl,rfl⟩) (fun x hx=>?_) ?_
   · obtain⟨w,hw⟩:=hwa x hx
     have hw0:=hw
     unfold nr wkF at hw0
     refine bq (w_var rfl (bX hw0 (ay ?_)))
     refine GV hw ⟨rfl,?_⟩
     unfold sv
     rw[hw0]
     rfl
   have em1:S'.wa.map (sv G3)=y.ak.map dh:=xi Y.wl fun i a w h1 h2=>by
    have:=Y.wk i a w h1 h2
    unfold nr wkF at this
    unfold sv
    rw[this]
    rfl
   rw[em1]
   intro G4 c4 l4 h4
   refine w_next ?_
   walk_at "s"
   have Y4:=Y.frame c4 (by simp)
   have ho4:=c4.get ho (by simp)
   have hwa4:∀a∈S'.wa,∃w,nr G4 a w:=fun a ha=>by
    obtain⟨w,hw⟩:=hwa a ha
    exact⟨w,c4.get hw (by simp)⟩
   refine aA (ba (jn (nP (w_fld (w_var rfl (aZ ho4 (by decide) rfl (fF Y4.w ?_)))))))
   refine sj (f:=nU G4 16) (qZ_ Y4.w) (by rw[Y4.wl];omega) (fun x _=>fZ ⟨rfl,rfl⟩) (fun x hx=>?_) ?_
   · obtain⟨w,hw⟩:=hwa4 x hx
     unfold nr wkF at hw
     refine w_fld (w_var rfl (aZ hw (by decide) rfl ⟨rfl,?_⟩))
     unfold nU
     rw[hw]
     rfl
   have em2:S'.wa.map (nU G4 16)=y.ak.map fun w=>stD w.lI:=xi Y4.wl fun i a w h1 h2=>by
    have:=Y4.wk i a w h1 h2
    unfold nr wkF at this
    unfold nU
    rw[this]
    rfl
   rw[em2]
   intro G5 c5 l5 h5
   refine w_next ?_
   walk_at "s"
   have Y5:=Y4.frame c5 (by simp)
   have ho5:=c5.get ho4 (by simp)
   have hh5:=Y5.H.o
   have hka:∀a∈S'.A.ka,∃k,gx G5 a k:=fun a ha=>by
    obtain⟨i,hi,e⟩:=List.getElem_of_mem ha
    have h1:S'.A.ka[i]? =some a:=by rw[qA_ hi,e]
    exact⟨_,Y5.H.kr i a _ h1 (qA_ (by rw[<-Y5.H.kl];exact hi))⟩
   refine aA (ba (jn (nP (w_fld (w_fld (w_var rfl (aZ ho5 (by decide) rfl (aZ hh5 (by decide) rfl (fF Y5.H.k ?_)))))))))
   refine sj (f:=nU G5 4) (qZ_ Y5.H.k) (by rw[Y5.H.kl];omega) (fun x _=>fZ ⟨rfl,rfl⟩) (fun x hx=>?_) ?_
   · obtain⟨w,hw⟩:=hka x hx
     unfold gx krF at hw
     refine w_fld (w_var rfl (aZ hw (by decide) rfl ⟨rfl,?_⟩))
     unfold nU
     rw[hw]
     rfl
   have em3:S'.A.ka.map (nU G5 4)=y.af.ks.map fun k=>pD k.pair:=xi Y5.H.kl fun i a w h1 h2=>by
    have:=Y5.H.kr i a w h1 h2
    unfold gx krF at this
    unfold nU
    rw[this]
    rfl
   rw[em3]
   intro G6 c6 l6 h6
   have g3:=cc.1
   refine w_next ?_
   walk_at "s"
   lia
   exact hq G3.length G4.length G5.length G6 (((cc.trans c4).trans c5).trans c6) (by omega) (by omega) (by omega) ⟨c6.get (c5.get h4 (by simp)) (by simp),c6.get h5 (by simp),h6⟩
end
def DIn(c m:Nat):aY->Prop
 | .wr i _=>0<=i/\i < (m:Int)
 | .rd i=>0<=i/\i < (m:Int)
 | .ca _ _=>True
 | .pa i j=>(0<=i/\i < (m:Int))/\(0<=j/\j < (c:Int))
 | .sw=>True
 | .ag i=>0<=i/\i < (m:Int)
 | .qu i=>0<=i/\i < (m:Int)
 | .st j=>0<=j/\j < (c:Int)
 | .wa j=>0<=j/\j < (c:Int)
section
variable{G G':Hh}{Q:D->Hh->Prop}{E:Nat->Hh->Prop}{σ:St}
def oB{xs:List Int}{i:Int}(h0:0<=i)(h1:i < (xs.length:Int)):∃v∈xs,atI (xs.map D.int) i=some (.int v):=by
 have hl:i.toNat < xs.length:=by omega
 exact⟨xs[i.toNat],List.getElem_mem hl,BZ h0 (qA_ hl)⟩
def gW{i:Int}(h:Q (.bl true) G):M3.run (dS [.int i]) G Q E:=by
 walk_at "f"
 unfold tX
 lia
 exact h
def FX{l:Nat}{ns:List Int}{k:Nat}(hl:G[l]? =some (.frz (ns.map D.int)))(h:∀v:Int,Q (.int v) G):M3.run (sJ [.ref l,.int (k:Int)]) G Q E:=by
 unfold sJ
 with_reducible refine M3.DT rfl ?_
 simp only[List.map_cons,List.map_nil,List.cons_append,qc_]
 unfold GK
 lia
 with_reducible refine Fn hl ?_
 lia
 refine w_ite (fun z=>?_) fun z=>?_
 · have z':=of_decide_eq_true z
   rw[qM_]at z'
   obtain⟨v,_,e⟩:=oB (xs:=ns) (i:=(k:Int)) (by omega) z'
   lia
   with_reducible refine Jo hl e ?_
   lia
   exact h v
 · lia
   exact h 0
def Zn(n:Int):Str:=Txt.mul "0" n
def tza{i:Int}(h0:0<=i)(h1:i<=1000)(h:Q (.str (Zn i)) G):M3.run (eP (.str "0") (.int i)) G Q E:=by
 have c:(0:Int)<=i/\i<=1000/\("0":Str).length<=1000:=⟨h0,h1,by decide +kernel⟩
 show M3.run (if (0:Int)<=i/\i<=1000/\("0":Str).length<=1000 then ret (D.str (Txt.mul "0" i))else fail) G _ E
 rw[if_pos c]
 exact h
def Jt:intText? (("1":Str)++Zn 88)=some (10 ^ 88):=by decide +kernel
def JP:intText? (("1":Str)++Zn 90)=some (10 ^ 90):=by decide +kernel
def JD:(("1":Str)++Zn 88).length<=640:=by decide +kernel
def Jv:(("1":Str)++Zn 90).length<=640:=by decide +kernel
def tzc{s:Str}{i:Int}(hn:intText? s=some i)(hl:s.length<=640)(h:Q (.int i) G):M3.run (se [.str s]) G Q E:=by
 refine aG (a:= .int i) (G':=G) ?_ h
 unfold se
 dsimp only
 rw[hn]
 dsimp only
 rw[if_pos hl]
def vW{c k:Int}(h:∀v G',Ext G G'->Q (.int v) G'):M3.run (jh [.int c,.int k]) G Q E:=by
 walk_at "f"
 unfold ma
 lia
 refine tza (by decide) (by decide) ?_
 lia
 refine AF (by decide +kernel) ?_
 lia
 refine tzc Jt JD ?_
 refine iO (by decide) ?_
 lia
 have i1:0<=c*48271 % 1009 % 6:=Int.emod_nonneg _ (by decide)
 have i2:c*48271 % 1009 % 6 < 6:=Int.emod_lt_of_pos _ (by decide)
 obtain⟨v,_,e⟩:=oB (xs:=[k+1,0 - k - 1,1000*k+7,c % 10 ^ 88*100+k,0 - (c % 10 ^ 88*100+k),0]) i1 i2
 refine cP (aV _ _) e ?_
 lia
 exact h v _ (Ext.add _ _)
def Aj{a b:D}{i:Int}(h0:0<=i)(h1:i < 2):atI [a,b] i=some a\/atI [a,b] i=some b:=by
 have:i=0\/i=1:=by omega
 rcases this with rfl |rfl
 · exact .inl rfl
 · exact .inr rfl
def yE{c m:Nat}{x k ci mi:Int}(hci:ci=(c:Int))(hmi:mi=(m:Int))(hc:0 < c)(hm:0 < m)(h:∀d G',Ext G G'->DIn c m d->Q (bI d) G'):M3.run (ix [.int x,.int k,.int ci,.int mi]) G Q E:=by
 have e0:=Ext.refl G
 walk_at "f"
 unfold nF
 lia
 refine iO (by omega) ?_
 lia
 refine iO (by omega) ?_
 have a1:0<=x*48271 % 1019 % mi:=Int.emod_nonneg _ (by omega)
 have a2:x*48271 % 1019 % mi < (m:Int):=by rw[<-hmi];exact Int.emod_lt_of_pos _ (by omega)
 have b1:0<=x*48271 % 1021 % ci:=Int.emod_nonneg _ (by omega)
 have b2:x*48271 % 1021 % ci < (c:Int):=by rw[<-hci];exact Int.emod_lt_of_pos _ (by omega)
 generalize x*48271 % 1019 % mi=hh at*
 generalize x*48271 % 1021 % ci=kk at*
 have w1:0<=x*48271 % 1013 % 20:=Int.emod_nonneg _ (by decide)
 have w2:x*48271 % 1013 % 20 < 20:=Int.emod_lt_of_pos _ (by decide)
 generalize x*48271 % 1013 % 20=way at*
 lia
 refine w_ite (fun z=>?_) fun z1=>?_
 · lia
   refine vW fun v G1 e1=>?_
   lia
   exact h (.wr hh v) G1 e1 ⟨a1,a2⟩
 lia
 refine w_ite (fun z=>?_) fun z2=>?_
 · lia
   exact h (.rd hh) G e0 ⟨a1,a2⟩
 lia
 refine w_ite (fun z=>?_) fun z3=>?_
 · lia
   exact h (.pa hh kk) G e0 ⟨⟨a1,a2⟩,b1,b2⟩
 lia
 refine w_ite (fun z=>?_) fun z4=>?_
 · lia
   refine w_eq (by rfl) ?_
   lia
   refine w_ite (fun z=>?_) fun z=>?_
   · lia
     refine tza (by decide) (by decide) ?_
     lia
     refine AF (by decide +kernel) ?_
     lia
     refine tzc JP Jv ?_
     refine iO (by decide) ?_
     lia
     exact h (.ca _ _) G e0 trivial
   · lia
     exact h (.ca _ _) G e0 trivial
 have z4:=of_decide_eq_false z4
 lia
 refine w_eq (by rfl) ?_
 lia
 refine w_ite (fun z=>?_) fun z5=>?_
 · lia
   exact h (.ag hh) G e0 ⟨a1,a2⟩
 have z5:=of_decide_eq_false z5
 lia
 refine w_eq (by rfl) ?_
 lia
 refine w_ite (fun z=>?_) fun z6=>?_
 · lia
   have i1:0<=x*48271 % 1039 % 2:=Int.emod_nonneg _ (by decide)
   have i2:x*48271 % 1039 % 2 < 2:=Int.emod_lt_of_pos _ (by decide)
   rcases Aj (a:= .tup [.str "quit",.int hh]) (b:= .tup [.str "sweep"]) i1 i2 with e |e
   · refine cP (aV _ _) e ?_
     lia
     exact h (.qu hh) _ (Ext.add _ _) ⟨a1,a2⟩
   · refine cP (aV _ _) e ?_
     lia
     exact h .sw _ (Ext.add _ _) trivial
 have z6:=of_decide_eq_false z6
 lia
 rcases Aj (a:= .tup [.str "stop",.int kk]) (b:= .tup [.str "wake",.int kk]) (i:=way - 16) (by omega) (by omega)with e |e
 · refine cP (aV _ _) e ?_
   lia
   exact h (.st kk) _ (Ext.add _ _) ⟨b1,b2⟩
 · refine cP (aV _ _) e ?_
   lia
   exact h (.wa kk) _ (Ext.add _ _) ⟨b1,b2⟩
def Ct{i j:Nat}{xs:List D}(h1:G[i]? =some (.lst xs))(h2:G[j]? =some (.lst []))(h:Q (.bl (!xs.isEmpty)) G):M3.run (oNe (.ref i) (.ref j)) G Q E:=by
 refine m3 (b:=xs.isEmpty) ?_ h
 have e1:M3.listOf G i=some xs:=by unfold M3.listOf;rw[h1]
 have e2:M3.listOf G j=some []:=by unfold M3.listOf;rw[h2]
 unfold eqG
 dsimp only
 rw[e1,e2]
 dsimp only
 cases xs with
 |nil=>rfl
 |cons a r=>rw[if_neg (by simp)];rfl
def oG{i j:Nat}{a b:List D}(h1:G[i]? =some (.lst a))(h2:G[j]? =some (.lst b))(hl:a.length+b.length<=aC)(h:∀G',Chg [] G G'->G'.length=G.length+1->G'[G.length]? =some (.lst (a++b))->Q (.ref G.length) G'):M3.run (fW (.ref i) (.ref j)) G Q E:=
 Ag h1 h2 hl (h _ (Chg.add _ _) (by simp) (aV _ _))
def iq{a:A3}(h:M3.run (a σ) G (fun xs G1=>xs.length<=aC/\∀G2,Chg [] G1 G2->G2.length=G1.length+1->G2[G1.length]? =some (.lst xs)->Q (.ref G1.length) G2) E):M3.run (cS a σ) G Q E:=
 Ax (au h (fun xs G1 ⟨q1,q2⟩=>⟨q1,q2 _ (Chg.add _ _) (by simp) (aV _ _)⟩) fun _ _ z=>z)
def yS{c m:Nat}{x ci mi:Int}(hci:ci=(c:Int))(hmi:mi=(m:Int))(hc:0 < c)(hm:0 < m)
 (h:∀(ds:List aY) l G',Chg [] G G'->G.length<=l->ds.length<=10->(∀d∈ds,DIn c m d)->G'[l]? =some (.lst (ds.map bI))->Q (.ref l) G'):M3.run (kR [.int x,.int ci,.int mi]) G Q E:=by
 walk_at "f"
 unfold nH
 lia
 refine w_eq (by rfl) ?_
 lia
 refine w_ite (fun z=>?_) fun z=>?_
 · refine aA ?_
   refine ba ?_
   refine iq ?_
   lia
   intro G1 c1 l1 h1
   refine w_next ?_
   walk_at "s"
   refine bA (aP (w_var rfl ?_))
   refine iq ?_
   lia
   intro G2 c2 l2 h2
   refine oG (c2.get h1 (by simp)) h2 (qP_ (by with_unfolding_all rfl)) fun G3 c3 l3 h3=>?_
   lia
   refine h [.wr 0 7,.ca 0 true,.ca 0 true,.ca ci false,.ca ci false] G2.length G3 ((c1.trans c2).trans c3) (by omega) (by simp) ?_ h3
   intro d hd
   simp only[qS_,List.not_mem_nil,or_false]at hd
   rcases hd with rfl |rfl |rfl |rfl |rfl
   · exact⟨by decide,by omega⟩
   all_goals trivial
 lia
 refine w_ite (fun z1=>?_) fun z1=>?_
 · lia
   refine w_eq (by rfl) ?_
   lia
   refine w_ite (fun z2=>?_) fun z2=>?_
   · have z2:=of_decide_eq_true z2
     lia
     refine w_ite (fun z3=>?_) fun z3=>?_
     · have z3:=of_decide_eq_true z3
       refine aA ?_
       refine ba ?_
       refine iq ?_
       lia
       intro G1 c1 l1 h1
       refine w_next ?_
       walk_at "s"
       refine aA (cJ (uN (w_var rfl (iM h1 ?_))))
       refine iq ?_
       lia
       intro G2 c2 l2 h2
       refine gJ (c2.get h1 (by simp)) h2 (by decide) fun G3 c3 l3 h3=>?_
       refine w_next ?_
       refine aA (cJ (uN (w_var rfl (iM h3 ?_))))
       refine iq ?_
       lia
       intro G4 c4 l4 h4
       refine gJ (c4.get h3 (by simp)) h4 (by decide) fun G5 c5 l5 h5=>?_
       refine w_next ?_
       refine bA (aP (w_var rfl ?_))
       refine iq ?_
       lia
       intro G6 c6 l6 h6
       refine oG (c6.get h5 (by simp)) h6 (by decide) fun G7 c7 l7 h7=>?_
       lia
       have c13:Chg [] G G3:=(c1.trans c2).trans' c3 (by intro n hn;simp at hn;exact .inr (by omega))
       have c15:Chg [] G G5:=(c13.trans c4).trans' c5 (by intro n hn;simp at hn;exact .inr (by omega))
       refine h [.rd 0,.ca 0 true,.wr 1 9,.pa 1 0,.pa 1 1,.pa 1 0,.ca 0 true,.ca 6 false,.ca 3 false,.pa 0 2] G6.length G7 ((c15.trans c6).trans c7) (by omega) (by simp) ?_ h7
       intro d hd
       simp only[qS_,List.not_mem_nil,or_false]at hd
       rcases hd with rfl |rfl |rfl |rfl |rfl |rfl |rfl |rfl |rfl |rfl
       · exact⟨by decide,by omega⟩
       · trivial
       · exact⟨by decide,by omega⟩
       · exact⟨⟨by decide,by omega⟩,by decide,by omega⟩
       · exact⟨⟨by decide,by omega⟩,by decide,by omega⟩
       · exact⟨⟨by decide,by omega⟩,by decide,by omega⟩
       · trivial
       · trivial
       · trivial
       · exact⟨⟨by decide,by omega⟩,by decide,by omega⟩
     · lia
       exact h [] _ _ (Chg.add _ _) (qO_ _) (by simp) (by simp) (aV _ _)
   · lia
     exact h [] _ _ (Chg.add _ _) (qO_ _) (by simp) (by simp) (aV _ _)
 · lia
   exact h [] _ _ (Chg.add _ _) (qO_ _) (by simp) (by simp) (aV _ _)
def BF{c m l:Nat}{ci mi:Int}{ns:List Int}(hci:ci=(c:Int))(hmi:mi=(m:Int))(hc:0 < c)(hm:0 < m)(hl:G[l]? =some (.lst (ns.map D.int)))(hz:ns.length<=100)
 (h:∀(ds:List aY) ld G',Chg [] G G'->G.length<=ld->ds.length<=ns.length+10->(∀d∈ds,DIn c m d)->G'[ld]? =some (.lst (ds.map bI))->Q (.ref ld) G'):M3.run (oI [.ref l,.int ci,.int mi]) G Q E:=by
 have hll:=ax hl
 walk_at "f"
 unfold sP
 refine aA (ba (dM fun G1 c1 l1 h1=>w_next ?_))
 walk_at "s"
 have hl1:=c1.get hl (by simp)
 have loop:∀(ds:List aY) (ld:Nat) (G2:Hh),Chg [] G G2->G.length<=ld->ds.length<=10->(∀d∈ds,DIn c m d)->G2[ld]? =some (.lst (ds.map bI))->
  M3.run ((ao (jM (gc (av cQ (aa (ae 0) ai))) (gNm 4) (bP (pV (ae 3) (av ix (aa (eOp fW (eOp oIx (ae 0) (ae 4)) (eOp eP (eC (.int 7)) (ae 4))) (aa (ae 4) (aa (ae 1) (aa (ae 2) ai)))))))) (aH (ae 3))) [some (.ref l),some (.int ci),some (.int mi),some (.ref ld),none]) G2 (fun r G3=>M3.run (fK r) G3 Q E) E:=by
  intro ds ld G2 c2 g2 hd hin h2
  have hl2:=c2.get hl (by simp)
  lia
  refine cU hl2 ?_
  rw[qM_]
  with_reducible refine gB (by omega) ?_
  refine lN (fun i σ G'=>∃(ds:List aY) (v:Option D),σ=[some (.ref l),some (.int ci),some (.int mi),some (.ref ld),v]/\Chg [] G G'/\ds.length<=10+i/\(∀d∈ds,DIn c m d)/\G'[ld]? =some (.lst (ds.map bI))) ?_ ?_ ⟨ds,none,rfl,c2,hd,hin,h2⟩
  · rintro i σ G3 hi ⟨ds,v,rfl,c3,hd,hin,h3⟩
    have hn:ns[i]? =some ns[i]:=qA_ hi
    have hix:=gk (f:=D.int) hn
    generalize ns[i]=nv at*
    have hi':(i:Int)<=100:=by omega
    generalize (i:Int)=ii at*
    refine aB (jD ?_)
    walk_at "s"
    refine cJ (rL (w_var rfl (iM h3 ?_)))
    refine bo (ah (aP (aP (w_var rfl (w_var rfl (cP (c3.get hl (by simp)) hix ?_))))))
    lia
    refine yE hci hmi hc hm fun d G4 e4 din=>?_
    refine fz (e4.get h3) (by rw[qM_];unfold aC;omega) fun G5 c5 l5 h5=>?_
    refine⟨ds++[d],_,rfl,(c3.trans (Ext.chg e4)).trans' c5 (by intro n hn;simp at hn;exact .inr (by omega)),by simp;omega,?_,by rw[qT_];exact h5⟩
    intro x hx
    rcases qG_.mp hx with w |w
    · exact hin x w
    · simp at w;rw[w];exact din
  · rintro σ G3 ⟨ds,v,rfl,c3,hd,hin,h3⟩
    lia
    exact h ds ld G3 c3 g2 (by omega) hin h3
 refine aA (cX (ib (aP (w_var rfl ?_))))
 refine dM fun G2 c2 l2 h2=>?_
 have hl2:=c2.get hl1 (by simp)
 refine Ct hl2 h2 ?_
 cases ns with
 |nil=>
  lia
  exact loop [] G.length G2 (c1.trans c2) (qO_ _) (by simp) (by simp) (c2.get h1 (by simp))
 |cons a r=>
  dsimp only[List.map,List.isEmpty]
  lia
  refine cP (d:= .int a) hl2 (gk (f:=D.int) (xs:=a :: r) (i:=0) rfl) ?_
  lia
  refine yS hci hmi hc hm fun ds ld G3 c3 hld hd hin h3=>?_
  refine w_next ?_
  walk_at "s"
  exact loop ds ld G3 ((c1.trans c2).trans c3) (by omega) hd hin h3
def pA{s:Int×Int}(h:Q (.bl true) G):M3.run (fH [.tup [.int s.1,.int s.2]]) G Q E:=by
 walk_at "f"
 unfold lU
 lia
 refine m3 (b:=true) rfl ?_
 lia
 refine gW ?_
 lia
 refine gW ?_
 lia
 exact h
def za{p:Pr}(h:Q (.bl true) G):M3.run (kM [pD p]) G Q E:=by
 unfold pD
 walk_at "f"
 unfold nj
 lia
 refine m3 (b:=true) rfl ?_
 lia
 refine pA (s:=p.1) ?_
 lia
 refine gW ?_
 lia
 exact h
def qg(o:Option Nat):decide (nD o= .non)=o.isNone:=by cases o <;> rfl
def zh{w:Wk}(h:Q (.bl true) G):M3.run (k7 [dh w]) G Q E:=by
 unfold dh
 walk_at "f"
 unfold ng
 lia
 refine m3 (b:=true) rfl ?_
 generalize (w.hand:Int)=wh
 generalize (w.beg:Int)=wb
 lia
 refine gW ?_
 lia
 refine gW ?_
 lia
 rw[Aw]
 cases hv:w.val with
 |none=>
  dsimp only[Option.isNone]
  lia
  rw[qg]
  cases he:w.en with
  |none=>
   dsimp only[Option.isNone]
   lia
   exact h
  |some e=>
   dsimp only[Option.isNone]
   lia
   refine gW (i:=(e:Int)) ?_
   lia
   exact h
 |some v=>
  dsimp only[Option.isNone]
  simp only[oD]
  lia
  refine gW ?_
  lia
  rw[qg]
  cases he:w.en with
  |none=>
   dsimp only[Option.isNone]
   lia
   exact h
  |some e=>
   dsimp only[Option.isNone]
   lia
   refine gW (i:=(e:Int)) ?_
   lia
   exact h
end
section
variable{G G':Hh}{Q:D->Hh->Prop}{E:Nat->Hh->Prop}{σ:St}{y:Sy}
def GN{xs:List D}{QI:Src->Hh->Prop}(h:QI ⟨xs,fun _=>true⟩ G):M3.run (srcOf (.tup xs)) G QI E:=h
def vx{l1 l2 l3 c:Nat}{ci:Int}(hci:ci=(c:Int))(A:zb y l1 l2 l3 G)(hk:y.af.ks.length=c)(h:Q (.bl true) G):M3.run (gY [.tup [.ref l1,.ref l2,.ref l3],.int ci]) G Q E:=by
 obtain⟨h1,h2,h3⟩:=A
 walk_at "f"
 unfold j5
 lia
 refine m3 (b:=true) rfl ?_
 lia
 refine GN ?_
 refine lW (f:=fun d:D=>d) (xs:=[.ref l1,.ref l2,.ref l3]) (fun i σ G'=>G'=G/\∃v,σ=[some (.tup [.ref l1,.ref l2,.ref l3]),some (.int ci),v,none,none,none]) (fun _ _ _ _=>rfl) ?_ ?_ ⟨rfl,none,rfl⟩
 · rintro i d σ G' hd ⟨rfl,v,rfl⟩
   have:d= .ref l1\/d= .ref l2\/d= .ref l3:=by
    have:=qD_ hd
    simpa using this
   rcases this with rfl |rfl |rfl
   · lia
     refine eV h1 ?_
     lia
     exact⟨rfl,_,rfl⟩
   · lia
     refine eV h2 ?_
     lia
     exact⟨rfl,_,rfl⟩
   · lia
     refine eV h3 ?_
     lia
     exact⟨rfl,_,rfl⟩
 rintro σ G' ⟨rfl,v,rfl⟩
 lia
 refine fF h1 ?_
 refine lW (fun i σ G1=>G1=G'/\∃u,σ=[some (.tup [.ref l1,.ref l2,.ref l3]),some (.int ci),v,u,none,none]) ?_ ?_ ?_ ⟨rfl,none,rfl⟩
 · rintro i σ G1 ⟨rfl,_⟩
   exact qZ_ h1
 · rintro i w σ G1 hw ⟨rfl,u,rfl⟩
   refine aB (jD ?_)
   walk_at "s"
   refine cX (hJ (iu (bo (ah (w_var rfl (ay ?_))))))
   refine zh ?_
   lia
   exact⟨rfl,_,rfl⟩
 rintro σ G1 ⟨rfl,u,rfl⟩
 lia
 refine fF h2 ?_
 refine lW (fun i σ G2=>G2=G1/\∃u',σ=[some (.tup [.ref l1,.ref l2,.ref l3]),some (.int ci),v,u,u',none]) ?_ ?_ ?_ ⟨rfl,none,rfl⟩
 · rintro i σ G2 ⟨rfl,_⟩
   exact qZ_ h2
 · rintro i w σ G2 hw ⟨rfl,u',rfl⟩
   refine aB (jD ?_)
   walk_at "s"
   cases hs:w.lI with
   |none=>
    simp only[stD]
    refine cX (l0 (ib (ot (w_var rfl (m8 (fV ?_))))))
    rw[if_neg (by decide)]
    lia
    exact⟨rfl,_,rfl⟩
   |some s=>
    refine cX (l0 (ib (ot (w_var rfl (m8 (fV ?_))))))
    rw[if_pos (by rfl)]
    refine hJ (iu (bo (ah (w_var rfl (ay ?_)))))
    refine pA (s:=s) ?_
    lia
    exact⟨rfl,_,rfl⟩
 rintro σ G2 ⟨rfl,u',rfl⟩
 lia
 refine fF h3 ?_
 refine lW (fun i σ G3=>G3=G2/\∃u'',σ=[some (.tup [.ref l1,.ref l2,.ref l3]),some (.int ci),v,u,u',u'']) ?_ ?_ ?_ ⟨rfl,none,rfl⟩
 · rintro i σ G3 ⟨rfl,_⟩
   exact qZ_ h3
 · rintro i k σ G3 hw ⟨rfl,u'',rfl⟩
   refine aB (jD ?_)
   walk_at "s"
   refine cX (hJ (iu (bo (ah (w_var rfl (ay ?_))))))
   refine za ?_
   lia
   exact⟨rfl,_,rfl⟩
 rintro σ G3 ⟨rfl,u'',rfl⟩
 refine w_next ?_
 refine bA (vS ?_)
 refine aP (bo (ah (aP (w_var rfl (w_c (bH rfl (ay ?_)))))))
 refine cU h1 ?_
 refine bo (ah (aP (w_var rfl (w_c (bH rfl (ay ?_))))))
 refine cU h2 ?_
 refine w_eq (b:=true) ?_ ?_
 · rw[qM_,qM_,eq_int]
   simp
 lia
 refine cU h3 ?_
 lia
 refine w_eq (b:=true) ?_ ?_
 · rw[qM_,eq_int,hk,hci]
   simp
 lia
 exact h
theorem pF{f:D->D->Option Bool}:∀{xs:List D},(∀x∈xs,f x x=some true)->eqZ f xs xs=some true
 | [],_=>rfl
 |a :: r,h=>by
  unfold eqZ
  rw[h a qI_,pF fun x hx=>h x (qR_ _ hx)]
  rfl
def iY{k:Nat}{xs:List D}(h:∀x∈xs,eqG G k x x=some true):eqG G (k+1) (.tup xs) (.tup xs)=some true:=by
 show (eqZ (eqG G k) xs xs).map (·&&decide (xs.length=xs.length))=some true
 rw[pF h]
 simp
def eS{k:Nat}(i:Int):eqG G (k+1) (.int i) (.int i)=some true:=by show some (decide (i=i))=_;simp
def fQ{k:Nat}(i:Str):eqG G (k+1) (.str i) (.str i)=some true:=by show some (decide (i=i))=_;simp
def BO{k:Nat}(i:Bool):eqG G (k+1) (.bl i) (.bl i)=some true:=by show some (i==i)=_;simp
def all1{P:D->Prop}{a:D}(h1:P a):∀x∈ [a],P x:=by simp [h1]
def all2{P:D->Prop}{a b:D}(h1:P a)(h2:P b):∀x∈ [a,b],P x:=by simp [h1,h2]
def Hg{P:D->Prop}{a b c:D}(h1:P a)(h2:P b)(h3:P c):∀x∈ [a,b,c],P x:=by simp [h1,h2,h3]
def DP(d:aY)(k:Nat):eqG G (k+2) (bI d) (bI d)=some true:=by
 cases d with
 |wr i v=>exact iY (Hg (fQ _) (eS _) (eS _))
 |rd i=>exact iY (all2 (fQ _) (eS _))
 |ca n s=>exact iY (Hg (fQ _) (eS _) (BO _))
 |pa i j=>exact iY (Hg (fQ _) (eS _) (eS _))
 |sw=>exact iY (all1 (fQ _))
 |ag i=>exact iY (all2 (fQ _) (eS _))
 |qu i=>exact iY (all2 (fQ _) (eS _))
 |st i=>exact iY (all2 (fQ _) (eS _))
 |wa i=>exact iY (all2 (fQ _) (eS _))
def eq_list{i j k:Nat}{xs:List D}(h1:G[i]? =some (.lst xs))(h2:G[j]? =some (.lst xs))(h:∀x∈xs,eqG G k x x=some true):eqG G (k+1) (.ref i) (.ref j)=some true:=by
 have e1:M3.listOf G i=some xs:=by unfold M3.listOf;rw[h1]
 have e2:M3.listOf G j=some xs:=by unfold M3.listOf;rw[h2]
 unfold eqG
 dsimp only
 rw[e1,e2]
 dsimp only
 rw[if_pos rfl]
 exact pF h
def xh{c m l:Nat}{ci mi:Int}{ds:List aY}(hci:ci=(c:Int))(hmi:mi=(m:Int))(hc:c<=9)(hm:m<=9)(hl:G[l]? =some (.lst (ds.map bI)))(hz:ds.length<=1000)
 (hq:∀l1 l2 l3 G',Chg [] G G'->G.length<=l1->G.length<=l2->G.length<=l3->zb (cz (bt c m) ds) l1 l2 l3 G'->Q (.tup [.ref l1,.ref l2,.ref l3]) G'):M3.run (jq [.int ci,.int mi,.ref l]) G Q E:=by
 have hll:=ax hl
 walk_at "f"
 unfold lJ
 refine aA (ba (bo (ah (w_var rfl (ay ?_)))))
 refine x9 hl ?_
 have c1:Chg [] G (G++[O.lst (ds.map bI)]):=Chg.add _ _
 have h1:=aV G (.lst (ds.map bI))
 have l1:(G++[O.lst (ds.map bI)]).length=G.length+1:=by simp
 generalize G++[O.lst (ds.map bI)]=G1 at*
 refine w_next ?_
 walk_at "s"
 refine aA (ba (bo (ah (w_var rfl (ah (w_var rfl (ah (w_var rfl (ay ?_)))))))))
 refine uT hci hmi hc hm h1 hz fun a1 a2 a3 G2 c2 g1 g2 g3 A=>?_
 refine w_next ?_
 walk_at "s"
 refine aA (cX (uy (ib (aP (w_var rfl (w_var rfl ?_))))))
 refine m3 (b:=true) (eq_list (c2.get h1 (by simp)) ((c1.trans c2).get hl (by simp)) fun x hx=>?_) ?_
 · obtain⟨d,_,rfl⟩:=qH_.mp hx
   exact DP d 5
 lia
 have hk:(cz (bt c m) ds).af.ks.length=c:=by
  rw[(gV (kS hc hm) ds).2.2.2]
  show (List.replicate c k0).length=c
  simp
 refine vx hci A hk ?_
 lia
 exact hq a1 a2 a3 G2 (c1.trans c2) (by omega) (by omega) (by omega) A
end
def Et:D->Bool
 | .non=>true
 | .bl _=>true
 | .int _=>true
 | .str _=>true
 |_=>false
inductive Eqv (G:Hh):Nat->D->D->Prop
 |atom {n:Nat} {d:D} (h:Et d=true):Eqv G (n+1) d d
 |tup {n:Nat} {a b:List D} (hl:a.length=b.length) (hz:a.length<=1000000) (h:∀(i:Nat) x y,a[i]? =some x->b[i]? =some y->Eqv G n x y):Eqv G (n+1) (.tup a) (.tup b)
 |lst {n i j:Nat} {a b:List D} (h1:G[i]? =some (.lst a)) (h2:G[j]? =some (.lst b)) (hl:a.length=b.length) (hz:a.length<=1000000) (h:∀(i:Nat) x y,a[i]? =some x->b[i]? =some y->Eqv G n x y):Eqv G (n+1) (.ref i) (.ref j)
section
variable{G G':Hh}{Q:D->Hh->Prop}{E:Nat->Hh->Prop}{σ:St}{y:Sy}
def w_isK{c k:Kd}{d:D}(hk:kdOf G d=some k)(h:Q (.bl (jW k c)) G):M3.run (bIs c [d]) G Q E:=by
 refine aG (a:= .bl (jW k c)) (G':=G) ?_ h
 unfold bIs
 dsimp only
 rw[hk]
def zF{cs:List Kd}{k:Kd}{d:D}(hk:kdOf G d=some k)(h:Q (.bl (cs.any (jW k ·))) G):M3.run (yK cs [d]) G Q E:=by
 refine aG (a:= .bl (cs.any (jW k ·))) (G':=G) ?_ h
 unfold yK
 dsimp only
 rw[hk]
def Ah{xs:List D}{i:Nat}{d:D}(h:xs[i]? =some d)(hq:Q d G):M3.run (oIx (.tup xs) (.int (i:Int))) G Q E:=by
 have:=gk (f:=fun d:D=>d) h
 rw[List.map_id']at this
 with_reducible exact bH this hq
def sZ{n:Nat}{xs:List D}{i:Nat}{d:D}(hn:G[n]? =some (.lst xs))(h:xs[i]? =some d)(hq:Q d G):M3.run (oIx (.ref n) (.int (i:Int))) G Q E:=by
 have:=gk (f:=fun d:D=>d) h
 rw[List.map_id']at this
 with_reducible exact cP hn this hq
def Jx:∀(n:Nat) {a b:D} {Q:D->Hh->Prop},Eqv G n a b->Q (.bl true) G->M3.run (yo n [a,b]) G Q E:=by
 intro n
 induction n with
 |zero=>intro a b Q h;cases h
 |succ n ih=>
  intro a b Q h hq
  show M3.run (fnM 2 [none] (Dq (yo n)) [a,b]) G Q E
  refine DT rfl ?_
  simp only[List.map_cons,List.map_nil,List.cons_append,qc_]
  unfold Dq
  cases h with
  |atom h=>
   cases a with
   |non=>
    lia
    exact hq
   |bl b=>
    lia
    rw[show decide (D.bl b=D.non)=false from rfl]
    lia
    refine w_eq (BO b) ?_
    lia
    exact hq
   |int i=>
    lia
    rw[show decide (D.int i=D.non)=false from rfl]
    lia
    refine w_eq (eS i) ?_
    lia
    exact hq
   |str i=>
    lia
    rw[show decide (D.str i=D.non)=false from rfl]
    lia
    refine w_eq (fQ i) ?_
    lia
    exact hq
   |tup xs=>cases h
   |ref i=>cases h
  |tup hl hz h=>
   rename_i xs ys
   lia
   rw[show decide (D.tup ys=D.non)=false from rfl]
   lia
   refine m3 (b:=true) rfl ?_
   lia
   refine m3 (b:=true) rfl ?_
   lia
   refine zF (k:= .tup) rfl ?_
   lia
   rw[show (![Kd.lst,Kd.tup].any fun x=>jW Kd.tup x)=false from rfl]
   lia
   refine rS (by unfold aC;omega) ?_
   lia
   refine rS (by unfold aC;omega) ?_
   refine m3 (b:=true) (by rw[eq_int];simp [hl]) ?_
   lia
   refine rS (by unfold aC;omega) ?_
   with_reducible refine gB (by omega) ?_
   refine lN (fun i σ G'=>G'=G/\∃v,σ=[some (.tup xs),some (.tup ys),v]) ?_ ?_ ⟨rfl,none,rfl⟩
   · rintro i σ G' hi ⟨rfl,v,rfl⟩
     have e1:xs[i]? =some xs[i]:=qA_ (by omega)
     have e2:ys[i]? =some ys[i]:=qA_ hi
     have he:=h i _ _ e1 e2
     refine aB ?_
     with_reducible refine jD ?_
     walk_at "s"
     with_reducible refine cX ?_
     with_reducible refine hJ ?_
     with_reducible refine iu ?_
     with_reducible refine bo ?_
     lia
     with_reducible refine Ah e1 ?_
     lia
     with_reducible refine Ah e2 ?_
     lia
     refine ih he ?_
     lia
     exact⟨rfl,_,rfl⟩
   · rintro σ G' ⟨rfl,v,rfl⟩
     lia
     exact hq
  |lst h1 h2 hl hz h=>
   rename_i i0 j0 xs ys
   lia
   rw[show decide (D.ref j0=D.non)=false from rfl]
   lia
   refine vy h2 ?_
   lia
   refine tx h2 ?_
   lia
   refine tN h2 ?_
   lia
   refine sF h2 ?_
   lia
   refine mL h2 ?_
   lia
   refine mL h1 ?_
   refine m3 (b:=true) rfl ?_
   lia
   refine eV h2 ?_
   lia
   refine eV h1 ?_
   refine m3 (b:=true) rfl ?_
   lia
   refine zF (k:= .lst) (by unfold kdOf;dsimp only;rw[h2]) ?_
   lia
   rw[show (![Kd.lst,Kd.tup].any fun x=>jW Kd.lst x)=false from rfl]
   lia
   refine cU h1 ?_
   lia
   refine cU h2 ?_
   refine m3 (b:=true) (by rw[eq_int];simp [hl]) ?_
   lia
   refine cU h2 ?_
   with_reducible refine gB (by omega) ?_
   refine lN (fun i σ G'=>G'=G/\∃v,σ=[some (.ref i0),some (.ref j0),v]) ?_ ?_ ⟨rfl,none,rfl⟩
   · rintro i σ G' hi ⟨rfl,v,rfl⟩
     have e1:xs[i]? =some xs[i]:=qA_ (by omega)
     have e2:ys[i]? =some ys[i]:=qA_ hi
     have he:=h i _ _ e1 e2
     refine aB ?_
     with_reducible refine jD ?_
     walk_at "s"
     with_reducible refine cX ?_
     with_reducible refine hJ ?_
     with_reducible refine iu ?_
     with_reducible refine bo ?_
     lia
     with_reducible refine sZ h1 e1 ?_
     lia
     with_reducible refine sZ h2 e2 ?_
     lia
     refine ih he ?_
     lia
     exact⟨rfl,_,rfl⟩
   · rintro σ G' ⟨rfl,v,rfl⟩
     lia
     exact hq
end
def asg(hs:List Hd):List (Nat×Nat)->Nat->Option (Int×Int)
 | [],_=>none
 |e :: r,q=>match asg hs r q with
  |some s=>some s
  |none=>if e.2=q then ((hs[e.1]?).bind (·.pair)).map (·.1)else none
def app(o:Option (Int×Int))(w:Wk):Wk:=match o with
 |none=>w
 |some s=>{w with lI:=some s}
def yu(y:Sy)(e:Nat×Nat)(q:Nat):(bp y e).ak[q]? =(y.ak[q]?).map (app (if e.2=q then ((y.af.hs[e.1]?).bind (·.pair)).map (·.1)else none)):=by
 unfold bp
 cases hp:(y.af.hs[e.1]?).bind (·.pair)with
 |none=>
  have e0:(if e.2=q then Option.map (·.1) (none:Option Pr)else none)=none:=by split <;> rfl
  rw[e0]
  show y.ak[q]? =(y.ak[q]?).map (app none)
  cases y.ak[q]? <;> rfl
 |some p=>
  unfold iL
  cases hw:y.ak[e.2]? with
  |none=>
   dsimp only
   by_cases z:e.2=q
   · subst z;rw[hw];rfl
   · rw[if_neg z];cases y.ak[q]? <;> rfl
  |some w=>
   dsimp only
   by_cases z:e.2=q
   · subst z
     rw[if_pos rfl,qU_ (qB_.mp hw).1,hw]
     rfl
   · rw[if_neg z,qV_ z]
     cases y.ak[q]? <;> rfl
theorem eN:∀(l:List (Nat×Nat)) (y:Sy) (q:Nat),(l.foldl bp y).ak[q]? =(y.ak[q]?).map (app (asg y.af.hs l q))
 | [],y,q=>by
   show y.ak[q]? =(y.ak[q]?).map (app none)
   cases y.ak[q]? <;> rfl
 |e :: l,y,q=>by
  show (l.foldl bp (bp y e)).ak[q]? =_
  rw[eN l (bp y e) q,yu,(oj y e).2.1]
  rw[show asg y.af.hs (e :: l) q=(match asg y.af.hs l q with
   |some s=>some s
   |none=>if e.2=q then ((y.af.hs[e.1]?).bind (·.pair)).map (·.1)else none)from rfl]
  cases h1:asg y.af.hs l q with
  |none=>dsimp only;cases y.ak[q]? <;> rfl
  |some s=>
   dsimp only
   cases y.ak[q]? with
   |none=>rfl
   |some w=>
    show some (app (some s) (app _ w))=some (app (some s) w)
    generalize (if e.2=q then _ else _:Option (Int×Int))=o
    cases o <;> rfl
def bi(a:Hl)(k:Nat):Bool:=(a.hs[k]?).any (·.atw)
def dW{a:Hl}{k:Nat}{h:Hd}(e:a.hs[k]? =some h):bi a k=h.atw:=by unfold bi;rw[e];rfl
def cR{a:Hl}{k:Nat}:bi a k=true↔∃h,a.hs[k]? =some h/\h.atw=true:=by
 unfold bi
 cases a.hs[k]? with
 |none=>simp
 |some h=>simp
def zr(h:Hd)(l:Lt):(aR h l).1.atw=(h.atw&&(aR h l).2.2.isNone):=by
 unfold aR
 split
 · simp
 · dsimp only
   split
   · simp
   · split
     · show (bC _ _).1.atw=_
       rw[(mq _ _).2.2]
       simp
     · simp
def ended(es:List (Nat×Pr))(k:Nat):Bool:=decide (k∈es.map (·.1))
def pq(a:Hl)(p:Nat)(s:Bool)(k:Nat):bi (aE a p s).1 k=(bi a k&&!ended (aE a p s).2 k):=by
 have e0:ended [] k=false:=by unfold ended;simp
 unfold aE
 split
 · rw[e0];simp
 · split
   · rw[e0];simp
   · rename_i l hr _ h hh
     dsimp only
     by_cases z:k=l.hand
     · subst z
       have:bi {a with hs:=a.hs.set l.hand (aR h l).1,row:=cn a p s++(aR h l).2.1.map fun x=>(false,x)} l.hand=(aR h l).1.atw:=dW (qU_ (qB_.mp hh).1)
       rw[this,zr,dW hh]
       cases (aR h l).2.2 with
       |none=>rw[e0];rfl
       |some q=>unfold ended;simp
     · have:bi {a with hs:=a.hs.set l.hand (aR h l).1,row:=cn a p s++(aR h l).2.1.map fun x=>(false,x)} k=bi a k:=by
        unfold bi
        dsimp only
        rw[qV_ (Ne.symm z)]
       rw[this]
       cases (aR h l).2.2 with
       |none=>rw[e0];simp
       |some q=>unfold ended;simp [z]
 · split
   · rw[e0];simp
   · rw[e0]
     show bi a k=_
     simp
def yW(a b:List (Nat×Pr))(k:Nat):ended (a++b) k=(ended a k||ended b k):=by
 unfold ended
 rw[qT_,Bool.eq_iff_iff]
 simp only[decide_eq_true_eq,Bool.or_eq_true,qG_]
def vC{sel:Hl->Option Nat}(hs:Sel sel)(k:Nat):∀(n:Nat) (a:Hl),WF a->mea a<=n->bi (bj sel a).1 k=(bi a k&&!ended (bj sel a).2 k):=by
 have e0:ended [] k=false:=by unfold ended;simp
 intro n
 induction n with
 |zero=>
  intro a W hm
  cases q:sel a with
  |none=>rw[cg q,e0];simp
  |some p=>
   have:=bD W (hs a p q)
   omega
 |succ n ih=>
  intro a W hm
  cases q:sel a with
  |none=>rw[cg q,e0];simp
  |some p=>
   rw[gw hs W q]
   have h1:=bD W (hs a p q)
   dsimp only
   rw[ih _ (gn W p false) (by omega),pq,yW]
   cases bi a k <;> cases ended (aE a p false).2 k <;> cases ended (bj sel (aE a p false).1).2 k <;> rfl
structure Opn (y:Sy) (left:List Nat):Prop where
 lf:∀p∈left,p < y.ak.length
 a:∀k,bi y.af k=true->∃w,y.ak[lastOf y.last k]? =some w/\w.hand=k/\w.en=none/\lastOf y.last k∉left
 b:∀p w,y.ak[p]? =some w->w.en=none->p∉left->bi y.af w.hand=true/\lastOf y.last w.hand=p
def A6(y:Sy)(e:Nat×Pr)(p:Nat):(gG y e).ak[p]? =if p=lastOf y.last e.1 then (y.ak[p]?).map (yP y e.2)else y.ak[p]?:=by
 unfold gG iL
 cases hw:y.ak[lastOf y.last e.1]? with
 |none=>
  dsimp only
  split
  · rename_i z;rw[z,hw];rfl
  · rfl
 |some w=>
  dsimp only
  split
  · rename_i z;subst z
    rw[qU_ (qB_.mp hw).1,hw];rfl
  · rename_i z
    rw[qV_ (Ne.symm z)]
theorem kK:∀(es:List (Nat×Pr)) (y:Sy) (p:Nat) (w':Wk),(bV y es).ak[p]? =some w'->∃w,y.ak[p]? =some w/\w'.hand=w.hand/\(w'.en=none↔(w.en=none/\p∉es.map fun e=>lastOf y.last e.1))
 | [],y,p,w',h=>⟨w',h,rfl,by simp⟩
 |e :: es,y,p,w',h=>by
  have h:(bV (gG y e) es).ak[p]? =some w':=h
  obtain⟨w,h1,h2,h3⟩:=kK es (gG y e) p w' h
  have hl:(gG y e).last=y.last:=(iP _ _ _).1
  rw[hl]at h3
  rw[A6]at h1
  by_cases z:p=lastOf y.last e.1
  · rw[if_pos z]at h1
    cases q:y.ak[p]? with
    |none=>rw[q]at h1;cases h1
    |some v=>
     rw[q]at h1
     cases h1
     refine⟨v,rfl,h2,?_⟩
     rw[h3]
     constructor
     · rintro⟨k,_⟩;cases k
     · rintro⟨_,k⟩
       exact absurd (by rw[List.map_cons,z];exact qI_) k
  · rw[if_neg z]at h1
    refine⟨w,h1,h2,?_⟩
    rw[h3]
    simp [z]
def Opn.ends{y:Sy}{left:List Nat}(O:Opn y left){r:Hl×List (Nat×Pr)}(hr:∀k,bi r.1 k=(bi y.af k&&!ended r.2 k))(hat:∀e∈r.2,bi y.af e.1=true):Opn (endsF y r) left:=by
 obtain⟨q1,q2,q3,q4⟩:=dk r.2 (aF y r.1)
 have q1:(endsF y r).last=y.last:=q1
 have q2:(endsF y r).af=r.1:=q2
 have q4:(endsF y r).ak.length=y.ak.length:=q4
 have nat:∀p w',(endsF y r).ak[p]? =some w'->∃w,y.ak[p]? =some w/\w'.hand=w.hand/\(w'.en=none↔(w.en=none/\p∉r.2.map fun e=>lastOf y.last e.1)):=fun p w' h=>kK r.2 (aF y r.1) p w' h
 refine⟨fun p hp=>by rw[q4];exact O.lf p hp,fun k hk=>?_,fun p w' hp he hn=>?_⟩
 · rw[q2,hr]at hk
   have hk1:bi y.af k=true:=by cases h:bi y.af k <;> simp_all
   have hk2:ended r.2 k=false:=by cases h:ended r.2 k <;> simp_all
   obtain⟨w,h1,h2,h3,h4⟩:=O.a k hk1
   have hlt:lastOf y.last k < (endsF y r).ak.length:=by rw[q4];exact(qB_.mp h1).1
   obtain⟨w0,g1,g2,g3⟩:=nat _ _ (qA_ hlt)
   rw[h1]at g1
   cases g1
   refine⟨_,by rw[q1];exact qA_ hlt,by rw[g2,h2],g3.mpr ⟨h3,fun z=>?_⟩,by rw[q1];exact h4⟩
   obtain⟨e,he,ee⟩:=qH_.mp z
   obtain⟨v,v1,v2,_,_⟩:=O.a e.1 (hat e he)
   rw[ee,h1]at v1
   cases v1
   have:ended r.2 k=true:=qZ_ (qH_.mpr ⟨e,he,by omega⟩)
   rw[this]at hk2
   cases hk2
 · obtain⟨w,g1,g2,g3⟩:=nat p w' hp
   obtain⟨e1,e2⟩:=g3.mp he
   obtain⟨b1,b2⟩:=O.b p w g1 e1 hn
   rw[q1,q2,hr,g2,b1]
   refine⟨?_,b2⟩
   have:ended r.2 w.hand=false:=qa_ fun z=>by
    obtain⟨e,he,ee⟩:=qH_.mp z
    exact e2 (qH_.mpr ⟨e,he,by rw[ee];exact b2⟩)
   rw[this]
   rfl
def pE(k:Nat):lastOf [] k=0:=rfl
def fS(e:Nat×Nat)(l:List (Nat×Nat))(k:Nat):lastOf (e :: l) k=if e.1=k then e.2 else lastOf l k:=by
 unfold lastOf
 rw[List.find?_cons]
 by_cases z:e.1=k
 · rw[qZ_ z,if_pos z];rfl
 · rw[qa_ z,if_neg z]
def vI(l:List (Nat×Nat))(j p k:Nat):lastOf (l.map fun e=>if e.1=j then (e.1,p)else e) k=if k=j/\(l.any fun e=>decide (e.1=j))=true then p else lastOf l k:=by
 induction l with
 |nil=>simp [pE]
 |cons e r ih=>
  rw[List.map_cons,fS,fS,ih,List.any_cons]
  by_cases z:e.1=j
  · rw[if_pos z,qZ_ z]
    dsimp only
    by_cases w:e.1=k
    · rw[if_pos w,if_pos ⟨by omega,by simp⟩]
    · rw[if_neg w,if_neg w,if_neg (by omega),if_neg (by omega)]
  · rw[if_neg z,qa_ z,Bool.false_or]
    by_cases w:e.1=k
    · rw[if_pos w,if_pos w,if_neg (by omega)]
    · rw[if_neg w,if_neg w]
def vZ(l:List (Nat×Nat))(j p k:Nat)(h:(l.any fun e=>decide (e.1=j))=false):lastOf (l++[(j,p)]) k=if k=j then p else lastOf l k:=by
 induction l with
 |nil=>
  rw[qc_,fS,pE]
  by_cases z:k=j
  · rw[if_pos z.symm,if_pos z]
  · rw[if_neg (Ne.symm z),if_neg z]
 |cons e r ih=>
  rw[List.any_cons,Bool.or_eq_false_iff]at h
  rw[List.cons_append,fS,fS,ih h.2]
  have hz:=of_decide_eq_false h.1
  by_cases w:e.1=k
  · rw[if_pos w,if_pos w,if_neg (by omega)]
  · rw[if_neg w,if_neg w]
def pY(l:List (Nat×Nat))(j p k:Nat):lastOf (putL l j p) k=if k=j then p else lastOf l k:=by
 unfold putL
 cases h:(l.any fun e=>decide (e.1=j))with
 |true=>
  rw[if_pos rfl,vI,h]
  by_cases z:k=j
  · rw[if_pos ⟨z,rfl⟩,if_pos z]
  · rw[if_neg (by omega),if_neg z]
 |false=>
  rw[if_neg qC_]
  exact vZ l j p k h
def Opn.begin{y:Sy}{left:List Nat}(O:Opn y left){j:Nat}{h:Hd}(hj:y.af.hs[j]? =some h)(ha:h.atw=false)(rd:Bool)(v:Option Int):Opn (gO (aF y (bT y.af j h v)) j rd v) left:=by
 have hlt:=(qB_.mp hj).1
 have ej:bi y.af j=false:=by rw[dW hj,ha]
 have e1:bi (bT y.af j h v) j=true:=by
  rw[dW (h:=bM h v) (qU_ hlt)]
  rfl
 have e2:∀k,k≠j->bi (bT y.af j h v) k=bi y.af k:=fun k z=>by
  unfold bi bT
  dsimp only
  rw[qV_ (Ne.symm z)]
 have nw:∀w,y.ak[y.ak.length]? =some w->False:=fun w z=>by simp at z
 refine⟨fun p hp=>?_,fun k hk=>?_,fun p w hp he hn=>?_⟩
 · have:=O.lf p hp
   show p < (y.ak++[_]).length
   simp
   omega
 · show ∃w,(y.ak++[_])[lastOf (putL y.last j y.ak.length) k]? =some w/\w.hand=k/\w.en=none/\lastOf (putL y.last j y.ak.length) k∉left
   rw[pY]
   by_cases z:k=j
   · rw[if_pos z]
     refine⟨⟨j,rd,v,y.aK,none,none⟩,by simp;rfl,z.symm,rfl,fun w=>?_⟩
     have:=O.lf _ w
     omega
   · rw[if_neg z]
     have hk:bi (bT y.af j h v) k=true:=hk
     rw[e2 k z]at hk
     obtain⟨w,h1,h2,h3,h4⟩:=O.a k hk
     exact⟨w,by rw[qK_ (qB_.mp h1).1];exact h1,h2,h3,h4⟩
 · have hp:(y.ak++[(⟨j,rd,v,y.aK,none,none⟩:Wk)])[p]? =some w:=hp
   show bi (bT y.af j h v) w.hand=true/\lastOf (putL y.last j y.ak.length) w.hand=p
   rw[pY]
   by_cases z:p < y.ak.length
   · rw[qK_ z]at hp
     obtain⟨b1,b2⟩:=O.b p w hp he hn
     have:w.hand≠j:=fun q=>by rw[q,ej]at b1;cases b1
     rw[if_neg this,e2 _ this]
     exact⟨b1,b2⟩
   · have hp2:p=y.ak.length:=by
      have:=(qB_.mp hp).1
      simp at this
      omega
     subst hp2
     simp at hp
     subst hp
     rw[if_pos rfl]
     exact⟨e1,rfl⟩
def Opn.quit{y:Sy}{left:List Nat}(O:Opn y left){j:Nat}{h:Hd}(hj:y.af.hs[j]? =some h)(ha:h.atw=true):Opn (aF y {y.af with hs:=y.af.hs.set j {h with atw:=false}}) (left++[lastOf y.last j]):=by
 have hlt:=(qB_.mp hj).1
 have ej:bi y.af j=true:=by rw[dW hj,ha]
 obtain⟨wj,j1,j2,j3,j4⟩:=O.a j ej
 have e1:bi {y.af with hs:=y.af.hs.set j {h with atw:=false}} j=false:=dW (h:={h with atw:=false}) (qU_ hlt)
 have e2:∀k,k≠j->bi {y.af with hs:=y.af.hs.set j {h with atw:=false}} k=bi y.af k:=fun k z=>by
  unfold bi
  dsimp only
  rw[qV_ (Ne.symm z)]
 refine⟨fun p hp=>?_,fun k hk=>?_,fun p w hp he hn=>?_⟩
 · rcases qG_.mp hp with z |z
   · exact O.lf p z
   · simp at z
     rw[z]
     exact(qB_.mp j1).1
 · have hk:bi {y.af with hs:=y.af.hs.set j {h with atw:=false}} k=true:=hk
   by_cases z:k=j
   · rw[z,e1]at hk;cases hk
   · rw[e2 k z]at hk
     obtain⟨w,h1,h2,h3,h4⟩:=O.a k hk
     refine⟨w,h1,h2,h3,fun q=>?_⟩
     rcases qG_.mp q with q |q
     · exact h4 q
     · simp at q
       have q:lastOf y.last k=lastOf y.last j:=q
       rw[q,j1]at h1
       cases h1
       omega
 · have hn1:p∉left:=fun q=>hn (qF_ _ q)
   have hn2:p≠lastOf y.last j:=fun q=>hn (qE_ _ (by simp [q]))
   obtain⟨b1,b2⟩:=O.b p w hp he hn1
   have:w.hand≠j:=fun q=>hn2 (by rw[<-b2,q])
   exact⟨(e2 _ this).trans b1,b2⟩
theorem Opn.af{y:Sy}{left:List Nat}(O:Opn y left){b:Hl}(h:b.hs=y.af.hs):Opn (aF y b) left:=by
 have e:∀k,bi b k=bi y.af k:=fun k=>by unfold bi;rw[h]
 exact⟨O.lf,fun k hk=>O.a k ((e k).symm.trans hk),fun p w hp he hn=>by
  obtain⟨b1,b2⟩:=O.b p w hp he hn
  exact⟨(e _).trans b1,b2⟩⟩
def Opn.count{y:Sy}{left:List Nat}(O:Opn y left):Opn (g7 y) left:=⟨O.lf,O.a,O.b⟩
def Opn.A4{y:Sy}{left:List Nat}(O:Opn y left):Opn (bO y) left:=by
 obtain⟨q1,q2,q3,q4⟩:=cG y.last y
 have q1:(bO y).last=y.last:=q1
 have q2:(bO y).af=y.af:=q2
 have q4:(bO y).ak.length=y.ak.length:=q4
 have ha:∀(o:Option (Int×Int)) w,(app o w).hand=w.hand/\(app o w).en=w.en:=fun o w=>by cases o <;> exact⟨rfl,rfl⟩
 refine⟨fun p hp=>by rw[q4];exact O.lf p hp,fun k hk=>?_,fun p w hp he hn=>?_⟩
 · rw[q2]at hk
   obtain⟨w,h1,h2,h3,h4⟩:=O.a k hk
   refine⟨_,by rw[q1];unfold bO;rw[eN,h1];rfl,?_,?_,by rw[q1];exact h4⟩
   · rw[(ha _ w).1];exact h2
   · rw[(ha _ w).2];exact h3
 · have hp:(y.last.foldl bp y).ak[p]? =some w:=hp
   rw[eN]at hp
   cases q:y.ak[p]? with
   |none=>rw[q]at hp;cases hp
   |some v=>
    rw[q]at hp
    cases hp
    rw[(ha _ v).2]at he
    obtain⟨b1,b2⟩:=O.b p v q he hn
    rw[q1,q2,(ha _ v).1]
    exact⟨b1,b2⟩
def bh(d:aY)(a:An):List Nat:=match d,a with
 | .qu _,.one (.int p)=>[p.toNat]
 |_,_=>[]
def Opn.done{y:Sy}{left:List Nat}(I:Iv y)(O:Opn y left)(d:aY){z:Sy}{a:An}(h:doneF y d= .ok z a):Opn z (left++bh d a):=by
 have W:=I.W.W
 have bg:∀{i rd v},bS y i rd v= .ok z a->Opn z left:=by
  intro i rd v h
  unfold bS at h
  split at h
  · cases h
  · split at h
    · cases h
    · rename_i j _ _ g hg
      split at h
      · cases h
      · rename_i q
        cases h
        exact O.begin hg (by simpa using q) rd v
 have rn:∀{sel:Hl->Option Nat},Sel sel->Opn (endsF y (bj sel y.af)) left:=by
  intro sel hs
  refine O.ends (fun k=>vC hs k (mea y.af) y.af W (qO_ _)) fun e he=>?_
  exact cR.mpr ((iH hs (mea y.af) y.af W (qO_ _)).2.2 e he)
 cases d with
 |wr i v=>rw[show bh (.wr i v) a=[]from rfl,qY_];exact bg h
 |rd i=>rw[show bh (.rd i) a=[]from rfl,qY_];exact bg h
 |ca n s=>
  rw[show bh (.ca n s) a=[]from rfl,qY_]
  unfold doneF at h
  dsimp only at h
  split at h
  · cases h
  · cases h
    exact O.ends (fun k=>pq _ _ _ k) fun e he=>cR.mpr (mz _ _ e he)
 |pa i j=>
  rw[show bh (.pa i j) a=[]from rfl,qY_]
  unfold doneF at h
  dsimp only at h
  split at h
  · cases h
  · split at h
    · cases h
    · cases h
      exact rn (cL _ _)
 |sw=>
  rw[show bh .sw a=[]from rfl,qY_]
  unfold doneF at h
  dsimp only at h
  cases h
  exact rn bF
 |ag i=>
  rw[show bh (.ag i) a=[]from rfl,qY_]
  unfold doneF eM at h
  dsimp only at h
  split at h
  · cases h
  · split at h
    · cases h
    · split at h
      · cases h
        exact O.af rfl
      · cases h
 |qu i=>
  unfold doneF eM at h
  dsimp only at h
  split at h
  · cases h
  · split at h
    · cases h
    · rename_i j _ _ g hg
      split at h
      · rename_i q
        cases h
        exact O.quit hg q
      · cases h
 |st i=>
  rw[show bh (.st i) a=[]from rfl,qY_]
  unfold doneF jl at h
  dsimp only at h
  split at h
  · cases h
  · split at h
    · cases h
    · cases h
      exact O.af rfl
 |wa i=>
  rw[show bh (.wa i) a=[]from rfl,qY_]
  unfold doneF jl at h
  dsimp only at h
  split at h
  · cases h
  · split at h
    · cases h
    · cases h
      exact O.af rfl
def Opn.F3{y:Sy}{left:List Nat}(I:Iv y)(O:Opn y left)(d:aY):Opn (aI y d).1 (left++bh d (aI y d).2):=by
 cases h:doneF y d with
 |no c=>
  have e:gs y d=(y,.one (.str (wordOf c))):=by unfold gs;rw[h]
  unfold aI
  rw[e]
  have:bh d (.one (.str (wordOf c)))=[]:=by cases d <;> rfl
  dsimp only
  rw[this,qY_]
  exact O.A4.count
 |ok z a=>
  have e:gs y d=(z,a):=by unfold gs;rw[h]
  unfold aI
  rw[e]
  exact(O.done I d h).A4.count
def fi:List aY->List An->List Nat
 |d :: ds,a :: as=>bh d a++fi ds as
 |_,_=>[]
def wQ(c m:Nat):Opn (bt c m) []:=by
 refine⟨fun p hp=>(by cases hp),fun k hk=>?_,fun p w hp=>?_⟩
 · obtain⟨h,h1,h2⟩:=cR.mp hk
   have h1:((List.range m).map fun i=>kA i c)[k]? =some h:=h1
   obtain⟨i,_,e⟩:=qH_.mp (qD_ h1)
   rw[<-e]at h2
   cases h2
 · have hp:([]:List Wk)[p]? =some w:=hp
   simp at hp
def m6(p:Nat):D:= .int (p:Int)
section
variable{G G':Hh}{Q:D->Hh->Prop}{E:Nat->Hh->Prop}{σ:St}{y:Sy}{QA:List D->Hh->Prop}
def IM(n:Nat):rng 0 n=(List.range n).map m6:=Jg n
def rA{ws:List Wk}{lw:Nat}{p:Nat}{w:Wk}(hw:G[lw]? =some (.lst (ws.map dh)))(hp:ws[p]? =some w)(h:Q (dh w) G):M3.run (oIx (.ref lw) (m6 p)) G Q E:=by
 unfold m6
 with_reducible exact cP hw (gk hp) h
end
def plain:Nat->D->Bool
 |0,_=>false
 |n+1,.tup xs=>decide (xs.length<=1000000)&&xs.all (plain n)
 |n+1,d=>Et d
theorem Bt{G:Hh}:∀(k:Nat) (d:D),plain k d=true->∀n,Eqv G (n+k) d d
 |0,_,h,_=>by cases h
 |k+1,.tup xs,h,n=>by
  simp only[plain,Bool.and_eq_true,decide_eq_true_eq,List.all_eq_true]at h
  refine Eqv.tup rfl h.1 fun i x y hx hy=>?_
  rw[hx]at hy
  cases hy
  exact Bt k x (h.2 x (qD_ hx)) n
 |k+1,.non,h,n=>Eqv.atom rfl
 |k+1,.bl _,h,n=>Eqv.atom rfl
 |k+1,.int _,h,n=>Eqv.atom rfl
 |k+1,.str _,h,n=>Eqv.atom rfl
 |k+1,.ref _,h,n=>by cases h
theorem Az:∀(ds:List aY) (y:Sy) (i:Nat) (d:aY),Iv y->ds[i]? =some d->∃z,Iv z/\z.aK=y.aK+i/\(cZ y ds)[i]? =some (aI z d).2
 | [],y,i,d,I,h=>by simp at h
 |x :: r,y,0,d,I,h=>by
  simp at h
  subst h
  exact⟨y,I,rfl,rfl⟩
 |x :: r,y,i+1,d,I,h=>by
  obtain⟨z,h1,h2,h3⟩:=Az r (aI y x).1 i d (kW I x) (by simpa using h)
  refine⟨z,h1,?_,h3⟩
  have:=(gV I [x]).2.1
  have e:(aI y x).1.aK=y.aK+1:=this
  omega
def C6(y:Sy)(i:Int):(∃p:Nat,(aI y (.qu i)).2= .one (.int (p:Int)))\/∃s,(aI y (.qu i)).2= .one (.str s):=by
 unfold aI gs
 cases h:doneF y (.qu i)with
 |no c=>exact .inr ⟨_,rfl⟩
 |ok z a=>
  unfold doneF eM at h
  dsimp only at h
  repeat' split at h
  all_goals first |(cases h;done) |(cases h;exact .inl ⟨_,rfl⟩)
def Ab{G:Hh}{i j:Nat}{xs:List D}(h1:G[i]? =some (.lst xs))(h2:G[j]? =some (.lst xs))(hz:xs.length<=1000000)(h:∀x∈xs,plain 3 x=true)(k:Nat):Eqv G (k+4) (.ref i) (.ref j):=by
 refine Eqv.lst h1 h2 rfl hz fun q x y hx hy=>?_
 rw[hx]at hy
 cases hy
 exact Bt 3 x (h x (qD_ hx)) k
theorem o6:∀(ds:List aY) (as:List An) (i:Nat) (d:aY) (a:An),ds[i]? =some d->as[i]? =some a->fi (ds.take (i+1)) (as.take (i+1))=fi (ds.take i) (as.take i)++bh d a
 | [],_,i,d,a,h,_=>by simp at h
 |_ :: _,[],i,d,a,_,h=>by simp at h
 |x :: r,b :: t,0,d,a,h,h'=>by
  simp at h h'
  subst h;subst h'
  show bh x b++fi (r.take 0) (t.take 0)=_
  simp [fi]
 |x :: r,b :: t,i+1,d,a,h,h'=>by
  show bh x b++fi (r.take (i+1)) (t.take (i+1))=(bh x b++fi (r.take i) (t.take i))++_
  rw[o6 r t i d a (by simpa using h) (by simpa using h'),List.append_assoc]
section
variable{G G':Hh}{Q:D->Hh->Prop}{E:Nat->Hh->Prop}{σ:St}{y:Sy}
def BE(ns:List Int)(a b:Nat):∃ms:List Int,cutD (ns.map D.int) (some (a:Int)) (some (b:Int))=ms.map D.int/\ms.length<=b - a:=by
 unfold cutD
 refine⟨(ns.drop (sIx (ns.map D.int).length 0 (some (a:Int)))).take (sIx (ns.map D.int).length (ns.map D.int).length (some (b:Int)) - sIx (ns.map D.int).length 0 (some (a:Int))),?_,?_⟩
 · rw[List.map_take,List.map_drop]
 · rw[List.length_take,List.length_drop,qM_]
   unfold sIx
   dsimp only
   rw[if_neg (by omega),if_neg (by omega)]
   omega
def E1{n:Nat}{xs:List D}{lo hi:Option Int}(hn:G[n]? =some (.frz xs))(h:∀G',Chg [] G G'->G'.length=G.length+1->G'[G.length]? =some (.lst (cutD xs lo hi))->Q (.ref G.length) G'):M3.run (oSl (.ref n) lo hi) G Q E:=
 HX hn (h _ (Chg.add _ _) (by simp) (aV _ _))
def zt{n:Nat}{xs:List D}(hn:G[n]? =some (.lst xs))(h:∀G',Chg [] G G'->G'.length=G.length+1->G'[G.length]? =some (.lst xs)->Q (.ref G.length) G'):M3.run (oi [.ref n]) G Q E:=
 x9 hn (h _ (Chg.add _ _) (by simp) (aV _ _))
def Aa{n:Nat}{xs:List D}(h:G[n]? =some (.lst xs)):kdOf G (.ref n)=some .lst:=by
 unfold kdOf
 dsimp only
 rw[h]
def vv{xs:List Int}{v:Int}(h:v∈xs)(hx:∀x∈xs,1<=x/\x<=9):∃c:Nat,v=(c:Int)/\0 < c/\c<=9:=by
 obtain⟨h1,h2⟩:=hx v h
 exact⟨v.toNat,by omega,by omega,by omega⟩
end
section
variable{G G':Hh}{Q:D->Hh->Prop}{E:Nat->Hh->Prop}{σ:St}{y:Sy}{QS:Fl×St->Hh->Prop}
def Ip{B:S3}{i4 i5 i3 la ld:Nat}{ts vs ws:List D}(h4:σ[i4]? =some (some (.tup ts)))(h5:σ[i5]? =some (some (.ref la)))(h3:σ[i3]? =some (some (.ref ld)))(hla:G[la]? =some (.lst vs))(hld:G[ld]? =some (.lst ws))(hl:vs.length=ws.length)
 (h:M3.run (B σ) G QS E):M3.run (ao (sIf (tOr (tB (eUn lX (ae i4))) (tOr (eT (tOf (av (bIs .lst) (aa (ae i5) ai)))) (tB (eOp oNe (av cQ (aa (ae i5) ai)) (av cQ (aa (ae i3) ai)))))) (aH (eC (.bl false))) aX) B σ) G QS E:=by
 refine aA (cX (uy (ib (ot (w_var h4 (Ai ?_))))))
 rw[show decide (D.tup ts=D.non)=false from rfl]
 refine fV ?_
 rw[if_neg qC_]
 refine uy (hJ (iu (bo (ah (w_var h5 (ay ?_))))))
 refine w_isK (Aa hla) (jK ?_)
 rw[show (!jW Kd.lst Kd.lst)=false from rfl,if_neg qC_]
 refine ib (aP (bo (ah (w_var h5 (ay (cU hla (bo (ah (w_var h3 (ay (cU hld ?_)))))))))))
 refine m3 (b:=true) ?_ ?_
 · rw[eq_int,hl];simp
 refine fV ?_
 rw[show (!true)=false from rfl,if_neg qC_]
 exact iz (w_next h)
def w6(d:aY)(a:An):(bh d a).length<=1:=by
 unfold bh
 split <;> simp
theorem rQ:∀(ds:List aY) (as:List An) {i:Nat},ds.length<=i->(fi ds as).length<=i
 | [],_,i,_=>by simp [fi]
 |_ :: _,[],i,_=>by simp [fi]
 |d :: r,a :: t,i,h=>by
  have h':r.length+1<=i:=h
  have:=rQ r t (i:=r.length) (qO_ _)
  have e:=w6 d a
  show (bh d a++fi r t).length<=i
  rw[qN_]
  omega
def BC:aY->Str
 | .wr _ _=>"write"
 | .rd _=>"read"
 | .ca _ _=>"carry"
 | .pa _ _=>"pass"
 | .sw=>"sweep"
 | .ag _=>"again"
 | .qu _=>"quit"
 | .st _=>"stop"
 | .wa _=>"wake"
def HQ{d:aY}(h:Q (.str (BC d)) G):M3.run (oIx (bI d) (.int 0)) G Q E:=by
 cases d <;> exact bH rfl h
def Ck{k:Nat}{a b:Str}:eqG G (k+1) (.str a) (.str b)=some (decide (a=b)):=rfl
end
def DE(k:Kr)(p:Pr):(vn k p).up=k.up:=by
 unfold vn
 split <;> rfl
def sH{sel:Hl->Option Nat}(hs:Sel sel)(P:Hl->List (Nat×Pr)->Prop)(step:∀st es p,WF st->sel st=some p->P st es->P (aE st p false).1 (es++(aE st p false).2)):
 ∀(n:Nat) (st:Hl) (es:List (Nat×Pr)),mea st<=n->WF st->P st es->WF (bj sel st).1/\P (bj sel st).1 (es++(bj sel st).2)/\sel (bj sel st).1=none:=by
 intro n
 induction n with
 |zero=>
  intro st es hm W h
  cases q:sel st with
  |none=>
   rw[cg q,qY_]
   exact⟨W,h,q⟩
  |some p=>have:=bD W (hs st p q);omega
 |succ n ih=>
  intro st es hm W h
  cases q:sel st with
  |none=>
   rw[cg q,qY_]
   exact⟨W,h,q⟩
  |some p=>
   have h1:=bD W (hs st p q)
   rw[gw hs W q,<-List.append_assoc]
   exact ih _ _ (by omega) (gn W p false) (step st es p W q h)
def wz{st:Hl}(h:aD st=none):st.row=[]:=by
 unfold aD at h
 split at h
 · assumption
 · cases h
theorem kT:∀{a b:List Nat},a.Nodup->(∀x∈a,x∈b)->a.length<=b.length
 | [],b,_,_=>qf_ _
 |x :: r,b,hn,h=>by
  have hx:=h x qI_
  rw[List.nodup_cons]at hn
  have:=kT (a:=r) (b:=b.erase x) hn.2 fun y hy=>(List.mem_erase_of_ne (by rintro rfl;exact hn.1 hy)).mpr (h y (qR_ _ hy))
  rw[List.length_erase_of_mem hx]at this
  have:0 < b.length:=List.length_pos_of_mem hx
  simp only[List.length_cons]
  omega
def BD{st:Hl}{l:Lt}{rest:List (Bool×Lt)}{k:Kr}(h:st.row=(false,l) :: rest)(hk:st.ks[l.kpr]? =some k):
 aE st 0 false=({st with ks:=st.ks.set l.kpr (bJ k l).1,row:=rest++(match (bJ k l).2 with
  |none=>[]
  |some x=>[(true,x)])},[]):=by
 unfold aE
 rw[h]
 show (match st.ks[l.kpr]? with |none=>_ |some k=>_)=_
 rw[hk]
 dsimp only
 unfold cn
 rw[h]
 rfl
def BN{st:Hl}{l:Lt}{rest:List (Bool×Lt)}{h:Hd}(hr:st.row=(true,l) :: rest)(hh:st.hs[l.hand]? =some h):
 aE st 0 false=({st with hs:=st.hs.set l.hand (aR h l).1,row:=rest++(aR h l).2.1.map fun x=>(false,x)},match (aR h l).2.2 with
  |none=>[]
  |some p=>[(l.hand,p)]):=by
 unfold aE
 rw[hr]
 show (match st.hs[l.hand]? with |none=>_ |some k=>_)=_
 rw[hh]
 dsimp only
 unfold cn
 rw[hr]
 rfl
def rO{l:List (Nat×Option Pr)}{k:Nat}{p:Option Pr}{x:Nat}:x∈(bf l k p).map (·.1)↔x=k\/x∈l.map (·.1):=by
 unfold bf
 split
 · rename_i h
   rw[qb_]
   have e:((fun x:Nat×Option Pr=>x.1) ∘ fun e:Nat×Option Pr=>if e.1=k then (e.1,p)else e)=fun e=>e.1:=by
    funext e
    show (if e.1=k then (e.1,p)else e).1=e.1
    split <;> rfl
   rw[e]
   obtain⟨x0,he,hk⟩:=List.any_eq_true.mp h
   have hk:x0.1=k:=of_decide_eq_true hk
   constructor
   · exact .inr
   · rintro(rfl |z)
     · exact qH_.mpr ⟨x0,he,hk⟩
     · exact z
 · rw[qT_,qG_]
   simp
   constructor
   · rintro(z |z)
     · exact .inr z
     · exact .inl z
   · rintro(z |z)
     · exact .inr z
     · exact .inl z
section
variable{ks0:List Kr}{hs0:List Hd}{j:Nat}{r:Int}{vo:Option Int}{P0:Pr}
def vj{h:Hd}{l:Lt}(z:h.atw=false\/l.num≠h.rnd):aR h l=(h,[],none):=by
 unfold aR
 rw[if_pos]
 rcases z with z |z
 · rw[z];rfl
 · rw[qa_ z];simp
def Bm{h:Hd}{l:Lt}(ha:h.atw=true)(hn:l.num=h.rnd)(hs:¬h.cnt < (bf h.ar l.kpr l.pair).length*2):aR h l=({h with ar:=bf h.ar l.kpr l.pair},[],none):=by
 unfold aR
 rw[if_neg (by rw[ha,qZ_ hn];decide)]
 dsimp only
 rw[if_pos (by rw[qa_ hs];rfl)]
def By{h:Hd}{l:Lt}(ha:h.atw=true)(hn:l.num=h.rnd)(hs:h.cnt < (bf h.ar l.kpr l.pair).length*2)(hp:h.pair=none):
 aR h l=(roundF (bC {h with ar:=bf h.ar l.kpr l.pair} (vals (bf h.ar l.kpr l.pair))).1 (some (bC {h with ar:=bf h.ar l.kpr l.pair} (vals (bf h.ar l.kpr l.pair))).2),bc (roundF (bC {h with ar:=bf h.ar l.kpr l.pair} (vals (bf h.ar l.kpr l.pair))).1 (some (bC {h with ar:=bf h.ar l.kpr l.pair} (vals (bf h.ar l.kpr l.pair))).2)),none):=by
 unfold aR
 rw[if_neg (by rw[ha,qZ_ hn];decide)]
 dsimp only
 rw[if_neg (by rw[qZ_ hs];decide),hp]
def BU{h:Hd}{l:Lt}{P:Pr}(ha:h.atw=true)(hn:l.num=h.rnd)(hs:h.cnt < (bf h.ar l.kpr l.pair).length*2)(hp:h.pair=some P):
 aR h l=({h with ar:=bf h.ar l.kpr l.pair,atw:=false},[],some P):=by
 unfold aR
 rw[if_neg (by rw[ha,qZ_ hn];decide)]
 dsimp only
 rw[if_neg (by rw[qZ_ hs];decide),hp]
def yN{h:Hd}(e:h.ar=[]):mJ h=List.range h.cnt:=by
 unfold mJ
 rw[e]
 exact List.filter_eq_self.mpr (by simp)
end
def AN(y:Sy)(e:Nat×Pr)(p:Nat)(w':Wk)(h:(gG y e).ak[p]? =some w'):∃w,y.ak[p]? =some w/\w'.hand=w.hand/\w'.rd=w.rd/\w'.lI=w.lI/\w'.beg=w.beg/\(w'=w\/(p=lastOf y.last e.1/\w'.val=some e.2.2/\w'.en=some y.aK)):=by
 unfold gG iL at h
 cases hw:y.ak[lastOf y.last e.1]? with
 |none=>rw[hw]at h;exact⟨w',h,rfl,rfl,rfl,rfl,.inl rfl⟩
 |some u=>
  rw[hw]at h
  dsimp only at h
  rw[qJ_]at h
  split at h
  · rename_i z
    split at h
    · cases h
      exact⟨u,by rw[<-z];exact hw,rfl,rfl,rfl,rfl,.inr ⟨z.symm,rfl,rfl⟩⟩
    · cases h
  · exact⟨w',h,rfl,rfl,rfl,rfl,.inl rfl⟩
theorem rK:∀(es:List (Nat×Pr)) (y:Sy) (p:Nat) (w':Wk),(bV y es).ak[p]? =some w'->∃w,y.ak[p]? =some w/\w'.hand=w.hand/\w'.rd=w.rd/\w'.lI=w.lI/\w'.beg=w.beg/\((w'.val=w.val/\w'.en=w.en)\/∃e∈es,p=lastOf y.last e.1/\w'.val=some e.2.2/\w'.en=some y.aK)
 | [],y,p,w',h=>⟨w',h,rfl,rfl,rfl,rfl,.inl ⟨rfl,rfl⟩⟩
 |e :: r,y,p,w',h=>by
  obtain⟨w1,h1,a1,a2,a3,a4,a5⟩:=rK r (gG y e) p w' h
  obtain⟨q1,q2,q3,q4⟩:=iP y (lastOf y.last e.1) (yP y e.2)
  have q1:(gG y e).last=y.last:=q1
  have q3:(gG y e).aK=y.aK:=q3
  obtain⟨w,h2,b1,b2,b3,b4,b5⟩:=AN y e p w1 h1
  refine⟨w,h2,a1.trans b1,a2.trans b2,a3.trans b3,a4.trans b4,?_⟩
  rcases a5 with ⟨c1,c2⟩ |⟨x,hx,c1,c2,c3⟩
  · rcases b5 with rfl |⟨d1,d2,d3⟩
    · exact .inl ⟨c1,c2⟩
    · exact .inr ⟨e,qI_,d1,c1.trans d2,c2.trans d3⟩
  · exact .inr ⟨x,qR_ _ hx,by rw[<-q1];exact c1,c2,by rw[<-q3];exact c3⟩
def jw(st:Hl)(p:Nat)(s:Bool):aE st p s=(st,[])\/
 (∃l k,(false,l)∈st.row/\st.ks[l.kpr]? =some k/\aE st p s=({st with ks:=st.ks.set l.kpr (bJ k l).1,row:=cn st p s++(match (bJ k l).2 with |none=>[] |some x=>[(true,x)])},[]))\/
 (∃l h,(true,l)∈st.row/\st.hs[l.hand]? =some h/\aE st p s=({st with hs:=st.hs.set l.hand (aR h l).1,row:=cn st p s++(aR h l).2.1.map fun x=>(false,x)},match (aR h l).2.2 with |none=>[] |some p=>[(l.hand,p)])):=by
 unfold aE
 cases hr:st.row[p]? with
 |none=>exact .inl rfl
 |some e=>
  have hm:e∈st.row:=qD_ hr
  obtain⟨b,l⟩:=e
  cases b with
  |false=>
   dsimp only
   cases hk:st.ks[l.kpr]? with
   |none=>exact .inl rfl
   |some k=>exact .inr (.inl ⟨l,k,hm,hk,rfl⟩)
  |true=>
   dsimp only
   cases hh:st.hs[l.hand]? with
   |none=>exact .inl rfl
   |some h=>exact .inr (.inr ⟨l,h,hm,hh,rfl⟩)
def qS(k:Kr)(l:Lt):(bJ k l).1.up=k.up/\∀x,(bJ k l).2=some x->k.up=true/\x.hand=l.hand/\x.kpr=l.kpr/\x.num=l.num:=by
 unfold bJ
 cases hu:k.up with
 |false=>exact⟨hu,fun x e=>by cases e⟩
 |true=>
  rw[if_pos rfl]
  cases l.pair with
  |none=>exact⟨hu,fun x e=>by cases e;exact⟨rfl,rfl,rfl,rfl⟩⟩
  |some p=>exact⟨(DE k p).trans hu,fun x e=>by cases e;exact⟨rfl,rfl,rfl,rfl⟩⟩
def upK(ks:List Kr)(i:Nat):Bool:=(ks[i]?).any (·.up)
def Gr{ks:List Kr}{i:Nat}{k k':Kr}(h:ks[i]? =some k)(e:k'.up=k.up)(x:Nat):upK (ks.set i k') x=upK ks x:=by
 unfold upK
 rw[qJ_]
 by_cases z:i=x
 · subst z
   rw[if_pos rfl,if_pos (qB_.mp h).1,h]
   exact e
 · rw[if_neg z]
def xK(st:Hl)(p:Nat)(s:Bool)(x:Nat):upK (aE st p s).1.ks x=upK st.ks x:=by
 rcases jw st p s with h |⟨l,k,_,hk,h⟩ |⟨l,g,_,hg,h⟩
 · rw[h]
 · rw[h];exact Gr hk (qS k l).1 x
 · rw[h]
def ve(st:Hl)(p:Nat)(s:Bool):(aE st p s).1.ks.length=st.ks.length:=by
 rcases jw st p s with h |⟨l,k,_,hk,h⟩ |⟨l,g,_,hg,h⟩
 · rw[h]
 · rw[h];simp
 · rw[h]
def Cov(k:Nat)(st:Hl):Prop:=∃h,st.hs[k]? =some h/\h.atw=true/\(∀i,upK st.ks i=true->i∈h.ar.map (·.1)\/∃e∈st.row,e.2.hand=k/\e.2.kpr=i/\e.2.num=h.rnd)/\¬st.ks.length < h.ar.length*2
def Done(k:Nat)(st:Hl)(es:List (Nat×Pr)):Prop:=∃h P,st.hs[k]? =some h/\h.atw=false/\(k,P)∈es
def yk{k:Nat}{st:Hl}{es:List (Nat×Pr)}(W:WF st)(hr:st.row≠ [])(L:Cov k st\/Done k st es):Cov k (aE st 0 false).1\/Done k (aE st 0 false).1 (es++(aE st 0 false).2):=by
 cases q:st.row with
 |nil=>exact absurd q hr
 |cons x rest=>
  obtain⟨b,l⟩:=x
  have hm:(b,l)∈st.row:=by rw[q];exact qI_
  obtain⟨g,hg,hk,_⟩:=W.rw _ hm
  have hg:st.hs[l.hand]? =some g:=hg
  have hk:l.kpr < st.ks.length:=hk
  cases b with
  |false=>
   have hk':st.ks[l.kpr]? =some (st.ks[l.kpr]'hk):=qA_ hk
   generalize st.ks[l.kpr]'hk=kk at hk'
   have eu:∀i,upK (aE st 0 false).1.ks i=upK st.ks i:=xK st 0 false
   have el:=ve st 0 false
   rw[BD q hk']at eu el ⊢
   rcases L with ⟨h,e,aw,cov,sm⟩ |⟨h,P,e,aw,hP⟩
   · refine .inl ⟨h,e,aw,fun i hi=>?_,by rw[el];exact sm⟩
     rw[eu]at hi
     rcases cov i hi with z |⟨y,hy,y1,y2,y3⟩
     · exact .inl z
     · rw[q]at hy
       rcases qS_.mp hy with rfl |hy
       · have y2:l.kpr=i:=y2
         have up:kk.up=true:=by
          unfold upK at hi
          rw[<-y2,hk']at hi
          exact hi
         refine .inr ?_
         cases ha:(bJ kk l).2 with
         |none=>
          exfalso
          unfold bJ at ha
          rw[up,if_pos rfl]at ha
          revert ha
          cases l.pair <;> intro ha <;> cases ha
         |some u=>
          obtain⟨_,b2,b3,b4⟩:=(qS kk l).2 u ha
          exact⟨(true,u),qE_ _ (by simp),b2.trans y1,b3.trans y2,b4.trans y3⟩
       · exact .inr ⟨y,qF_ _ hy,y1,y2,y3⟩
   · exact .inr ⟨h,P,e,aw,qF_ _ hP⟩
  |true=>
   have hlt:=(qB_.mp hg).1
   have hn:g.num=l.hand:=(W.hk _ g hg).1
   have hc:g.cnt=st.ks.length:=(W.hk _ g hg).2.1
   rw[BN q hg]
   by_cases z:l.hand=k
   · have self:∀x:Hd,(st.hs.set l.hand x)[k]? =some x:=fun x=>by rw[z,qJ_,if_pos rfl,if_pos (by rw[<-z];exact hlt)]
     rcases L with ⟨h,e,aw,cov,sm⟩ |⟨h,P,e,aw,hP⟩
     · rw[z,e]at hg
       have hgh:=Option.some.inj hg
       subst hgh
       by_cases off:l.num=h.rnd
       · by_cases big:h.cnt < (bf h.ar l.kpr l.pair).length*2
         · cases hp:h.pair with
           |none=>
            rw[By aw off big hp]
            obtain⟨n1,n2,n3⟩:=mq {h with ar:=bf h.ar l.kpr l.pair} (vals (bf h.ar l.kpr l.pair))
            have n4:=gL {h with ar:=bf h.ar l.kpr l.pair} (vals (bf h.ar l.kpr l.pair))
            generalize bC {h with ar:=bf h.ar l.kpr l.pair} (vals (bf h.ar l.kpr l.pair))=cc at n1 n2 n3 n4
            refine .inl ⟨roundF cc.1 (some cc.2),self _,n3.trans aw,fun i hi=>.inr ?_,by show ¬_ < 0*2;omega⟩
            refine⟨(false,⟨(roundF cc.1 (some cc.2)).num,i,(roundF cc.1 (some cc.2)).rnd,some cc.2⟩),qE_ _ (qH_.mpr ⟨_,qH_.mpr ⟨i,?_,rfl⟩,rfl⟩),?_,rfl,rfl⟩
            · rw[yN rfl]
              refine List.mem_range.mpr ?_
              show i < cc.1.cnt
              rw[n4]
              show i < h.cnt
              rw[hc]
              unfold upK at hi
              cases hx:st.ks[i]? with
              |none=>
               have hi:(st.ks[i]?).any (·.up)=true:=hi
               rw[hx]at hi;cases hi
              |some kx=>exact(qB_.mp hx).1
            · show cc.1.num=k
              rw[n1]
              exact hn.trans z
           |some P=>
            rw[BU aw off big hp]
            exact .inr ⟨_,P,self _,rfl,qE_ _ (by rw[z];exact qI_)⟩
         · rw[Bm aw off big]
           refine .inl ⟨{h with ar:=bf h.ar l.kpr l.pair},self _,aw,fun i hi=>?_,by rw[<-hc];exact big⟩
           rcases cov i hi with w |⟨y,hy,y1,y2,y3⟩
           · exact .inl (rO.mpr (.inr w))
           · rw[q]at hy
             rcases qS_.mp hy with rfl |hy
             · exact .inl (rO.mpr (.inl y2.symm))
             · exact .inr ⟨y,qF_ _ hy,y1,y2,y3⟩
       · rw[vj (.inr off)]
         refine .inl ⟨h,self h,aw,fun i hi=>?_,sm⟩
         rcases cov i hi with w |⟨y,hy,y1,y2,y3⟩
         · exact .inl w
         · rw[q]at hy
           rcases qS_.mp hy with rfl |hy
           · exact absurd y3 off
           · exact .inr ⟨y,qF_ _ hy,y1,y2,y3⟩
     · rw[z,e]at hg
       have hgh:=Option.some.inj hg
       subst hgh
       rw[vj (.inl aw)]
       exact .inr ⟨h,P,self h,aw,qF_ _ hP⟩
   · have oth:∀x:Hd,(st.hs.set l.hand x)[k]? =st.hs[k]?:=fun x=>by rw[qJ_,if_neg z]
     rcases L with ⟨h,e,aw,cov,sm⟩ |⟨h,P,e,aw,hP⟩
     · refine .inl ⟨h,(oth _).trans e,aw,fun i hi=>?_,sm⟩
       rcases cov i hi with w |⟨y,hy,y1,y2,y3⟩
       · exact .inl w
       · rw[q]at hy
         rcases qS_.mp hy with rfl |hy
         · exact absurd y1 z
         · exact .inr ⟨y,qF_ _ hy,y1,y2,y3⟩
     · exact .inr ⟨h,P,(oth _).trans e,aw,qF_ _ hP⟩
def vM{st:Hl}(W:WF st)(hU:∃us:List Nat,us.Nodup/\st.ks.length < 2*us.length/\∀k∈us,upK st.ks k=true):(bj aD st).1.row=[]/\∀k,Cov k st->Done k (bj aD st).1 (bj aD st).2:=by
 obtain⟨_,⟨h1,h2,h3⟩,h⟩:=sH bF (fun a es=>(∀k,Cov k st->Cov k a\/Done k a es)/\(∀i,upK a.ks i=upK st.ks i)/\a.ks.length=st.ks.length) (fun a es p W hsel ⟨h1,h2,h3⟩=>by
  unfold aD at hsel
  split at hsel
  · cases hsel
  · rename_i hne
    cases hsel
    exact⟨fun k C=>yk W hne (h1 k C),fun i=>(xK a 0 false i).trans (h2 i),(ve a 0 false).trans h3⟩) (mea st) st [] (qO_ _) W ⟨fun k C=>.inl C,fun i=>rfl,rfl⟩
 rw[qc_]at h1
 have hrow:=wz h
 refine⟨hrow,fun k C=>?_⟩
 rcases h1 k C with ⟨g,e,aw,cov,sm⟩ |D
 · obtain⟨us,u1,u2,u3⟩:=hU
   have:=kT (b:=g.ar.map (·.1)) u1 fun x hx=>by
    rcases cov x ((h2 x).trans (u3 x hx))with z |⟨y,hy,_⟩
    · exact z
    · rw[hrow]at hy;cases hy
   rw[qM_]at this
   rw[h3]at sm
   omega
 · exact D
def kz(o:Option (Int×Int))(w:Wk):(app o w).hand=w.hand/\(app o w).rd=w.rd/\(app o w).val=w.val/\(app o w).beg=w.beg/\(app o w).en=w.en:=by
 unfold app
 split <;> exact⟨rfl,rfl,rfl,rfl,rfl⟩
def xX{a b:Wk}(h1:a.hand=b.hand)(h2:a.rd=b.rd)(h3:a.val=b.val)(h4:a.beg=b.beg)(h5:a.en=b.en):dh a=dh b:=by
 unfold dh
 rw[h1,h2,h3,h4,h5]
def iF{y:Sy}{d:aY}{b:Hl}{es:List (Nat×Pr)}{a:An}(h:doneF y d= .ok (endsF y (b,es)) a):(aI y d).1.af=b/\(aI y d).1.last=y.last/\(aI y d).1.aK=y.aK+1/\(aI y d).1.ak.length=y.ak.length/\
 ∀(p:Nat) w',(aI y d).1.ak[p]? =some w'->∃w,y.ak[p]? =some w/\w'.hand=w.hand/\w'.rd=w.rd/\w'.beg=w.beg/\((w'.val=w.val/\w'.en=w.en)\/∃e∈es,p=lastOf y.last e.1/\w'.val=some e.2.2/\w'.en=some y.aK):=by
 obtain⟨n1,n2,n3,n4⟩:=dk es (aF y b)
 obtain⟨s1,s2,s3,s4⟩:=cG (bV (aF y b) es).last (bV (aF y b) es)
 have ea:(aI y d).1=g7 (bO (endsF y (b,es))):=by unfold aI gs;rw[h]
 rw[ea]
 refine⟨s2.trans n2,s1.trans n1,?_,s4.trans n4,fun p w' hw=>?_⟩
 · show (bO (endsF y (b,es))).aK+1=_
   have:(bO (endsF y (b,es))).aK=y.aK:=s3.trans n3
   rw[this]
 · have hw:((bV (aF y b) es).last.foldl bp (bV (aF y b) es)).ak[p]? =some w':=hw
   rw[eN]at hw
   cases hw1:(bV (aF y b) es).ak[p]? with
   |none=>rw[hw1]at hw;cases hw
   |some w1=>
    rw[hw1]at hw
    have hw:=Option.some.inj hw
    obtain⟨t1,t2,t3,t4,t5⟩:=kz (asg (bV (aF y b) es).af.hs (bV (aF y b) es).last p) w1
    rw[hw]at t1 t2 t3 t4 t5
    obtain⟨w,h0,a1,a2,_,a4,a5⟩:=rK es (aF y b) p w1 hw1
    refine⟨w,h0,t1.trans a1,t2.trans a2,t4.trans a4,?_⟩
    rcases a5 with ⟨c1,c2⟩ |⟨e,he,c1,c2,c3⟩
    · exact .inl ⟨t3.trans c1,t5.trans c2⟩
    · exact .inr ⟨e,he,c1,t3.trans c2,t5.trans c3⟩
def oH{y:Sy}{d:aY}{c:Nat}(h:doneF y d= .no c):(aI y d).1.af=y.af/\(aI y d).1.last=y.last/\(aI y d).1.aK=y.aK+1/\(aI y d).1.ak.length=y.ak.length/\
 ∀(p:Nat) w',(aI y d).1.ak[p]? =some w'->∃w,y.ak[p]? =some w/\w'.hand=w.hand/\w'.rd=w.rd/\w'.beg=w.beg/\w'.val=w.val/\w'.en=w.en:=by
 obtain⟨s1,s2,s3,s4⟩:=cG y.last y
 have ea:(aI y d).1=g7 (bO y):=by unfold aI gs;rw[h]
 rw[ea]
 refine⟨s2,s1,by show (bO y).aK+1=_;rw[show (bO y).aK=y.aK from s3],s4,fun p w' hw=>?_⟩
 have hw:(y.last.foldl bp y).ak[p]? =some w':=hw
 rw[eN]at hw
 cases hw1:y.ak[p]? with
 |none=>rw[hw1]at hw;cases hw
 |some w1=>
  rw[hw1]at hw
  have hw:=Option.some.inj hw
  obtain⟨t1,t2,t3,t4,t5⟩:=kz (asg y.af.hs y.last p) w1
  rw[hw]at t1 t2 t3 t4 t5
  exact⟨w1,rfl,t1,t2,t4,t3,t5⟩
def uU{a b:List Wk}(hl:a.length=b.length)(h:∀(p:Nat) w w',a[p]? =some w->b[p]? =some w'->dh w=dh w'):a.map dh=b.map dh:=by
 apply List.ext_getElem?
 intro p
 rw[qQ_,qQ_]
 cases ha:a[p]? with
 |none=>
  have:b[p]? =none:=by rw[List.getElem?_eq_none_iff]at ha ⊢;omega
  rw[this]
 |some w=>
  have hp:=(qB_.mp ha).1
  have hb:b[p]? =some (b[p]'(by omega)):=qA_ _
  rw[hb]
  exact congrArg some (h p w _ ha hb)
def q8{y:Sy}{d:aY}{b:Hl}{a:An}(h:doneF y d= .ok (aF y b) a):(aI y d).1.ak.map dh=y.ak.map dh:=by
 obtain⟨_,_,_,e4,e5⟩:=iF (b:=b) (es:=[]) h
 refine uU e4 fun p w w' hw hw'=>?_
 obtain⟨w0,h0,a1,a2,a3,a4⟩:=e5 p w hw
 rw[hw']at h0
 cases h0
 rcases a4 with ⟨a4,a5⟩ |⟨e,he,_⟩
 · exact xX a1 a2 a4 a3 a5
 · cases he
def B8{y:Sy}{d:aY}{c:Nat}(h:doneF y d= .no c):(aI y d).1.ak.map dh=y.ak.map dh:=by
 obtain⟨_,_,_,e4,e5⟩:=oH h
 refine uU e4 fun p w w' hw hw'=>?_
 obtain⟨w0,h0,a1,a2,a3,a4,a5⟩:=e5 p w hw
 rw[hw']at h0
 cases h0
 exact xX a1 a2 a4 a3 a5
def wL(y:Sy)(d:aY):(∃c,doneF y d= .no c)\/(∃b es a,doneF y d= .ok (endsF y (b,es)) a)\/(∃j h rd v a,doneF y d= .ok (gO (aF y (bT y.af j h v)) j rd v) a):=by
 have bg:∀i rd v,(∃c,bS y i rd v= .no c)\/(∃b es a,bS y i rd v= .ok (endsF y (b,es)) a)\/(∃j h rd' v' a,bS y i rd v= .ok (gO (aF y (bT y.af j h v')) j rd' v') a):=by
  intro i rd v
  unfold bS
  split
  · exact .inl ⟨_,rfl⟩
  · split
    · exact .inl ⟨_,rfl⟩
    · split
      · exact .inl ⟨_,rfl⟩
      · exact .inr (.inr ⟨_,_,_,_,_,rfl⟩)
 cases d with
 |wr i v=>exact bg i false (some v)
 |rd i=>exact bg i true none
 |ca n s=>
  unfold doneF
  dsimp only
  split
  · exact .inl ⟨_,rfl⟩
  · exact .inr (.inl ⟨_,_,_,rfl⟩)
 |pa i j=>
  unfold doneF
  dsimp only
  split
  · exact .inl ⟨_,rfl⟩
  · split
    · exact .inl ⟨_,rfl⟩
    · exact .inr (.inl ⟨_,_,_,rfl⟩)
 |sw=>exact .inr (.inl ⟨_,_,_,rfl⟩)
 |ag i=>
  unfold doneF eM
  dsimp only
  split
  · exact .inl ⟨_,rfl⟩
  · split
    · exact .inl ⟨_,rfl⟩
    · split
      · exact .inr (.inl ⟨_,[],_,rfl⟩)
      · exact .inl ⟨_,rfl⟩
 |qu i=>
  unfold doneF eM
  dsimp only
  split
  · exact .inl ⟨_,rfl⟩
  · split
    · exact .inl ⟨_,rfl⟩
    · split
      · exact .inr (.inl ⟨_,[],_,rfl⟩)
      · exact .inl ⟨_,rfl⟩
 |st i=>
  unfold doneF jl
  dsimp only
  split
  · exact .inl ⟨_,rfl⟩
  · split
    · exact .inl ⟨_,rfl⟩
    · exact .inr (.inl ⟨_,[],_,rfl⟩)
 |wa i=>
  unfold doneF jl
  dsimp only
  split
  · exact .inl ⟨_,rfl⟩
  · split
    · exact .inl ⟨_,rfl⟩
    · exact .inr (.inl ⟨_,[],_,rfl⟩)
def swK(b:Bool)(k:Nat):aY:=if b then .wa (k:Int)else .st (k:Int)
def B4{y:Sy}{k:Nat}(hk:k < y.af.ks.length)(b:Bool):∃q a,y.af.ks[k]? =some q/\doneF y (swK b k)= .ok (aF y {y.af with ks:=y.af.ks.set k {q with up:=b}}) a:=by
 have hk':y.af.ks[k]? =some y.af.ks[k]:=qA_ hk
 generalize y.af.ks[k]=q at hk'
 cases b with
 |true=>
  refine⟨q,.one (.bl (!q.up)),hk',?_⟩
  show jl y (k:Int) _=_
  unfold jl
  rw[gz rfl hk]
  dsimp only
  rw[hk']
 |false=>
  refine⟨q,.one (.bl q.up),hk',?_⟩
  show jl y (k:Int) _=_
  unfold jl
  rw[gz rfl hk]
  dsimp only
  rw[hk']
def Dj{ks:List Kr}{i:Nat}{k:Kr}(h:ks[i]? =some k)(b:Bool)(x:Nat):upK (ks.set i {k with up:=b}) x=if x=i then b else upK ks x:=by
 unfold upK
 rw[qJ_]
 by_cases z:i=x
 · subst z
   rw[if_pos rfl,if_pos (qB_.mp h).1,if_pos rfl]
   rfl
 · rw[if_neg z,if_neg (fun q=>z q.symm)]
structure PC (y z:Sy):Prop where
 I:Iv z
 hs:z.af.hs=y.af.hs
 kl:z.af.ks.length=y.af.ks.length
 la:z.last=y.last
 td:z.ak.map dh=y.ak.map dh
 dd:y.aK<=z.aK
 row:∀e∈y.af.row,e∈z.af.row
def PC.refl{y:Sy}(I:Iv y):PC y y:=⟨I,rfl,rfl,rfl,rfl,qO_ _,fun _ h=>h⟩
theorem PC.trans{a b c:Sy}(h:PC a b)(g:PC b c):PC a c:=⟨g.I,g.hs.trans h.hs,g.kl.trans h.kl,g.la.trans h.la,g.td.trans h.td,Nat.le_trans h.dd g.dd,fun e he=>g.row e (h.row e he)⟩
def yA{y:Sy}(I:Iv y){k:Nat}(hk:k < y.af.ks.length)(b:Bool):PC y (aI y (swK b k)).1/\(∀i,upK (aI y (swK b k)).1.af.ks i=if i=k then b else upK y.af.ks i)/\(aI y (swK b k)).1.af.row=y.af.row:=by
 obtain⟨q,a,hq,hd⟩:=B4 hk b
 obtain⟨e1,e2,e3,e4,_⟩:=iF (b:={y.af with ks:=y.af.ks.set k {q with up:=b}}) (es:=[]) hd
 refine⟨⟨kW I _,by rw[e1],by rw[e1];simp,e2,q8 hd,by rw[e3];omega,fun e he=>by rw[e1];exact he⟩,fun i=>?_,by rw[e1]⟩
 rw[e1]
 exact Dj hq b i
theorem nN(f:Nat->Bool){y:Sy}(I:Iv y):∀n,n<=y.af.ks.length->PC y (cz y ((List.range n).map fun k=>swK (f k) k))/\(∀i,upK (cz y ((List.range n).map fun k=>swK (f k) k)).af.ks i=if i < n then f i else upK y.af.ks i)/\(cz y ((List.range n).map fun k=>swK (f k) k)).af.row=y.af.row
 |0,_=>⟨PC.refl I,fun i=>by rw[if_neg (by omega)];rfl,rfl⟩
 |n+1,hn=>by
  obtain⟨P1,u1,r1⟩:=nN f I n (by omega)
  rw[List.range_succ,qT_,iG]
  generalize cz y ((List.range n).map fun k=>swK (f k) k)=z at P1 u1 r1
  obtain⟨P2,u2,r2⟩:=yA P1.I (k:=n) (by rw[P1.kl];omega) (f n)
  refine⟨P1.trans P2,fun i=>(u2 i).trans ?_,r2.trans r1⟩
  by_cases z1:i=n
  · rw[if_pos z1,if_pos (by omega),z1]
  · rw[if_neg z1,u1]
    by_cases z2:i < n
    · rw[if_pos z2,if_pos (by omega)]
    · rw[if_neg z2,if_neg (by omega)]
def Hf(st:Hl):Prop:=∀(i:Nat) h,st.hs[i]? =some h->h.atw=true->¬h.cnt < h.ar.length*2
def LfE(y:Sy)(left:List Nat):Prop:=∀p∈left,∀w,y.ak[p]? =some w->w.en=none
def Cc{h:Hd}(l:Lt)(H:h.atw=true->¬h.cnt < h.ar.length*2)(ha:(aR h l).1.atw=true):¬(aR h l).1.cnt < (aR h l).1.ar.length*2:=by
 unfold aR at ha ⊢
 split at ha
 · rename_i z;rw[if_pos z];exact H ha
 · rename_i z
   rw[if_neg z]
   dsimp only at ha ⊢
   split at ha
   · rename_i q
     rw[if_pos q]
     simpa using q
   · rename_i q
     rw[if_neg q]
     split at ha
     · show ¬_ < ([]:List (Nat×Option Pr)).length*2
       simp
     · cases ha
def xG{st:Hl}(H:Hf st)(p:Nat)(s:Bool):Hf (aE st p s).1:=by
 rcases jw st p s with hc |⟨l,q,hm,hq,hc⟩ |⟨l,g,hm,hg,hc⟩
 · rw[hc];exact H
 · rw[hc];exact H
 · rw[hc]
   intro i h e a
   have e:(st.hs.set l.hand (aR g l).1)[i]? =some h:=e
   rw[qJ_]at e
   by_cases z:l.hand=i
   · rw[if_pos z,if_pos (qB_.mp hg).1]at e
     cases e
     exact Cc l (H _ g hg) a
   · rw[if_neg z]at e
     exact H i h e a
def Hj{sel:Hl->Option Nat}(hs:Sel sel){st:Hl}(W:WF st)(H:Hf st):Hf (bj sel st).1:=
 (sH hs (fun a _=>Hf a) (fun a _ p _ _ h=>xG h p false) (mea st) st [] (qO_ _) W H).2.1
def Ae{st:Hl}(H:Hf st){j:Nat}{g:Hd}{rw':List (Bool×Lt)}(hg:g.atw=true->¬g.cnt < g.ar.length*2):Hf {st with hs:=st.hs.set j g,row:=rw'}:=by
 intro i h e a
 have e:(st.hs.set j g)[i]? =some h:=e
 rw[qJ_]at e
 by_cases z:j=i
 · rw[if_pos z]at e
   split at e
   · cases e;exact hg a
   · cases e
 · rw[if_neg z]at e
   exact H i h e a
def xT{y:Sy}{left:List Nat}(O:Opn y left)(L:LfE y left){r:Hl×List (Nat×Pr)}(hat:∀e∈r.2,bi y.af e.1=true):LfE (endsF y r) left:=by
 intro p hp w' hw
 obtain⟨w,g1,g2,g3⟩:=kK r.2 (aF y r.1) p w' hw
 refine g3.mpr ⟨L p hp w g1,fun z=>?_⟩
 obtain⟨e,he,ee⟩:=qH_.mp z
 obtain⟨_,_,_,_,h4⟩:=O.a e.1 (hat e he)
 exact h4 (by rw[show lastOf y.last e.1=p from ee];exact hp)
def qX{y:Sy}{left:List Nat}(L:LfE y left):LfE (g7 (bO y)) left:=by
 intro p hp w hw
 have hw:(y.last.foldl bp y).ak[p]? =some w:=hw
 rw[eN]at hw
 cases q:y.ak[p]? with
 |none=>rw[q]at hw;cases hw
 |some v=>
  rw[q]at hw
  have:=Option.some.inj hw
  rw[<-this,(kz _ v).2.2.2.2]
  exact L p hp v q
structure Wt (y:Sy) (left:List Nat):Prop where
 O:Opn y left
 lf:LfE y left
 hf:Hf y.af
def zV(h:Hd)(v:Option Int):¬(bM h v).cnt < (bM h v).ar.length*2:=by
 show ¬_ < ([]:List (Nat×Option Pr)).length*2
 simp
def Wt.done{y:Sy}{left:List Nat}(I:Iv y)(T:Wt y left)(d:aY){z:Sy}{a:An}(h:doneF y d= .ok z a):LfE z (left++bh d a)/\Hf z.af:=by
 have W:=I.W.W
 have bg:∀{i rd v},bS y i rd v= .ok z a->LfE z left/\Hf z.af:=by
  intro i rd v h
  unfold bS at h
  split at h
  · cases h
  · split at h
    · cases h
    · rename_i j _ _ g hg
      split at h
      · cases h
      · rename_i q
        cases h
        refine⟨fun p hp w hw=>?_,Ae T.hf fun _=>zV g v⟩
        have hw:(y.ak++[_])[p]? =some w:=hw
        rw[qK_ (T.O.lf p hp)]at hw
        exact T.lf p hp w hw
 have rn:∀{sel:Hl->Option Nat},Sel sel->LfE (endsF y (bj sel y.af)) left/\Hf (endsF y (bj sel y.af)).af:=by
  intro sel hs
  refine⟨xT T.O T.lf fun e he=>cR.mpr ((iH hs (mea y.af) y.af W (qO_ _)).2.2 e he),?_⟩
  rw[show (endsF y (bj sel y.af)).af=(bj sel y.af).1 from(dk _ _).2.1]
  exact Hj hs W T.hf
 cases d with
 |wr i v=>rw[show bh (.wr i v) a=[]from rfl,qY_];exact bg h
 |rd i=>rw[show bh (.rd i) a=[]from rfl,qY_];exact bg h
 |ca n s=>
  rw[show bh (.ca n s) a=[]from rfl,qY_]
  unfold doneF at h
  dsimp only at h
  split at h
  · cases h
  · cases h
    refine⟨xT T.O T.lf fun e he=>cR.mpr (mz _ _ e he),?_⟩
    rw[show (endsF y (aE y.af (yq y n) s)).af=(aE y.af (yq y n) s).1 from(dk _ _).2.1]
    exact xG T.hf _ _
 |pa i j=>
  rw[show bh (.pa i j) a=[]from rfl,qY_]
  unfold doneF at h
  dsimp only at h
  split at h
  · cases h
  · split at h
    · cases h
    · cases h
      exact rn (cL _ _)
 |sw=>
  rw[show bh .sw a=[]from rfl,qY_]
  unfold doneF at h
  dsimp only at h
  cases h
  exact rn bF
 |ag i=>
  rw[show bh (.ag i) a=[]from rfl,qY_]
  unfold doneF eM at h
  dsimp only at h
  split at h
  · cases h
  · split at h
    · cases h
    · split at h
      · cases h
        exact⟨T.lf,T.hf⟩
      · cases h
 |qu i=>
  unfold doneF eM at h
  dsimp only at h
  split at h
  · cases h
  · split at h
    · cases h
    · rename_i j _ _ g hg
      split at h
      · rename_i q
        cases h
        refine⟨fun p hp w hw=>?_,Ae T.hf fun x=>by cases x⟩
        rcases qG_.mp hp with hp |hp
        · exact T.lf p hp w hw
        · have hp:p∈ [(lastOf y.last j:Int).toNat]:=hp
          have hp:p=lastOf y.last j:=by simpa using hp
          subst hp
          obtain⟨w0,h1,_,h3,_⟩:=T.O.a j (cR.mpr ⟨g,hg,q⟩)
          have hw:y.ak[lastOf y.last j]? =some w:=hw
          rw[h1]at hw
          cases hw
          exact h3
      · cases h
 |st i=>
  rw[show bh (.st i) a=[]from rfl,qY_]
  unfold doneF jl at h
  dsimp only at h
  split at h
  · cases h
  · split at h
    · cases h
    · cases h
      exact⟨T.lf,T.hf⟩
 |wa i=>
  rw[show bh (.wa i) a=[]from rfl,qY_]
  unfold doneF jl at h
  dsimp only at h
  split at h
  · cases h
  · split at h
    · cases h
    · cases h
      exact⟨T.lf,T.hf⟩
theorem Wt.F3{y:Sy}{left:List Nat}(I:Iv y)(T:Wt y left)(d:aY):Wt (aI y d).1 (left++bh d (aI y d).2):=by
 suffices H:LfE (aI y d).1 (left++bh d (aI y d).2)/\Hf (aI y d).1.af from⟨T.O.F3 I d,H.1,H.2⟩
 have hh:∀z,(g7 (bO z)).af=z.af:=fun z=>(cG z.last z).2.1
 cases h:doneF y d with
 |no c=>
  have e:gs y d=(y,.one (.str (wordOf c))):=by unfold gs;rw[h]
  unfold aI
  rw[e]
  have:bh d (.one (.str (wordOf c)))=[]:=by cases d <;> rfl
  dsimp only
  rw[this,qY_,hh]
  exact⟨qX T.lf,T.hf⟩
 |ok z a=>
  have e:gs y d=(z,a):=by unfold gs;rw[h]
  unfold aI
  rw[e]
  obtain⟨h1,h2⟩:=T.done I d h
  dsimp only
  rw[hh]
  exact⟨qX h1,h2⟩
theorem Wt.run:∀(ds:List aY) {y:Sy} {left:List Nat},Iv y->Wt y left->Wt (cz y ds) (left++fi ds (cZ y ds))
 | [],y,left,I,O=>by
   show Wt y (left++[])
   rw[qY_]
   exact O
 |d :: ds,y,left,I,O=>by
  have:=Wt.run ds (kW I d) (O.F3 I d)
  show Wt (cz (aI y d).1 ds) (left++(bh d (aI y d).2++fi ds (cZ (aI y d).1 ds)))
  rw[<-List.append_assoc]
  exact this
def wt0(c m:Nat):Wt (bt c m) []:=⟨wQ c m,fun p hp=>(by cases hp),fun i h e a=>by
 have e:((List.range m).map fun i=>kA i c)[i]? =some h:=e
 obtain⟨j,_,e⟩:=qH_.mp (qD_ e)
 rw[<-e]at a
 cases a⟩
def Eg(y:Sy):Prop:=∀(p:Nat) w x,y.ak[p]? =some w->w.en=some x->x < y.aK
def Dv{y:Sy}(B:Eg y)(d:aY):Eg (aI y d).1:=by
 intro p w x hw hx
 rcases wL y d with ⟨c,h⟩ |⟨b,es,a,h⟩ |⟨j,g,rd,v,a,h⟩
 · obtain⟨_,_,e3,_,e5⟩:=oH h
   obtain⟨w0,h0,_,_,_,_,a5⟩:=e5 p w hw
   have:=B p w0 x h0 (a5 ▸ hx)
   omega
 · obtain⟨_,_,e3,_,e5⟩:=iF h
   obtain⟨w0,h0,_,_,_,a4⟩:=e5 p w hw
   rcases a4 with ⟨_,a5⟩ |⟨e,_,_,_,a6⟩
   · have:=B p w0 x h0 (a5 ▸ hx)
     omega
   · rw[a6]at hx
     cases hx
     omega
 · have ea:(aI y d).1=g7 (bO (gO (aF y (bT y.af j g v)) j rd v)):=by unfold aI gs;rw[h]
   rw[ea]at hw ⊢
   have hd:(g7 (bO (gO (aF y (bT y.af j g v)) j rd v))).aK=y.aK+1:=congrArg (·+1) (cG _ _).2.2.1
   have hw:((gO (aF y (bT y.af j g v)) j rd v).last.foldl bp (gO (aF y (bT y.af j g v)) j rd v)).ak[p]? =some w:=hw
   rw[eN]at hw
   cases q:(gO (aF y (bT y.af j g v)) j rd v).ak[p]? with
   |none=>rw[q]at hw;cases hw
   |some u=>
    rw[q]at hw
    have:=Option.some.inj hw
    rw[<-this,(kz _ u).2.2.2.2]at hx
    have q:(y.ak++[_])[p]? =some u:=q
    rcases Nat.lt_or_ge p y.ak.length with z |z
    · rw[qK_ z]at q
      have:=B p u x q hx
      omega
    · rw[qL_ z]at q
      have:=qD_ q
      rw[List.mem_singleton]at this
      rw[this]at hx
      cases hx
def we{y:Sy}(B:Eg y)(ds:List aY):Eg (cz y ds):=by
 induction ds generalizing y with
 |nil=>exact B
 |cons d r ih=>exact ih (Dv B d)
def eg0(c m:Nat):Eg (bt c m):=fun p w x hw=>by
 have hw:([]:List Wk)[p]? =some w:=hw
 simp at hw
def Hv{z:Sy}(I:Iv z){d:aY}{c:Nat}(h:doneF z d= .no c):PC z (aI z d).1:=by
 obtain⟨e1,e2,e3,_,_⟩:=oH h
 exact⟨kW I _,by rw[e1],by rw[e1],e2,B8 h,by rw[e3];omega,fun e he=>by rw[e1];exact he⟩
theorem pf{y:Sy}(I:Iv y):∀n,n<=y.af.hs.length->PC y (cz y ((List.range n).map fun k:Nat=>aY.ag (k:Int)))/\(cz y ((List.range n).map fun k:Nat=>aY.ag (k:Int))).af.ks=y.af.ks/\
 ∀k,k < n->∀h,y.af.hs[k]? =some h->h.atw=true->∀i,i < y.af.ks.length->i∈h.ar.map (·.1)\/∃e∈(cz y ((List.range n).map fun k:Nat=>aY.ag (k:Int))).af.row,e.2.hand=k/\e.2.kpr=i/\e.2.num=h.rnd
 |0,_=>⟨PC.refl I,rfl,fun k hk=>by omega⟩
 |n+1,hn=>by
  obtain⟨P1,k1,r1⟩:=pf I n (by omega)
  rw[List.range_succ,qT_,iG]
  generalize cz y ((List.range n).map fun k:Nat=>aY.ag (k:Int))=z at P1 k1 r1
  have hnl:n < z.af.hs.length:=by rw[P1.hs];omega
  have hg:z.af.hs[n]? =some z.af.hs[n]:=qA_ hnl
  generalize z.af.hs[n]=g at hg
  have hd:doneF z (.ag (n:Int))=if g.atw then .ok (aF z {z.af with row:=newRow z.af g}) (.one (.int ((bc g).length:Int)))else .no 1005:=by
   show eM z (n:Int) _=_
   unfold eM
   rw[gz rfl hnl]
   dsimp only
   rw[hg]
  cases ga:g.atw with
  |false=>
   rw[ga,if_neg qC_]at hd
   have P2:=Hv P1.I hd
   have e1:=(oH hd).1
   refine⟨P1.trans P2,by show (aI z (.ag (n:Int))).1.af.ks=_;rw[e1];exact k1,fun k hk h hh ha i hi=>?_⟩
   by_cases z1:k=n
   · subst z1
     rw[<-P1.hs,hg]at hh
     cases hh
     rw[ga]at ha
     cases ha
   · rcases r1 k (by omega) h hh ha i hi with w |⟨e,he,w⟩
     · exact .inl w
     · exact .inr ⟨e,P2.row e he,w⟩
  |true=>
   rw[ga,if_pos rfl]at hd
   obtain⟨e1,e2,e3,e4,_⟩:=iF (b:={z.af with row:=newRow z.af g}) (es:=[]) hd
   have hnum:g.num=n:=(P1.I.W.W.hk n g hg).1
   have hcnt:g.cnt=z.af.ks.length:=(P1.I.W.W.hk n g hg).2.1
   have P2:PC z (aI z (.ag (n:Int))).1:=⟨kW P1.I _,by rw[e1],by rw[e1],e2,q8 hd,by rw[e3];omega,fun e he=>by rw[e1];exact qF_ _ he⟩
   refine⟨P1.trans P2,by show (aI z (.ag (n:Int))).1.af.ks=_;rw[e1];exact k1,fun k hk h hh ha i hi=>?_⟩
   show _\/∃e∈(aI z (.ag (n:Int))).1.af.row,_
   by_cases z1:k=n
   · subst z1
     rw[<-P1.hs,hg]at hh
     cases hh
     by_cases z2:i∈g.ar.map (·.1)
     · exact .inl z2
     · refine .inr ⟨(false,⟨g.num,i,g.rnd,g.pair⟩),?_,hnum,rfl,rfl⟩
       rw[e1]
       refine qE_ _ (qH_.mpr ⟨_,qH_.mpr ⟨i,?_,rfl⟩,rfl⟩)
       unfold mJ
       refine List.mem_filter.mpr ⟨List.mem_range.mpr (by rw[hcnt,P1.kl];exact hi),?_⟩
       rw[qa_ z2]
       rfl
   · rcases r1 k (by omega) h hh ha i hi with w |⟨e,he,w⟩
     · exact .inl w
     · exact .inr ⟨e,P2.row e he,w⟩
def Cv{sel:Hl->Option Nat}(hs:Sel sel){st:Hl}(W:WF st):((bj sel st).2.map (·.1)).Nodup:=by
 have:=(sH hs (fun a es=>(es.map (·.1)).Nodup/\∀e∈es,bi a e.1=false) (fun a es p _ _ ⟨h1,h2⟩=>by
  have one:∀e∈(aE a p false).2,(aE a p false).2=[e]:=fun e he=>by
   rcases jw a p false with hc |⟨l,q,hm,hq,hc⟩ |⟨l,g,hm,hg,hc⟩
   · rw[hc]at he;cases he
   · rw[hc]at he;cases he
   · rw[hc]at he ⊢
     revert he
     dsimp only
     cases (aR g l).2.2 with
     |none=>intro he;cases he
     |some P=>intro he;rw[List.mem_singleton.mp he]
  refine⟨?_,fun e he=>?_⟩
  · cases q:(aE a p false).2 with
    |nil=>rw[qY_];exact h1
    |cons e r=>
     have:=one e (by rw[q];exact qI_ ..)
     rw[q]at this
     rw[this,qT_,List.nodup_append]
     refine⟨h1,by simp,fun x hx z hz=>?_⟩
     obtain⟨u,hu,rfl⟩:=qH_.mp hx
     have hz:z=e.1:=by simpa using hz
     rw[hz]
     intro ne
     have w:=h2 u hu
     rw[ne,cR.mpr (mz p false e (by rw[q];exact qI_ ..))]at w
     cases w
  · rw[pq]
    rcases qG_.mp he with z |z
    · rw[h2 e z];rfl
    · have:ended (aE a p false).2 e.1=true:=qZ_ (qH_.mpr ⟨e,z,rfl⟩)
      rw[this]
      cases bi a e.1 <;> rfl) (mea st) st [] (qO_ _) W ⟨List.nodup_nil,fun e he=>by cases he⟩).2.1.1
 rw[qc_]at this
 exact this
def yz(y:Sy)(e:Nat×Pr):List Int:=[(lastOf y.last e.1:Int),e.2.2]
def b9(n p:Nat)(w:Wk):Option (List Int):=if w.en=some n then w.val.map fun v=>[(p:Int),v]else none
def jf(n:Nat)(ws:List Wk):List (List Int):=(List.range ws.length).filterMap fun p=>(ws[p]?).bind (b9 n p)
def upD(f:Nat->Bool)(c m:Nat):List aY:=(List.range c).map (fun k=>swK (f k) k)++(List.range m).map (fun k:Nat=>aY.ag (k:Int))
def nW{n:Nat}{ws:List Wk}{r:List Int}:r∈jf n ws↔∃(p:Nat) (w:Wk) (v:Int),ws[p]? =some w/\w.en=some n/\w.val=some v/\r=[(p:Int),v]:=by
 unfold jf
 rw[List.mem_filterMap]
 constructor
 · rintro⟨p,hp,h⟩
   cases q:ws[p]? with
   |none=>rw[q]at h;cases h
   |some w=>
    rw[q]at h
    have h:b9 n p w=some r:=h
    unfold b9 at h
    split at h
    · rename_i e
      cases v:w.val with
      |none=>rw[v]at h;cases h
      |some x=>rw[v]at h;cases h;exact⟨p,w,x,q,e,v,rfl⟩
    · cases h
 · rintro⟨p,w,v,h1,h2,h3,rfl⟩
   refine⟨p,List.mem_range.mpr (qB_.mp h1).1,?_⟩
   rw[h1]
   show b9 n p w=_
   unfold b9
   rw[if_pos h2,h3]
   rfl
def qc(n:Nat)(ws:List Wk):(jf n ws).Pairwise LtP:=by
 unfold jf
 rw[List.pairwise_filterMap]
 refine List.pairwise_lt_range.imp fun {a b} hab x hx z hz=>?_
 have sh:∀(p:Nat) (r:List Int),(ws[p]?).bind (b9 n p)=some r->∃v,r=[(p:Int),v]:=fun p r h=>by
  cases q:ws[p]? with
  |none=>rw[q]at h;cases h
  |some w=>
   rw[q]at h
   have h:b9 n p w=some r:=h
   unfold b9 at h
   split at h
   · cases v:w.val with
     |none=>rw[v]at h;cases h
     |some x=>rw[v]at h;cases h;exact⟨x,rfl⟩
   · cases h
 obtain⟨u,rfl⟩:=sh a x hx
 obtain⟨v,rfl⟩:=sh b z hz
 show (if (a:Int)=b then _ else decide ((a:Int) < b))=true
 rw[if_neg (by omega)]
 exact qZ_ (by omega)
def H4{l:List (List Int)}(h:l.Pairwise LtP):l.Nodup:=h.imp fun {a b} hab e=>by
 subst e
 rw[show LtP a a=(eO a a=true)from rfl,o5]at hab
 cases hab
def GR{l:List (Nat×Pr)}(h:(l.map (·.1)).Nodup){a b:Nat×Pr}(ha:a∈l)(hb:b∈l)(e:a.1=b.1):a=b:=by
 induction l with
 |nil=>cases ha
 |cons x r ih=>
  rw[List.map_cons,List.nodup_cons]at h
  rcases qS_.mp ha with rfl |ha' <;> rcases qS_.mp hb with rfl |hb'
  · rfl
  · exact absurd (qH_.mpr ⟨b,hb',e.symm⟩) h.1
  · exact absurd (qH_.mpr ⟨a,ha',e⟩) h.1
  · exact ih h.2 ha' hb'
def zX{y:Sy}{left:List Nat}(I:Iv y)(T:Wt y left)(B:Eg y){f:Nat->Bool}(hf:∃us:List Nat,us.Nodup/\y.af.ks.length < 2*us.length/\∀k∈us,k < y.af.ks.length/\f k=true)
 {t:Sy} (ht:t=cz y (upD f y.af.ks.length y.af.hs.length)):
 (∀left',Wt (aI t .sw).1 left'->∀(p:Nat) w,(aI t .sw).1.ak[p]? =some w->(w.en=none↔p∈left'))/\
 ((bj aD t.af).2.map (yz t)).Nodup/\(bj aD t.af).2.length<=9/\sortI ((bj aD t.af).2.map (yz t))=jf t.aK (aI t .sw).1.ak/\
 ∀(p:Nat) w,(aI t .sw).1.ak[p]? =some w->w.en=some t.aK->∃v,w.val=some v:=by
 unfold upD at ht
 rw[iG]at ht
 obtain⟨P1,u1,_⟩:=nN f I y.af.ks.length (qO_ _)
 have T1:=Wt.run ((List.range y.af.ks.length).map fun k=>swK (f k) k) I T
 have B1:=we B ((List.range y.af.ks.length).map fun k=>swK (f k) k)
 generalize cz y ((List.range y.af.ks.length).map fun k=>swK (f k) k)=z at P1 u1 T1 B1 ht
 obtain⟨P2,k2,r2⟩:=pf P1.I z.af.hs.length (qO_ _)
 have T2:=Wt.run ((List.range z.af.hs.length).map fun k:Nat=>aY.ag (k:Int)) P1.I T1
 have B2:=we B1 ((List.range z.af.hs.length).map fun k:Nat=>aY.ag (k:Int))
 rw[<-P1.hs]at ht
 rw[<-ht]at P2 k2 r2 T2 B2
 clear ht
 generalize left++fi ((List.range y.af.ks.length).map fun k=>swK (f k) k) (cZ y ((List.range y.af.ks.length).map fun k=>swK (f k) k))++fi ((List.range z.af.hs.length).map fun k:Nat=>aY.ag (k:Int)) (cZ z ((List.range z.af.hs.length).map fun k:Nat=>aY.ag (k:Int)))=left2 at T2
 have P:=P1.trans P2
 have W:=P.I.W.W
 have hup:∃us:List Nat,us.Nodup/\t.af.ks.length < 2*us.length/\∀k∈us,upK t.af.ks k=true:=by
  obtain⟨us,h1,h2,h3⟩:=hf
  refine⟨us,h1,by rw[P.kl];exact h2,fun k hk=>?_⟩
  rw[k2,u1,if_pos (h3 k hk).1]
  exact(h3 k hk).2
 obtain⟨_,dn⟩:=vM W hup
 have cov:∀k,bi t.af k=true->Cov k t.af:=fun k hk=>by
  obtain⟨h,e,a⟩:=cR.mp hk
  refine⟨h,e,a,fun i hi=>?_,?_⟩
  · have hi':i < z.af.ks.length:=by
     unfold upK at hi
     cases hx:t.af.ks[i]? with
     |none=>rw[hx]at hi;cases hi
     |some kx=>
      have:=(qB_.mp hx).1
      rw[k2]at this
      exact this
    have e':z.af.hs[k]? =some h:=by rw[<-P2.hs];exact e
    exact r2 k (qB_.mp e').1 h e' a i hi'
  · have:=T2.hf k h e a
    rw[(W.hk k h e).2.1]at this
    exact this
 have hds:doneF t .sw= .ok (endsF t ((bj aD t.af).1,(bj aD t.af).2)) (.lst (mU t (bj aD t.af))):=rfl
 obtain⟨e1,e2,e3,e4,e5⟩:=iF hds
 have idle:∀k,bi (bj aD t.af).1 k=false:=fun k=>by
  cases q:bi t.af k with
  |false=>
   rw[vC bF k (mea t.af) t.af W (qO_ _),q]
   rfl
  |true=>
   obtain⟨h,_,h1,h2,_⟩:=dn k (cov k q)
   rw[dW h1]
   exact h2
 have hat:∀e∈(bj aD t.af).2,bi t.af e.1=true:=fun e he=>cR.mpr ((iH bF (mea t.af) t.af W (qO_ _)).2.2 e he)
 have end1:∀(p:Nat) w',(aI t .sw).1.ak[p]? =some w'->p∈(bj aD t.af).2.map (fun e=>lastOf t.last e.1)->w'.en≠none:=by
  intro p w' hw' hp hn
  have hw2:((bV (aF t (bj aD t.af).1) (bj aD t.af).2).last.foldl bp (bV (aF t (bj aD t.af).1) (bj aD t.af).2)).ak[p]? =some w':=hw'
  rw[eN]at hw2
  cases hw1:(bV (aF t (bj aD t.af).1) (bj aD t.af).2).ak[p]? with
  |none=>rw[hw1]at hw2;cases hw2
  |some w1=>
   rw[hw1]at hw2
   have hw2:=Option.some.inj hw2
   have en1:w1.en=none:=by
    rw[<-hw2]at hn
    rw[(kz _ w1).2.2.2.2]at hn
    exact hn
   obtain⟨_,_,_,iff⟩:=kK (bj aD t.af).2 (aF t (bj aD t.af).1) p w1 hw1
   exact(iff.mp en1).2 hp
 have nd:=Cv bF W
 have inj:∀e∈(bj aD t.af).2,∀e'∈(bj aD t.af).2,lastOf t.last e.1=lastOf t.last e'.1->e=e':=fun e he e' he' h=>by
  obtain⟨w,a1,a2,_,_⟩:=T2.O.a e.1 (hat e he)
  obtain⟨w',b1,b2,_,_⟩:=T2.O.a e'.1 (hat e' he')
  rw[<-h,a1]at b1
  cases b1
  have h1:e.1=e'.1:=by omega
  exact GR nd he he' h1
 have hlt:∀e∈(bj aD t.af).2,e.1 < t.af.hs.length:=fun e he=>by
  obtain⟨h,h1,_⟩:=cR.mp (hat e he)
  exact(qB_.mp h1).1
 have rnd:((bj aD t.af).2.map (yz t)).Nodup:=by
  refine List.pairwise_map.mpr ?_
  have nd':=List.pairwise_map.mp nd
  refine List.Pairwise.imp_of_mem (fun {a b} ha hb hne hr=>hne ?_) nd'
  have:lastOf t.last a.1=lastOf t.last b.1:=by
   have:=congrArg (fun l=>l.getD 0 0) hr
   simp [yz]at this
   omega
  rw[inj a ha b hb this]
 refine⟨fun left' T' p w hw=>⟨fun hn=>?_,fun hp=>T'.lf p hp w hw⟩,rnd,?_,?_,?_⟩
 · apply Classical.byContradiction
   intro hp
   have:=(T'.O.b p w hw hn hp).1
   rw[e1,idle]at this
   cases this
 · have:=kT (b:=List.range t.af.hs.length) nd fun x hx=>by
    obtain⟨e,he,rfl⟩:=qH_.mp hx
    exact List.mem_range.mpr (hlt e he)
   rw[qM_,List.length_range]at this
   exact Nat.le_trans this W.hsz
 · refine rX (pL rnd) (qc _ _) ((sortI_perm _).trans ?_)
   refine(List.perm_ext_iff_of_nodup rnd (H4 (qc _ _))).mpr fun r=>?_
   rw[nW]
   constructor
   · intro hr
     obtain⟨e,he,rfl⟩:=qH_.mp hr
     obtain⟨w0,a1,_,a3,_⟩:=T2.O.a e.1 (hat e he)
     have hl:lastOf t.last e.1 < (aI t .sw).1.ak.length:=by rw[e4];exact(qB_.mp a1).1
     have hw:=qA_ hl
     have ne:=end1 _ _ hw (qH_.mpr ⟨e,he,rfl⟩)
     obtain⟨w,b1,_,_,_,b5⟩:=e5 _ _ hw
     rcases b5 with ⟨_,b6⟩ |⟨e',he',c1,c2,c3⟩
     · rw[a1]at b1
       cases b1
       rw[b6,a3]at ne
       exact absurd rfl ne
     · have:=inj e he e' he' c1
       subst this
       exact⟨_,_,_,hw,c3,c2,rfl⟩
   · rintro⟨p,w,v,hw,h1,h2,rfl⟩
     obtain⟨w0,b1,_,_,_,b5⟩:=e5 p w hw
     rcases b5 with ⟨_,b6⟩ |⟨e',he',c1,c2,c3⟩
     · have:=B2 p w0 t.aK b1 (b6 ▸ h1)
       omega
     · refine qH_.mpr ⟨e',he',?_⟩
       rw[h2]at c2
       cases c2
       unfold yz
       rw[c1]
 · intro p w hw h1
   obtain⟨w0,b1,_,_,_,b5⟩:=e5 p w hw
   rcases b5 with ⟨_,b6⟩ |⟨e',_,_,c2,_⟩
   · have:=B2 p w0 t.aK b1 (b6 ▸ h1)
     omega
   · exact⟨_,c2⟩
section
variable{G G':Hh}{Q:D->Hh->Prop}{E:Nat->Hh->Prop}{σ:St}{y:Sy}{QS:Fl×St->Hh->Prop}
def zb.zd{l1 l2 l3:Nat}(A:zb y l1 l2 l3 G)(c:Chg [] G G'):zb y l1 l2 l3 G':=⟨c.get A.1 (by simp),c.get A.2.1 (by simp),c.get A.2.2 (by simp)⟩
def lH.zd{S:Sd}{n:Nat}{as:List An}{vs:List D}(A:lH S n G as vs)(c:Chg [] G G'):lH S n G' as vs:=⟨A.1,fun i a v h1 h2=>(A.2 i a v h1 h2).chg c (by simp)⟩
end
section
variable{G G':Hh}{Q:D->Hh->Prop}{E:Nat->Hh->Prop}{σ:St}{QS:Fl×St->Hh->Prop}
def FU{ns:List Int}{B:S3}{rest:St}(hl:G[0]? =some (.frz (ns.map D.int)))
 (h:∀(c m:Nat) (ci mi:Int) G',ci=(c:Int)->mi=(m:Int)->0 < c->c<=9->0 < m->m<=9->Chg [] G G'->M3.run (B (some (.ref 0) :: some (.int ci) :: some (.int mi) :: rest)) G' QS E):
 M3.run ((ao (bu 1 (eOp oIx (cS (aa (eC (.int 3)) (aa (eC (.int 3)) (aa (eC (.int 3)) (aa (eC (.int 1)) (aa (eC (.int 2)) (aa (eC (.int 4)) (aa (eC (.int 5)) (aa (eC (.int 3)) (aa (eC (.int 7)) (aa (eC (.int 8)) (aa (eC (.int 9)) (aa (eC (.int 3)) ai))))))))))))) (eOp oMod (eOp oMod (eOp eP (av sJ (aa (ae 0) (aa (eC (.int 0)) ai))) (eC (.int 48271))) (eC (.int 1049))) (eC (.int 12)))))
 (ao (bu 2 (eOp oIx (cS (aa (eC (.int 2)) (aa (eC (.int 2)) (aa (eC (.int 3)) (aa (eC (.int 1)) (aa (eC (.int 2)) (aa (eC (.int 3)) (aa (eC (.int 2)) (aa (eC (.int 9)) ai))))))))) (eOp oMod (eOp oMod (eOp eP (av sJ (aa (ae 0) (aa (eC (.int 0)) ai))) (eC (.int 48271))) (eC (.int 1051))) (eC (.int 8))))) B))
 (some (.ref 0) :: none :: none :: rest)) G QS E:=by
 refine aA (ba (aP ?_))
 refine iq ?_
 lia
 intro G1 c1 l1 h1
 have f1:=c1.get hl (by simp)
 refine aP (aP (aP (bo (ah (w_var rfl (ah (w_c (ay (FX (k:=0) f1 fun x=>?_)))))))))
 lia
 have i1:0<=x*48271 % 1049 % 12:=Int.emod_nonneg _ (by decide)
 have i2:x*48271 % 1049 % 12 < 12:=Int.emod_lt_of_pos _ (by decide)
 obtain⟨ci,mc,e⟩:=oB (xs:=[3,3,3,1,2,4,5,3,7,8,9,3]) i1 i2
 refine cP h1 e ?_
 obtain⟨c,hci,hc0,hc9⟩:=vv mc (by decide)
 clear i1 i2 e mc
 refine w_next ?_
 walk_at "s"
 refine aA (ba (aP ?_))
 refine iq ?_
 lia
 intro G2 c2 l2 h2
 have f2:=c2.get f1 (by simp)
 refine aP (aP (aP (bo (ah (w_var rfl (ah (w_c (ay (FX (k:=0) f2 fun x'=>?_)))))))))
 lia
 have i1:0<=x'*48271 % 1051 % 8:=Int.emod_nonneg _ (by decide)
 have i2:x'*48271 % 1051 % 8 < 8:=Int.emod_lt_of_pos _ (by decide)
 obtain⟨mi,mm,e⟩:=oB (xs:=[2,2,3,1,2,3,2,9]) i1 i2
 refine cP h2 e ?_
 obtain⟨m,hmi,hm0,hm9⟩:=vv mm (by decide)
 refine w_next ?_
 walk_at "s"
 exact h c m ci mi G2 hci hmi hc0 hc9 hm0 hm9 (c1.trans c2)
def CF{xs:List D}{i:Int}{k:Nat}{d:D}(hi:i=-(k:Int))(hk:0 < k)(hk2:k<=xs.length)(h:xs[xs.length - k]? =some d):atI xs i=some d:=by
 subst hi
 unfold atI ixN
 rw[if_neg (by omega),if_pos (by omega)]
 show xs[(-(k:Int)+xs.length).toNat]? =_
 rw[show (-(k:Int)+xs.length).toNat=xs.length - k by omega]
 exact h
end
section
variable{G G':Hh}{Q:D->Hh->Prop}{E:Nat->Hh->Prop}{σ:St}{y:Sy}{QS:Fl×St->Hh->Prop}
def AW(l:List Nat)(p:Nat->Bool):l.length=(l.filter p).length+(l.filter fun k=>!p k).length:=by
 induction l with
 |nil=>rfl
 |cons x r ih=>
  cases q:p x with
  |true=>rw[List.filter_cons_of_pos q,List.filter_cons_of_neg (by rw[q];decide)];simp only[List.length_cons];omega
  |false=>rw[List.filter_cons_of_neg (by rw[q];decide),List.filter_cons_of_pos (by rw[q];rfl)];simp only[List.length_cons];omega
def Hm{c:Nat}{gone:List Int}(h:2*gone.length < c):∃us:List Nat,us.Nodup/\c < 2*us.length/\∀k∈us,k < c/\(!decide ((k:Int)∈gone))=true:=by
 refine⟨(List.range c).filter fun k:Nat=>!decide ((k:Int)∈gone),List.nodup_range.filter _,?_,fun k hk=>⟨List.mem_range.mp (List.mem_filter.mp hk).1,(List.mem_filter.mp hk).2⟩⟩
 have h1:=kT (a:=(List.range c).filter fun k:Nat=>decide ((k:Int)∈gone)) (b:=gone.map Int.toNat) (List.nodup_range.filter _) fun x hx=>by
  have:=of_decide_eq_true (List.mem_filter.mp hx).2
  exact qH_.mpr ⟨_,this,by simp⟩
 rw[qM_]at h1
 have h2:=AW (List.range c) fun k:Nat=>decide ((k:Int)∈gone)
 rw[List.length_range]at h2
 omega
def vO{c m:Nat}{ci mi cell:Int}(hci:ci=(c:Int))(hmi:mi=(m:Int))(hc:0 < c)(hc9:c<=9)(hm9:m<=9)
 (h:∀(gone:List Int) l G',2*gone.length < c->Chg [] G G'->G.length<=l->G'[l]? =some (.lst ((upD (fun k:Nat=>!decide ((k:Int)∈gone)) c m++[aY.sw]).map bI))->Q (.ref l) G'):M3.run (jm [.int cell,.int ci,.int mi]) G Q E:=by
 walk_at "f"
 unfold mj
 refine aA (ba (aP ?_))
 lia
 refine iO (by omega) ?_
 generalize cell*48271 % 1061 % ci=first
 refine w_next ?_
 walk_at "s"
 refine aA (ba (aP ?_))
 lia
 refine Fy (by omega) ?_
 have hd1:0 < (ci+1) / 2:=by omega
 refine iO hd1 ?_
 have s1:0<=cell*48271 % 1063 % ((ci+1) / 2):=Int.emod_nonneg _ (by omega)
 have s2:cell*48271 % 1063 % ((ci+1) / 2) < (ci+1) / 2:=Int.emod_lt_of_pos _ hd1
 generalize cell*48271 % 1063 % ((ci+1) / 2)=sm at*
 obtain⟨s,hs⟩:=Int.eq_ofNat_of_zero_le s1
 have hs2:2*s < c:=by omega
 refine w_next ?_
 walk_at "s"
 refine aA (ba (jn (gM (w_var rfl ?_))))
 with_reducible refine pk hs (by omega) ?_
 rw[IM]
 with_reducible refine kU (f:=m6) (p:=fun _=>true) (g:=fun k:Nat=>D.int ((first+(k:Int)) % ci)) rfl (by simp;omega) (fun x _=>?_) (fun x _ _=>?_) ?_
 · exact fZ ⟨rfl,rfl⟩
 · unfold m6
   refine aP (aP (w_var rfl (w_var rfl ?_)))
   with_reducible refine wR ?_
   refine w_var rfl ?_
   with_reducible exact iO (by omega) ⟨rfl,rfl⟩
 rw[List.filter_eq_self.mpr (by simp)]
 intro G1 c1 l1 h1
 have eg:(List.range s).map (fun k:Nat=>D.int ((first+(k:Int)) % ci))=((List.range s).map fun k:Nat=>(first+(k:Int)) % ci).map D.int:=by rw[qb_];rfl
 rw[eg]at h1
 have hg:2*((List.range s).map fun k:Nat=>(first+(k:Int)) % ci).length < c:=by simpa using hs2
 generalize (List.range s).map (fun k:Nat=>(first+(k:Int)) % ci)=ups at h1 hg
 refine w_next ?_
 walk_at "s"
 refine aA (ba (dM fun G2 c2 l2 h2=>w_next ?_))
 walk_at "s"
 have h12:=c2.get h1 (by simp)
 generalize hl1:G1.length=la at*
 have hla:G.length < la:=by have:=c1.1;omega
 refine aA (rB (gM (w_var rfl ?_)))
 with_reducible refine pk hci (by omega) ?_
 refine lN (fun i σ G'=>∃v,σ=[some (.int cell),some (.int ci),some (.int mi),some (.int first),some (.int sm),some (.ref G.length),some (.ref la),v]/\Chg [] G G'/\G'[G.length]? =some (.lst (ups.map D.int))/\G'[la]? =some (.lst (((List.range i).map fun k:Nat=>swK (!decide ((k:Int)∈ups)) k).map bI))) ?_ ?_ ⟨none,rfl,c1.trans c2,h12,h2⟩
 · rintro i σ G3 hi ⟨v,rfl,c3,h3,h4⟩
   refine aB ?_
   with_reducible refine jD ?_
   walk_at "s"
   refine cJ (rL (w_var rfl (iM h4 ?_)))
   refine aP ?_
   refine iq ?_
   lia
   intro G4 c4 l4 h5
   refine bo (ah (aP (w_var rfl (w_var rfl ?_))))
   refine IC (b:=decide ((i:Int)∈ups)) ?_ ?_
   · unfold inG
     dsimp only
     rw[c4.get h3 (by simp)]
     exact o8
   refine ay (Bc ?_)
   have hcc:Chg [] G G4:=c3.trans c4
   have fin:∀d:D,d=bI (swK (!decide ((i:Int)∈ups)) i)->M3.run (gN (.ref la) d) G4 (fun x G5=>∃v,[some (D.int cell),some (D.int ci),some (D.int mi),some (D.int first),some (D.int sm),some (D.ref G.length),some (D.ref la),some (D.int (i:Int))]=[some (.int cell),some (.int ci),some (.int mi),some (.int first),some (.int sm),some (.ref G.length),some (.ref la),v]/\Chg [] G G5/\G5[G.length]? =some (.lst (ups.map D.int))/\G5[la]? =some (.lst (((List.range (i+1)).map fun k:Nat=>swK (!decide ((k:Int)∈ups)) k).map bI))) E:=by
    rintro d rfl
    refine fz (c4.get h4 (by simp)) (by simp [aC];omega) fun G5 c5 l5 h6=>?_
    refine⟨_,rfl,hcc.trans' c5 (by intro n hn;simp at hn;exact .inr (by omega)),c5.get (c4.get h3 (by simp)) (by simp;omega),?_⟩
    rw[List.range_succ,qT_,qT_]
    exact h6
   cases q:decide ((i:Int)∈ups)with
   |true=>
    refine cP h5 rfl ?_
    exact fin _ (by rw[q];rfl)
   |false=>
    refine cP h5 rfl ?_
    exact fin _ (by rw[q];rfl)
 rintro σ G3 ⟨v,rfl,c3,h3,h4⟩
 with_reducible refine w_next ?_
 have sl:((List.range c).map fun k:Nat=>swK (!decide ((k:Int)∈ups)) k).length=c:=by simp
 generalize hA:(List.range c).map (fun k:Nat=>swK (!decide ((k:Int)∈ups)) k)=A at h4 sl
 refine aA (rB (gM (w_var rfl ?_)))
 with_reducible refine pk hmi (by omega) ?_
 refine lN (fun i σ G'=>∃v,σ=[some (.int cell),some (.int ci),some (.int mi),some (.int first),some (.int sm),some (.ref G.length),some (.ref la),v]/\Chg [] G G'/\G'[la]? =some (.lst ((A++(List.range i).map fun k:Nat=>aY.ag (k:Int)).map bI))) ?_ ?_ ⟨v,rfl,c3,by simpa using h4⟩
 · rintro i σ G4 hi ⟨v,rfl,c4,h5⟩
   refine aB ?_
   with_reducible refine jD ?_
   walk_at "s"
   refine cJ (rL (w_var rfl (iM h5 ?_)))
   lia
   refine fz h5 (by rw[qM_,qN_,sl];simp [aC];omega) fun G6 c6 l6 h7=>?_
   refine⟨_,rfl,c4.trans' c6 (by intro n hn;simp at hn;exact .inr (by omega)),?_⟩
   rw[h7,List.range_succ]
   congr 2
   simp [bI]
 rintro σ G5 ⟨v,rfl,c5,h6⟩
 with_reducible refine w_next ?_
 refine bA (aP (w_var rfl ?_))
 refine iq ?_
 lia
 intro G6 c6 l6 h7
 refine oG (c6.get h6 (by simp)) h7 (by rw[qM_,qN_,sl];simp [aC];omega) fun G7 c7 l7 h8=>?_
 lia
 refine h ups _ G7 hg ((c5.trans c6).trans c7) (by have:=c5.1;have:=c6.1;omega) ?_
 rw[h8]
 unfold upD
 rw[hA]
 congr 2
 simp [bI]
def vY{ld la:Nat}{ds:List aY}{vs:List D}{S:Sd}{n:Nat}(I:Iv y)(hz:ds.length<=1000)(hd:G[ld]? =some (.lst (ds.map bI)))(ha:G[la]? =some (.lst vs))(A:lH S n G (cZ y ds) vs)
 (h:∀l G',Chg [] G G'->G.length<=l->G'[l]? =some (.lst ((fi ds (cZ y ds)).map m6))->Q (.ref l) G'):M3.run (iS [.ref ld,.ref la]) G Q E:=by
 walk_at "f"
 unfold ml
 refine aA (ba (dM fun G2 c2 l2 h2=>w_next ?_))
 walk_at "s"
 have n1:=ax hd
 have n2:=ax ha
 have hd:=c2.get hd (by simp)
 have ha:=c2.get ha (by simp)
 have A:=A.zd c2
 generalize hl6:G.length=l6 at*
 refine aA (rB (gM (bo (ah (w_var rfl (ay (cU hd ?_)))))))
 rw[qM_]
 with_reducible refine gB (by omega) ?_
 refine lN (fun i σ G'=>∃v,σ=[some (.ref ld),some (.ref la),some (.ref l6),v]/\Chg [l6] G2 G'/\G'[l6]? =some (.lst ((fi (ds.take i) ((cZ y ds).take i)).map m6))) ?_ ?_ ⟨none,rfl,Chg.refl _ _,h2⟩
 · rintro i σ G1 hi ⟨v,rfl,c1,h1⟩
   have hdi:ds[i]? =some ds[i]:=qA_ hi
   generalize ds[i]=d at hdi
   obtain⟨z,Iz,_,hai⟩:=Az ds y i d I hdi
   have hll:=(qB_.mp hai).1
   have hvi:vs[i]? =some (vs[i]'(by rw[<-A.1];exact hll)):=qA_ _
   generalize vs[i]'(by rw[<-A.1];exact hll)=w at hvi
   have aw:=A.2 i _ w hai hvi
   have hd1:=c1.get hd (by simp;omega)
   have ha1:=c1.get ha (by simp;omega)
   have es:=o6 ds (cZ y ds) i d _ hdi hai
   refine aB (jD ?_)
   walk_at "s"
   refine cX (l0 (ib (aP (aP (aP (w_var rfl (w_var rfl ?_)))))))
   with_reducible refine cP hd1 (gk hdi) ?_
   refine w_c (HQ (w_c (w_eq Ck (fV ?_))))
   by_cases hq:BC d="quit"
   · rw[qZ_ hq,if_pos rfl]
     have:∃j,d= .qu j:=by
      cases d with
      |qu j=>exact⟨j,rfl⟩
      |_=>exact absurd hq (by dsimp only[BC];decide)
     obtain⟨j,rfl⟩:=this
     refine hJ (iu (bo (ah (aP (w_var rfl (w_var rfl ?_))))))
     with_reducible refine sZ ha1 hvi ?_
     refine ay ?_
     rcases C6 z j with ⟨p,e⟩ |⟨s,e⟩
     · rw[e]at aw es
       have aw:w= .int (p:Int):=aw
       subst aw
       refine mR (jK ?_)
       rw[show (!false)=true from rfl,if_pos rfl]
       refine cJ (rL (w_var rfl (iM h1 (aP (w_var rfl (w_var rfl ?_))))))
       with_reducible refine sZ ha1 hvi ?_
       have hlen:(fi (ds.take i) ((cZ y ds).take i)).length<=i:=rQ _ _ (by simp;omega)
       refine fz h1 (by rw[qM_];unfold aC;omega) fun G2 c2 l2 h2=>?_
       refine⟨_,rfl,c1.trans c2,?_⟩
       rw[es,qT_]
       exact h2
     · rw[e]at aw es
       have aw:w= .str s:=aw
       subst aw
       refine mw (jK ?_)
       rw[show (!true)=false from rfl,if_neg qC_]
       refine iz ⟨_,rfl,c1,?_⟩
       rw[es]
       show _=some (O.lst (List.map m6 (_++[])))
       rw[qY_]
       exact h1
   · rw[qa_ hq,if_neg qC_]
     refine fZ ?_
     rw[if_neg qC_]
     refine iz ⟨_,rfl,c1,?_⟩
     have el:bh d (aI z d).2=[]:=by
      cases d with
      |qu j=>exact absurd rfl hq
      |_=>rfl
     rw[es,el,qY_]
     exact h1
 · rintro σ G1 ⟨v,rfl,c1,h1⟩
   rw[List.take_length,List.take_of_length_le (by rw[dH];exact qO_ _)]at h1
   with_reducible refine w_next ?_
   refine bA (w_var rfl (je ?_))
   exact h l6 G1 (c2.trans' c1 (by intro n hn;simp at hn;exact .inr (by omega))) (by omega) h1
theorem uB:∀{ns:List Int},intsOf (ns.map D.int)=some ns
 | []=>rfl
 |n :: ns=>by
  show (intsOf (ns.map D.int)).map (n :: ·)=_
  rw[uB]
  rfl
theorem rH:∀{ns:List (List Int)},(∀r∈ns,r≠ [])->rowsOf (ns.map tupI)=some ns
 | [],_=>rfl
 |r :: ns,h=>by
  have ih:=rH (ns:=ns) fun x hx=>h x (qR_ _ hx)
  have hr:=h r (qI_ ..)
  cases r with
  |nil=>exact absurd rfl hr
  |cons i m=>
   have e:intsOf ((i :: m).map D.int)=some (i :: m):=uB
   show (match intsOf ((i :: m).map D.int),rowsOf (ns.map tupI)with
    |some (i :: m),some n=>some ((i :: m) :: n)
    |_,_=>none)=_
   rw[e,ih]
def Fz{n:Nat}{ns:List (List Int)}(hn:G[n]? =some (.lst (ns.map tupI)))(h0:∀r∈ns,r≠ [])(h1:ns.length < 64)(h2:ns.Nodup)(h:∀G',Chg [] G G'->G'[G.length]? =some (.lst ((sortI ns).map tupI))->Q (.ref G.length) G'):M3.run (rE [.ref n]) G Q E:=by
 unfold M3.run rE
 dsimp only
 rw[hn]
 dsimp only
 rw[rH h0]
 dsimp only
 rw[if_pos ⟨h1,h2⟩]
 exact h _ (Chg.add _ _) (aV _ _)
def vf{p:Nat}{left:List Nat}:oo G (.int (p:Int)) (left.map m6)=some (decide (p∈left)):=by
 have e:left.map m6=(left.map fun k:Nat=>(k:Int)).map D.int:=by rw[qb_];rfl
 rw[e,o8]
 congr 1
 apply decide_eq_decide.mpr
 rw[qH_]
 constructor
 · rintro⟨k,hk,e⟩
   have:k=p:=by omega
   rw[<-this];exact hk
 · intro h
   exact⟨p,h,rfl⟩
def ID{n p:Nat}{left:List Nat}(hn:G[n]? =some (.lst (left.map m6)))(h:Q (.bl (decide (p∈left))) G):M3.run (oIn (.int (p:Int)) (.ref n)) G Q E:=by
 refine IC (b:=decide (p∈left)) ?_ h
 unfold inG
 dsimp only
 rw[hn]
 exact vf
def zR{n p:Nat}{left:List Nat}(hn:G[n]? =some (.lst (left.map m6)))(h:Q (.bl (!decide (p∈left))) G):M3.run (il (.int (p:Int)) (.ref n)) G Q E:=by
 refine xM (b:=decide (p∈left)) ?_ h
 unfold inG
 dsimp only
 rw[hn]
 exact vf
def Eo{k:Nat}(o:Option Nat)(n:Nat):eqG G (k+1) (nD o) (.int (n:Int))=some (decide (o=some n)):=by
 cases o with
 |none=>rfl
 |some x=>
  show some (decide ((x:Int)=(n:Int)))=_
  congr 1
  apply decide_eq_decide.mpr
  constructor
  · intro h;congr 1;omega
  · intro h;cases h;rfl
def tp(n:Nat)(ws:List Wk){i:Nat}{w:Wk}(hw:ws[i]? =some w):(List.range (i+1)).filterMap (fun p=>(ws[p]?).bind (b9 n p))=(List.range i).filterMap (fun p=>(ws[p]?).bind (b9 n p))++(b9 n i w).toList:=by
 rw[List.range_succ,List.filterMap_append]
 congr 1
 rw[List.filterMap_cons,hw]
 rw[Option.bind_some]
 cases b9 n i w <;> rfl
def Dh{F:Sy}{n lw l7 l8:Nat}{left:List Nat}{ld:Nat}{ds:List aY}{x0 x1 x2 x4 x5:Option D}(hd:G[ld]? =some (.lst (ds.map bI)))(hn:ds.length=n+1)(hz:F.ak.length<=1000)
 (hw:G[lw]? =some (.lst (F.ak.map dh))) (h7:G[l7]? =some (.lst (left.map m6))) (h8:G[l8]? =some (.lst [])) (n1:l8≠ld) (n2:l8≠lw) (n3:l8≠l7)
 (P1:∀(p:Nat) w,F.ak[p]? =some w->(w.en=none↔p∈left)) (P2:∀(p:Nat) w,F.ak[p]? =some w->w.en=some n->∃v,w.val=some v)
 (h:∀v G',Chg [l8] G G'->G'[l8]? =some (.lst ((jf n F.ak).map tupI))->QS (.next,[x0,x1,x2,some (.ref ld),x4,x5,some (.ref lw),some (.ref l7),some (.ref l8),v]) G'):
 M3.run ((jM (gc (av cQ (aa (ae 6) ai))) (gNm 9) (ao (sIf (nA (tB (eUn lX (eOp oIx (eOp oIx (ae 6) (ae 9)) (eC (.int 4))))) (tB (eOp il (ae 9) (ae 7)))) (aH (eC (.bl false))) aX)
 (ao (sIf (nA (tB (eUn lF (eOp oIx (eOp oIx (ae 6) (ae 9)) (eC (.int 4))))) (tB (eOp oIn (ae 9) (ae 7)))) (aH (eC (.bl false))) aX)
 (sIf (tB (eOp oEq (eOp oIx (eOp oIx (ae 6) (ae 9)) (eC (.int 4))) (eOp rR (av cQ (aa (ae 3) ai)) (eC (.int 1))))) (bP (pV (ae 8) (bU (aa (ae 9) (aa (eOp oIx (eOp oIx (ae 6) (ae 9)) (eC (.int 2))) ai))))) aX)))) [x0,x1,x2,some (.ref ld),x4,x5,some (.ref lw),some (.ref l7),some (.ref l8),none]) G QS E:=by
 refine rB (gM (bo (ah (w_var rfl (ay (cU hw ?_))))))
 rw[qM_]
 with_reducible refine gB (by omega) ?_
 refine lN (fun i σ G'=>∃v,σ=[x0,x1,x2,some (.ref ld),x4,x5,some (.ref lw),some (.ref l7),some (.ref l8),v]/\Chg [l8] G G'/\G'[l8]? =some (.lst (((List.range i).filterMap fun p=>(F.ak[p]?).bind (b9 n p)).map tupI))) ?_ ?_ ⟨none,rfl,Chg.refl _ _,h8⟩
 · rintro i σ G1 hi ⟨v,rfl,c1,h1⟩
   have hwi:F.ak[i]? =some F.ak[i]:=qA_ hi
   generalize F.ak[i]=w at hwi
   have hd1:=c1.get hd (by simp;exact fun q=>n1 q.symm)
   have hw1:=c1.get hw (by simp;exact fun q=>n2 q.symm)
   have h71:=c1.get h7 (by simp;exact fun q=>n3 q.symm)
   have p1:=P1 i w hwi
   have es:=tp n F.ak hwi
   refine aB ?_
   with_reducible refine jD ?_
   walk_at "s"
   have ix4:∀{Q:D->Hh->Prop},Q (nD w.en) G1->M3.run (oIx (dh w) (.int 4)) G1 Q E:=fun q=>bH (d:=nD w.en) rfl q
   have ix2:∀{Q:D->Hh->Prop},Q (oD w.val) G1->M3.run (oIx (dh w) (.int 2)) G1 Q E:=fun q=>bH (d:=oD w.val) rfl q
   have en:((ds.length:Nat):Int) - 1=(n:Int):=by omega
   have skip:b9 n i w=none->∃v,[x0,x1,x2,some (D.ref ld),x4,x5,some (D.ref lw),some (D.ref l7),some (D.ref l8),some (D.int (i:Int))]=[x0,x1,x2,some (.ref ld),x4,x5,some (.ref lw),some (.ref l7),some (.ref l8),v]/\Chg [l8] G G1/\G1[l8]? =some (.lst (((List.range (i+1)).filterMap fun p=>(F.ak[p]?).bind (b9 n p)).map tupI)):=fun q=>⟨_,rfl,c1,by rw[es,q];simpa using h1⟩
   refine aA (cX (l0 (ib (ot (aP (aP (w_var rfl (w_var rfl (rA hw1 hwi (w_c (ix4 ?_)))))))))))
   refine Ai (fV ?_)
   rw[qg]
   cases he:w.en with
   |none=>
    have hp:i∈left:=p1.mp he
    rw[show (none:Option Nat).isNone=true from rfl,if_pos rfl]
    refine ib (aP (w_var rfl (w_var rfl (zR h71 (fV ?_)))))
    rw[qZ_ hp,show (!true)=false from rfl,if_neg qC_]
    refine iz (w_next ?_)
    refine aA (cX (l0 (ib (ot (aP (aP (w_var rfl (w_var rfl (rA hw1 hwi (w_c (ix4 ?_)))))))))))
    refine m8 (fV ?_)
    rw[qg,he,show (!(none:Option Nat).isNone)=false from rfl,if_neg qC_]
    refine fZ ?_
    rw[if_neg qC_]
    refine iz (w_next ?_)
    refine cX (ib (aP (aP (aP (w_var rfl (w_var rfl (rA hw1 hwi (w_c (ix4 ?_)))))))))
    refine aP (bo (ah (w_var rfl (ay (cU hd1 (w_c ?_))))))
    rw[qM_]
    refine v9 ?_
    rw[en,he]
    refine w_eq (Eo none n) (fV ?_)
    rw[show decide ((none:Option Nat)=some n)=false from rfl,if_neg qC_]
    exact iz (skip (by unfold b9;rw[he];rfl))
   |some e=>
    have hp:¬i∈left:=fun q=>by have:=p1.mpr q;rw[he]at this;cases this
    rw[show (some e:Option Nat).isNone=false from rfl,if_neg qC_]
    refine fZ ?_
    rw[if_neg qC_]
    refine iz (w_next ?_)
    refine aA (cX (l0 (ib (ot (aP (aP (w_var rfl (w_var rfl (rA hw1 hwi (w_c (ix4 ?_)))))))))))
    refine m8 (fV ?_)
    rw[qg,he,show (!(some e:Option Nat).isNone)=true from rfl,if_pos rfl]
    refine ib (aP (w_var rfl (w_var rfl (ID h71 (fV ?_)))))
    rw[qa_ hp,if_neg qC_]
    refine iz (w_next ?_)
    refine cX (ib (aP (aP (aP (w_var rfl (w_var rfl (rA hw1 hwi (w_c (ix4 ?_)))))))))
    refine aP (bo (ah (w_var rfl (ay (cU hd1 (w_c ?_))))))
    rw[qM_]
    refine v9 ?_
    rw[en,he]
    refine w_eq (Eo (some e) n) (fV ?_)
    by_cases z:e=n
    · subst z
      rw[qZ_ rfl,if_pos rfl]
      obtain⟨x,hx⟩:=P2 i w hwi he
      refine cJ (rL (w_var rfl (iM h1 ?_)))
      refine va (ah (w_var rfl (ah (aP (aP (w_var rfl (w_var rfl (rA hw1 hwi (w_c (ix2 (ay ?_)))))))))))
      have hlen:((List.range i).filterMap fun p=>(F.ak[p]?).bind (b9 e p)).length<=i:=by
       have:=List.length_filterMap_le (fun p=>(F.ak[p]?).bind (b9 e p)) (List.range i)
       rw[List.length_range]at this
       exact this
      refine⟨by unfold aC;simp,?_⟩
      refine fz h1 (by rw[qM_];unfold aC;omega) fun G2 c2 l2 h2=>?_
      refine⟨_,rfl,c1.trans c2,?_⟩
      rw[es,show b9 e i w=some [(i:Int),x] by unfold b9;rw[if_pos he,hx];rfl,qT_,h2,hx]
      rfl
    · rw[qa_ (fun q=>z (by cases q;rfl)),if_neg qC_]
      exact iz (skip (by unfold b9;rw[he,if_neg (fun q=>z (by cases q;rfl))]))
 · rintro σ G1 ⟨v,rfl,c1,h1⟩
   exact h v G1 c1 h1
def Ig{ns:List Int}(hl:G[0]? =some (.frz (ns.map D.int)))(hQ:∀G',Q (.bl true) G'):M3.run (pK [.ref 0]) G Q E:=by
 walk_at "f"
 unfold Bl
 refine FU hl fun c m ci mi G2 hci hmi hc0 hc9 hm0 hm9 c2=>?_
 have f2:=c2.get hl (by simp)
 refine aA (ba (bo (ah (HU (w_var rfl (tK (w_c (zU (tK (w_c (zU ?_)))))))))))
 refine E1 f2 fun G3 c3 l3 h3=>?_
 obtain⟨ms,em,hms⟩:=BE ns 2 20
 have em':cutD (ns.map D.int) (some 2) (some 20)=ms.map D.int:=em
 rw[em']at h3
 refine ah (w_var rfl (ah (w_var rfl (ay ?_))))
 refine BF hci hmi hc0 hm0 h3 (by omega) fun d0 ld G4 c4 g4 hds _ h4=>?_
 refine w_next ?_
 walk_at "s"
 have f4:=c4.get (c3.get f2 (by simp)) (by simp)
 refine aA (ba (aP (w_var rfl (bo (ah (bo (ah (w_var rfl (ah (w_c (ay (FX (k:=1) f4 fun x=>?_))))))))))))
 refine ah (w_var rfl (ah (w_var rfl (ay ?_))))
 refine vO hci hmi hc0 hc9 hm9 fun gone lu G5 hgone c5 g5 h5=>?_
 have ul:(upD (fun k:Nat=>!decide ((k:Int)∈gone)) c m++[aY.sw]).length=c+m+1:=by simp [upD];omega
 refine oG (c5.get h4 (by simp)) h5 (by rw[qM_,qM_,ul];unfold aC;omega) fun G6 c6 g6 h6=>?_
 refine w_next ?_
 walk_at "s"
 rw[<-qT_]at h6
 generalize hds':d0++(upD (fun k:Nat=>!decide ((k:Int)∈gone)) c m++[aY.sw])=ds at h6
 have dl:ds.length=d0.length+(c+m+1):=by rw[<-hds',qN_,ul]
 generalize hld:G5.length=ld' at*
 have hdl:ds.length<=100:=by omega
 clear c2 f2 c3 h3 c4 h4 c5 h5 f4 em em' c6 g4 g5 l3
 refine aA (ba (bo (ah (w_var rfl (ah (w_var rfl (ah (bo (ah (w_var rfl (ay ?_)))))))))))
 refine zt h6 fun G7 c7 l7 h7=>?_
 refine ay ?_
 refine zl hci hmi hc9 hm9 h7 (by omega) fun S1 la vs G8 c8 g8 h8 A8=>?_
 have h68:=(c7.trans c8).get h6 (by simp)
 refine w_next ?_
 walk_at "s"
 refine aA (ba (bo (ah (w_var rfl (ah (w_var rfl (ah (w_var rfl (ay ?_)))))))))
 refine xh hci hmi hc9 hm9 h68 (by omega) fun a1 a2 a3 G9 c9 g1 g2 g3 A=>?_
 have hd:=c9.get h68 (by simp)
 have ht:=c9.get h8 (by simp)
 have A9:=A8.zd c9
 refine w_next ?_
 walk_at "s"
 refine Ip rfl rfl rfl ht hd (by rw[<-A9.1,dH,qM_]) ?_
 refine aA (ba (aP (w_var rfl (w_c (bH (d:= .ref a1) rfl ?_)))))
 refine w_next ?_
 walk_at "s"
 have I0:=kS hc9 hm9
 refine aA (ba (bo (ah (w_var rfl (ah (w_var rfl (ay ?_)))))))
 refine vY I0 (by omega) hd ht A9 fun lg Ga ca ga ha=>?_
 have hd:=ca.get hd (by simp)
 have ht:=ca.get ht (by simp)
 have A9:=A9.zd ca
 have A:=A.zd ca
 refine w_next ?_
 walk_at "s"
 refine aA (ba (dM fun Gb cb lb hb=>w_next ?_))
 walk_at "s"
 have n1:=ax hd
 have n2:=ax ht
 have n3:=ax A.1
 have n4:=ax ha
 obtain⟨I1,hd1,hh1,hk1⟩:=gV I0 d0
 have hks:(cz (bt c m) d0).af.ks.length=c:=by rw[hk1];simp [bt,dR]
 have hhs:(cz (bt c m) d0).af.hs.length=m:=by rw[hh1];simp [bt,dR]
 have T0:=Wt.run d0 I0 (wt0 c m)
 have E0:=we (eg0 c m) d0
 have TF:=Wt.run ds I0 (wt0 c m)
 obtain⟨t,et⟩:∃t,t=cz (cz (bt c m) d0) (upD (fun k:Nat=>!decide ((k:Int)∈gone)) c m):=⟨_,rfl⟩
 have dt:t.aK=d0.length+(c+m):=by
  rw[et]
  obtain⟨_,x,_,_⟩:=gV I1 (upD (fun k:Nat=>!decide ((k:Int)∈gone)) c m)
  rw[x,hd1]
  show 0+d0.length+_=_
  simp [upD]
 have eF:cz (bt c m) ds=(aI t .sw).1:=by rw[<-hds',iG,iG,et];rfl
 obtain⟨K1,K2,K3,K4,K5⟩:=zX I1 T0 E0 (f:=fun k:Nat=>!decide ((k:Int)∈gone)) (by rw[hks];exact Hm hgone) (t:=t) (by rw[hks,hhs];exact et)
 rw[qc_]at TF
 have hwl:(cz (bt c m) ds).ak.length<=1000:=by
  obtain⟨I2,x,_,_⟩:=gV I0 ds
  have:=I2.w
  rw[x]at this
  have:(cz (bt c m) ds).ak.length<=0+ds.length:=this
  omega
 rw[eF]at TF hwl A
 have la':(cZ (bt c m) ds)[ds.length - 1]? =some (.lst (mU t (bj aD t.af))):=by
  rw[<-hds',ny,ny,qL_ (by rw[dH];simp [upD];omega),qL_ (by rw[dH,dH];simp [upD];omega),dH,dH,<-et]
  rw[show (d0++(upD (fun k:Nat=>!decide ((k:Int)∈gone)) c m++[aY.sw])).length - 1 - d0.length - (upD (fun k:Nat=>!decide ((k:Int)∈gone)) c m).length=0 by simp [upD];omega]
  rfl
 generalize fi ds (cZ (bt c m) ds)=left at ha TF
 have kb:=K1 left TF
 refine aA (Dh (F:=(aI t .sw).1) (n:=t.aK) (cb.get hd (by simp)) (by omega) hwl (cb.get A.1 (by simp)) (cb.get ha (by simp)) hb (by omega) (by omega) (by omega) kb K5 fun u Gc cc hc=>w_next ?_)
 have cac:Chg [] Ga Gc:=cb.trans' cc (by intro n hn;simp at hn;exact .inr (by omega))
 have ht:=cac.get ht (by simp)
 have A9:=A9.zd cac
 have vl:vs.length=ds.length:=by rw[<-A9.1,dH]
 have hvi:vs[ds.length - 1]? =some (vs[ds.length - 1]'(by omega)):=qA_ _
 generalize vs[ds.length - 1]'(by omega)=v at hvi
 obtain⟨lz,rfl,_,_,hz⟩:=A9.2 _ _ v la' hvi
 have i1:atI vs (-1)=some (.ref lz):=CF (k:=1) rfl (by omega) (by omega) (by rw[vl];exact hvi)
 refine bA (vS (bo (ah (aP (w_var rfl (ot (w_c (v5 (cP ht i1 (ay ?_))))))))))
 refine w_isK (Aa hz) (fV ?_)
 rw[show jW Kd.lst Kd.lst=true from rfl,if_pos rfl]
 refine bo (ah (bo (ah (aP (w_var rfl (ot (w_c (v5 (cP ht i1 (ay ?_))))))))))
 have hz':Gc[lz]? =some (.lst (((bj aD t.af).2.map (yz t)).map tupI)):=by rw[hz,qb_];rfl
 refine Fz hz' (fun r hr=>?_) (by rw[qM_];omega) K2 fun Gd cd hs=>?_
 · obtain⟨e,_,rfl⟩:=qH_.mp hr
   exact fun q=>nomatch q
 rw[K4]at hs
 refine ah (w_var rfl (ay ?_))
 refine Jx 9 (Ab hs (cd.get hc (by simp)) ?_ (fun x hx=>?_) 5) (je (hQ _))
 · rw[qM_]
   have:=List.length_filterMap_le (fun p=>((aI t .sw).1.ak[p]?).bind (b9 t.aK p)) (List.range (aI t .sw).1.ak.length)
   rw[List.length_range]at this
   unfold jf
   omega
 · obtain⟨r,hr,rfl⟩:=qH_.mp hx
   obtain⟨p,w,v,_,_,_,rfl⟩:=nW.mp hr
   rfl
end
def zS(ns:List Int)(_:ns.length<=63):M3.run (KC.pK [.ref 0]) [.frz (ns.map M3.D.int)] (fun d _=>d= .bl true) fun _ _=>False:=
 Ig (ns:=ns) rfl fun _=>rfl
end KS
namespace LK
open PySem PySem.Spec PyProof.Rows L2 L3 KC
local macro_rules |`(tactic|walk_at "sc")=>`(tactic|exact⟨rfl,rfl,rfl,by decide +kernel,rfl,by decide +kernel,by decide +kernel⟩)
local macro_rules |`(tactic|walk_at "nm")=>`(tactic|exact IL (by decide +kernel) (by decide))
local macro_rules |`(tactic|walk_at "b2")=>`(tactic|exact fun _ _ _ _ _ _ us hl=>match us,hl with | [_,_],_=>rfl)
local macro_rules |`(tactic|walk_at "b1")=>`(tactic|exact fun _ _ _ _ _ _ us hl=>match us,hl with | [_],_=>rfl)
local macro_rules |`(tactic|walk_at "b3")=>`(tactic|exact fun _ _ _ _ _ _ us hl=>match us,hl with | [_,_,_],_=>rfl)
local macro_rules |`(tactic|walk_at "b5")=>`(tactic|exact fun _ _ _ _ _ _ us hl=>match us,hl with | [_,_,_,_,_],_=>rfl)
local macro_rules |`(tactic|walk_at "b4")=>`(tactic|exact fun _ _ _ _ _ _ us hl=>match us,hl with | [_,_,_,_],_=>rfl)
local macro_rules |`(tactic|walk_at "sb")=>`(tactic|first |exact .inl rfl |exact .inr rfl |assumption)
def top(i:Nat):Stmt:=PySem.Challenge.pw_halfask_k05_whole_nobody_waits.main.body.getD i (.Pass ⟨0,0,0,0⟩)
def nmL:List Str:=["number","count","at_work","value","pair","round_number","heard","own_turn","is_up","keepers","hands","row","hand","word","begun","ended","stamp","hall","works","last_places","deeds_done"]
def nmF(g:Nat):Str:=nmL.getD g Str.empty
abbrev TT(cl:Nat->Option Addr):Tab:=⟨cl,nmF⟩
abbrev nJ:Stmt:=top 9
abbrev pz:Stmt:=top 10
abbrev ik:Stmt:=top 11
abbrev j9:Stmt:=inClass (top 13) 0
abbrev gH:Stmt:=inClass (top 13) 5
abbrev eK:Stmt:=inClass (top 13) 4
abbrev iV:Stmt:=inClass (top 13) 3
abbrev eA:Stmt:=inClass (top 13) 1
abbrev fk:Stmt:=inClass (top 13) 2
abbrev eJ:Stmt:=inClass (top 13) 8
abbrev eQ:Stmt:=inClass (top 13) 6
abbrev gF:Stmt:=inClass (top 13) 7
abbrev hI:Stmt:=inClass (top 13) 10
abbrev jZ:Stmt:=inClass (top 13) 9
abbrev gZ:Stmt:=inClass (top 15) 0
abbrev ig:Stmt:=inClass (top 15) 1
abbrev hX:Stmt:=inClass (top 15) 2
abbrev ia:Stmt:=inClass (top 15) 3
abbrev eI:Stmt:=inClass (top 15) 4
abbrev km:Stmt:=inClass (top 17) 0
abbrev gK:Stmt:=inClass (top 17) 1
abbrev fB:Stmt:=inClass (top 17) 2
abbrev jQ:Stmt:=inClass (top 17) 9
abbrev jv:Stmt:=inClass (top 17) 3
abbrev ko:Stmt:=inClass (top 17) 4
abbrev ji:Stmt:=inClass (top 17) 5
abbrev iX:Stmt:=inClass (top 17) 6
abbrev ed:Stmt:=inClass (top 17) 7
abbrev eh:Stmt:=inClass (top 17) 8
abbrev cV:Stmt:=inClass (top 17) 15
abbrev dQ:Stmt:=inClass (top 17) 16
abbrev j8:Stmt:=inClass (top 17) 14
abbrev jr:Stmt:=inClass (top 17) 10
abbrev dD:Stmt:=inClass (top 17) 12
abbrev dB:Stmt:=inClass (top 17) 11
abbrev ja:Stmt:=inClass (top 17) 13
abbrev kg:Stmt:=inClass (top 19) 0
abbrev jR:Stmt:=inClass (top 19) 1
abbrev jz:Stmt:=inClass (top 20) 0
abbrev eW:Stmt:=inClass (top 20) 4
abbrev fC:Stmt:=inClass (top 20) 6
abbrev eY:Stmt:=inClass (top 20) 5
abbrev jb:Stmt:=inClass (top 20) 3
abbrev cA:Stmt:=inClass (top 20) 2
abbrev dP:Stmt:=inClass (top 20) 7
abbrev gI:Stmt:=inClass (top 20) 1
abbrev nI:Stmt:=top 21
abbrev jT:Stmt:=top 22
abbrev Hb:Stmt:=top 24
def xQ:aq ["_law_found","_law_meant","_law_k"] ["_law_found","_law_meant"] (aj Hb):=by walk_at "sc"
abbrev tV:Stmt:=top 25
abbrev Ge:Stmt:=top 26
abbrev lT:Stmt:=top 27
abbrev m5:Stmt:=top 28
abbrev nB:Stmt:=top 29
abbrev sL:Stmt:=top 30
abbrev lZ:Stmt:=top 31
abbrev nM:Stmt:=top 32
abbrev ni:Stmt:=top 33
abbrev jO:Stmt:=top 34
abbrev mf:Stmt:=top 35
abbrev mr:Stmt:=top 36
abbrev lL:Stmt:=top 37
abbrev qZ:Stmt:=top 38
structure Txt (K:PySem.W.Frag) (mg:Str->Option Value) (cl:Nat->Option Addr):Prop where
 H0:mg "max"=none
 kN:mg "range"=none
 tm:mg "list"=none
 IH:mg "len"=none
 uc:mg "enumerate"=none
 EM:mg "bool"=none
 mI:mg "isinstance"=none
 Er:mg "int"=none
 Hu:mg "str"=none
 FC:mg "dict"=none
 xA:mg "tuple"=none
 u5:mg "sorted"=none
 g_BEGINNING:Es K mg "BEGINNING" (.tup [(.tup [(.int 0),(.int 0)]),(.int 0)])
 fA:∀j,j < 21->xV (TT cl) K j
 D1:∃C,cl 1000=some C/\XCl K mg "HalfError" C
 D5:True
 vF:∃C,cl 1001=some C/\XCl K mg "NoHand" C
 AU:∃C,mg "NoHand"=some (.ref C)/\∀c Ca,cl c=some Ca->PySem.W.exmOne K (.ref Ca) (.ref C)=some (decide (c=1001))
 qr:∃C,cl 1002=some C/\XCl K mg "NoKeeper" C
 wg:∃C,mg "NoKeeper"=some (.ref C)/\∀c Ca,cl c=some Ca->PySem.W.exmOne K (.ref Ca) (.ref C)=some (decide (c=1002))
 qe:∃C,cl 1003=some C/\XCl K mg "NoLetter" C
 vX:∃C,mg "NoLetter"=some (.ref C)/\∀c Ca,cl c=some Ca->PySem.W.exmOne K (.ref Ca) (.ref C)=some (decide (c=1003))
 AJ:∃C,cl 1004=some C/\XCl K mg "Busy" C
 EK:∃C,mg "Busy"=some (.ref C)/\∀c Ca,cl c=some Ca->PySem.W.exmOne K (.ref Ca) (.ref C)=some (decide (c=1004))
 z8:∃C,cl 1005=some C/\XCl K mg "Idle" C
 F5:∃C,mg "Idle"=some (.ref C)/\∀c Ca,cl c=some Ca->PySem.W.exmOne K (.ref Ca) (.ref C)=some (decide (c=1005))
set_option hygiene false in
local macro_rules |`(tactic|walk_at "e")=>`(tactic|first
 |exact dm _
 |exact uI
 |exact Ib
 |exact IB
 |exact HE
 |exact F2 Z.g_BEGINNING
 |((fail_if_success (fail_if_success (with_reducible apply yT)));refine yT hu ?_ ?_ <;> walk_at "e")
 |((fail_if_success (fail_if_success (with_reducible apply nY)));refine nY (Z.fA _ (by decide)) ?_;walk_at "e")
 |((with_reducible apply E9) <;> walk_at "e")
 |((with_reducible apply GH) <;> walk_at "e")
 |((with_reducible apply ED) <;> walk_at "e")
 |((with_reducible apply E5) <;> walk_at "e")
 |((with_reducible apply E2) <;> walk_at "e")
 |((with_reducible apply A0);walk_at "a")
 |((with_reducible apply Jb);walk_at "a")
 |((fail_if_success (fail_if_success (with_reducible apply Bg)));refine Bg Z.IH ?_;walk_at "a")
 |((fail_if_success (fail_if_success (with_reducible apply AI)));refine AI rfl Z.H0 ?_;walk_at "a")
 |((fail_if_success (fail_if_success (with_reducible apply xP)));refine xP Z.tm ?_;walk_at "a")
 |((fail_if_success (fail_if_success (with_reducible apply AS)));refine AS Z.Er ?_;walk_at "a")
 |((fail_if_success (fail_if_success (with_reducible apply rW)));refine rW Z.u5 ?_;walk_at "a")
 |((fail_if_success (fail_if_success (with_reducible apply Jl)));refine Jl _ Z.mI ?_ ?_;(first |exact Z.Er |exact Z.EM |exact Z.Hu |exact Z.xA |exact Z.tm |exact Z.FC);walk_at "e")
 |((fail_if_success (fail_if_success (with_reducible apply DN)));refine x_call (by assumption) ?_ ?_ ?_;exact hr.mono (by decide);(first |exact iE |exact BR kc jJ);walk_at "a")
 |((fail_if_success (fail_if_success (with_reducible apply DA)));refine wX (by assumption) ?_ ?_ ?_ ?_;exact hr.mono (by decide);(first |exact iE |exact BR kc jJ);walk_at "e";walk_at "a")
 |((fail_if_success (fail_if_success (with_reducible apply Bk)));refine ya (by assumption) ?_ ?_ ?_;exact hr.mono (by decide);(first |exact iE |exact BR kc jJ);walk_at "e")
 |((fail_if_success (fail_if_success (with_reducible apply Co)));refine Bv (by assumption) ?_ ?_ ?_;exact hr.mono (by decide);exact iE;walk_at "a")
 |((fail_if_success (fail_if_success (with_reducible apply zo)));refine xE (by assumption) ?_ ?_;exact hr.mono (by decide);exact iE)
 |((with_reducible apply IJ);walk_at "e";walk_at "e";exact hu)
 |((with_reducible apply IF);walk_at "e";walk_at "e";exact hu)
 |((fail_if_success (fail_if_success (with_reducible apply Em)));refine Em ?_ ?_ hu <;> walk_at "e")
 |((with_reducible apply HW);walk_at "e")
 |((with_reducible apply II);walk_at "e")
 |((with_reducible apply Ay) <;> walk_at "e")
 |((with_reducible apply Ju) <;> walk_at "e")
 |((with_reducible apply Bo);walk_at "e")
 |((fail_if_success (fail_if_success (with_reducible apply uX)));refine uX ?_ ?_ <;> walk_at "e")
 |((fail_if_success (fail_if_success (with_reducible apply zC)));refine zC ?_ ?_ (by walk_at "ss") <;> walk_at "e")
 |((fail_if_success (fail_if_success (with_reducible apply mv)));refine mv ?_ ?_ <;> walk_at "e")
 |((fail_if_success (fail_if_success (with_reducible apply xr)));refine xr ?_ ?_ <;> walk_at "e")
 |((fail_if_success (fail_if_success (with_reducible apply Hq)));refine Hq DL ?_;walk_at "e")
 |((with_reducible apply Dc);walk_at "e";(first |exact BS |((with_reducible apply zN);walk_at "e"));(first |exact BS |((with_reducible apply zN);walk_at "e")))
 |exact Cb
 |((with_reducible apply JJ);walk_at "t";walk_at "e";walk_at "e")
 |exact wW)
set_option hygiene false in
local macro_rules |`(tactic|walk_at "t")=>`(tactic|first
 |((with_reducible apply HM);walk_at "e";walk_at "e";exact hu)
 |((with_reducible apply Ja);walk_at "e";walk_at "e";exact hu)
 |((with_reducible apply Ij);walk_at "e";walk_at "e";exact hu)
 |((with_reducible apply Iq);walk_at "e";walk_at "e";exact hu)
 |((with_reducible apply IE);walk_at "e";walk_at "e";exact hu)
 |((fail_if_success (fail_if_success (with_reducible apply Ef)));refine Ef ?_ ?_ hu <;> walk_at "e")
 |((fail_if_success (fail_if_success (with_reducible apply ux)));refine ux ?_ ?_ hu <;> walk_at "e")
 |((with_reducible apply Ir);walk_at "e")
 |((with_reducible apply Gj);walk_at "e")
 |((with_reducible apply AX);walk_at "t")
 |((with_reducible apply PW.pt);walk_at "p")
 |((fail_if_success (fail_if_success (with_reducible apply Dr)));refine Dr ?_;walk_at "e"))
set_option hygiene false in
local macro_rules |`(tactic|walk_at "p")=>`(tactic|first
 |((with_reducible apply w_and);walk_at "t";walk_at "p")
 |((with_reducible apply w_or);walk_at "t";walk_at "p")
 |((with_reducible apply FL);walk_at "t")
 |((with_reducible apply Ei);walk_at "t"))
set_option hygiene false in
local macro_rules |`(tactic|walk_at "a")=>`(tactic|first
 |exact nO
 |((fail_if_success (fail_if_success (with_reducible apply di)));refine di ?_ ?_ ?_;walk_at "e";walk_at "a";walk_at "ss"))
set_option hygiene false in
local macro_rules |`(tactic|walk_at "ss")=>`(tactic|first
 |exact fE
 |exact qj
 |exact kG
 |exact zM
 |exact pW
 |exact zJ
 |exact kY
 |exact BX
 |exact Al
 |rfl)
set_option hygiene false in
local macro_rules |`(tactic|walk_at "q")=>`(tactic|first
 |exact DF
 |exact si
 |exact GB
 |exact Fo
 |exact Dl
 |exact Fj
 |exact IQ
 |rfl)
set_option hygiene false in
local macro_rules |`(tactic|walk_at "y")=>`(tactic|first
 |((with_reducible apply tW);walk_at "t";walk_at "b";walk_at "b")
 |((with_reducible apply y_ret);walk_at "e")
 |((fail_if_success (fail_if_success (with_reducible apply AE)));refine AE ?_ ?_ ?_ ?_ ?_ ?_;exact nd;exact rfl;(first |exact Or.inl rfl |exact Or.inr rfl);walk_at "e";walk_at "q";(walk_at "sb"))
 |((fail_if_success (fail_if_success (with_reducible apply w5)));refine w5 ?_ ?_;walk_at "e";walk_at "q")
 |((fail_if_success (fail_if_success (with_reducible apply xF)));refine xF (Z.fA _ (by decide)) ?_ ?_ <;> walk_at "e")
 |((fail_if_success (fail_if_success (with_reducible apply zq)));refine zq ?_ rfl ?_ ?_ ?_;(first |exact PassesOwn.never |exact uf);walk_at "i";walk_at "g";walk_at "b")
 |((fail_if_success (fail_if_success (with_reducible apply Ek)));refine Ek hu ?_ ?_ ?_ <;> walk_at "e")
 |((fail_if_success (fail_if_success (with_reducible apply Jf)));refine Jf ?_ ?_;walk_at "e";walk_at "g")
 |((with_reducible apply Cy);(first |exact PassesOwn.never |exact uf);walk_at "t";walk_at "b"))
set_option hygiene false in
local macro_rules |`(tactic|walk_at "i")=>`(tactic|first
 |((fail_if_success (fail_if_success (with_reducible apply lM)));refine lM Z.kN ?_;walk_at "e")
 |((fail_if_success (fail_if_success (with_reducible apply zL)));refine zL Z.uc ?_;walk_at "e")
 |((with_reducible apply rV);walk_at "e"))
set_option hygiene false in
local macro_rules |`(tactic|walk_at "g")=>`(tactic|first
 |((fail_if_success (fail_if_success (with_reducible apply Gq)));refine Gq ?_ ?_ ?_;exact nd;exact rfl;(first |exact Or.inl rfl |exact Or.inr rfl))
 |((fail_if_success (fail_if_success (with_reducible apply Fs)));refine Fs rfl ?_;walk_at "h"))
set_option hygiene false in
local macro_rules |`(tactic|walk_at "h")=>`(tactic|first
 |exact En
 |((fail_if_success (fail_if_success (with_reducible apply sR)));refine sR ?_ ?_ ?_ ?_;exact nd;exact rfl;(first |exact Or.inl rfl |exact Or.inr rfl);walk_at "h"))
set_option hygiene false in
local macro_rules |`(tactic|walk_at "b")=>`(tactic|first
 |exact mB
 |(refine cH ?_;walk_at "y")
 |(refine aN ?_ ?_;walk_at "y";walk_at "b"))
section
seal L2.PE L2.PT L2.PW L2.PA L2.PS L2.PSs L2.PI L2.PG L2.PGs L2.PO L3.tE L3.tT L3.tA L3.tS L3.tI L3.tG L3.tGs
variable(P:Program)(w:World){K:PySem.W.Frag}(mg:Str->Option Value)(base:Heap){cl:Nat->Option Addr}{fa:Addr}{fd:FuncData}
def wD(F:Fun K "is_more" "is_more" nJ fa fd)(Z:Txt K mg cl):aQ P w K mg base CX0 1 fa fd ["count","many"] (sp3 (TT cl) K 2 kP):=by
 have sc:aq ["count","many"] ["count","many"] (aj nJ):=by walk_at "sc"
 exact bb (k:=0) F sc rfl rfl fun cdv A outer s H E hr=>have hu:=hr.units
  have nd:=sc.nd
  (by delta nE;walk_at "b")
def yp(F:Fun K "newest" "newest" pz fa fd)(Z:Txt K mg cl):aQ P w K mg base CX0 1 fa fd ["pairs"] (sp3 (TT cl) K 1 mx):=by
 have sc:aq ["pairs","best","pair"] ["pairs"] (aj pz):=by walk_at "sc"
 exact bb (k:=0) F sc rfl rfl fun cdv A outer s H E hr=>have hu:=hr.units
  have nd:=sc.nd
  (by delta qd;walk_at "b")
def pU(F:Fun K "stamp_after" "stamp_after" ik fa fd)(Z:Txt K mg cl):aQ P w K mg base CX0 1 fa fd ["pairs","own","hand"] (sp3 (TT cl) K 3 fM):=by
 have sc:aq ["pairs","own","hand","turns"] ["pairs","own","hand"] (aj ik):=by walk_at "sc"
 exact bb (k:=0) F sc rfl rfl fun cdv A outer s H E hr=>have hu:=hr.units
  have nd:=sc.nd
  (by delta g9;refine aN ?_ ?_;exact(gv (i:=3) (Blk.nil rfl rfl (by decide +kernel) rfl) rfl sc.nd rfl rfl (rV (by walk_at "e")) (fun _ _ _ _ _=>e9) (fun _ _ _ _ _=>(by refine yT hu ?_ ?_;refine yT hu ?_ ?_;exact(dm 0);exact uI;exact uI)));refine cH ?_;walk_at "y")
def sE(F:Fun K "__init__" "Hand.__init__" j9 fa fd)(Z:Txt K mg cl):aQ P w K mg base CX0 1 fa fd ["self","number","count"] (sp3 (TT cl) K 3 gT):=by
 have sc:aq ["self","number","count"] ["self","number","count"] (aj j9):=by walk_at "sc"
 exact bb (k:=0) F sc rfl rfl fun cdv A outer s H E hr=>have hu:=hr.units
  have nd:=sc.nd
  (by delta ku;walk_at "b")
def oz(F:Fun K "letters" "Hand.letters" gH fa fd)(Z:Txt K mg cl):aQ P w K mg base CX0 1 fa fd ["self"] (sp3 (TT cl) K 1 cC):=by
 have sc:aq ["self","waited_for"] ["self"] (aj gH):=by walk_at "sc"
 exact bb (k:=0) F sc rfl rfl fun cdv A outer s H E hr=>have hu:=hr.units
  have nd:=sc.nd
  (by delta gy;refine aN ?_ ?_;exact(gv (i:=1) (Blk.of (caps:=[("self",0)]) (cl:=[("self",s.heap.objs.size+1)]) rfl rfl rfl rfl rfl (by decide) rfl rfl rfl rfl rfl) rfl sc.nd rfl rfl (lM Z.kN (by walk_at "e")) (fun _ _ _ _ _=>CY (oa (uu hu) (dm 0) (nY (Z.fA 6 (by decide)) (dm 1)) rfl)) (fun _ _ _ _ _=>(dm 0)));refine cH ?_;refine y_ret ?_;exact(m7 (Blk.of (caps:=[("self",0)]) (cl:=[("self",s.heap.objs.size+1)]) rfl rfl rfl rfl rfl (by decide) rfl rfl rfl rfl rfl) rfl (rV (by walk_at "e")) (fun _ _ _ _ _=>e9) (fun _ _ _ _ _=>(by refine A0 ?_;refine di ?_ ?_ ?_;exact(nY (Z.fA 0 (by decide)) (dm 1));refine di ?_ ?_ ?_;exact(dm 0);refine di ?_ ?_ ?_;exact(nY (Z.fA 5 (by decide)) (dm 1));refine di ?_ ?_ ?_;exact(nY (Z.fA 4 (by decide)) (dm 1));exact nO;exact kY;exact kY;exact fE;exact kY))))
def lx(F:Fun K "begin_round" "Hand.begin_round" eK fa fd)(Z:Txt K mg cl)(Fx19:Mt3 P w K mg base CX0 (TT cl) 1 0 "letters" 1 cC):aQ P w K mg base CX0 2 fa fd ["self","pair"] (sp3 (TT cl) K 2 bK):=by
 have sc:aq ["self","pair"] ["self","pair"] (aj eK):=by walk_at "sc"
 exact bb (k:=1) F sc rfl rfl fun cdv A outer s H E hr=>have hu:=hr.units
  have nd:=sc.nd
  (by delta eG;walk_at "b")
def qJ(F:Fun K "begin" "Hand.begin" iV fa fd)(Z:Txt K mg cl)(Fx20:Mt3 P w K mg base CX0 (TT cl) 2 0 "begin_round" 2 bK):aQ P w K mg base (CX1 P w) 3 fa fd ["self","value"] (sp3 (TT cl) K 2 dI):=by
 obtain⟨AJ,ec_Busy,ex_Busy⟩:=Z.AJ
 have sc:aq ["self","value"] ["self","value"] (aj iV):=by walk_at "sc"
 exact fT (k:=2) F sc rfl rfl fun cdv A outer s H E hr=>have hu:=hr.units
  have nd:=sc.nd
  (by delta jt;refine aN ?_ ?_;refine tW ?_ ?_ ?_;walk_at "t";refine cH ?_;exact(y_raise kc jJ hr.hd ex_Busy ec_Busy (by walk_at "a"));exact mB;refine aN ?_ ?_;walk_at "y";refine aN ?_ ?_;walk_at "y";refine cH ?_;walk_at "y")
def li(F:Fun K "begin_write" "Hand.begin_write" eA fa fd)(Z:Txt K mg cl)(Fx21:Mt3 P w K mg base (CX1 P w) (TT cl) 3 0 "begin" 2 dI):aQ P w K mg base (CX1 P w) 4 fa fd ["self","value"] (sp3 (TT cl) K 2 cM):=by
 have sc:aq ["self","value"] ["self","value"] (aj eA):=by walk_at "sc"
 exact fT (k:=3) F sc rfl rfl fun cdv A outer s H E hr=>have hu:=hr.units
  have nd:=sc.nd
  (by delta eB;walk_at "b")
def lS(F:Fun K "begin_read" "Hand.begin_read" fk fa fd)(Z:Txt K mg cl)(Fx21:Mt3 P w K mg base (CX1 P w) (TT cl) 3 0 "begin" 2 dI):aQ P w K mg base (CX1 P w) 4 fa fd ["self"] (sp3 (TT cl) K 1 cY):=by
 have sc:aq ["self"] ["self"] (aj fk):=by walk_at "sc"
 exact fT (k:=3) F sc rfl rfl fun cdv A outer s H E hr=>have hu:=hr.units
  have nd:=sc.nd
  (by delta ff;walk_at "b")
def lB(F:Fun K "refuse_idle" "Hand.refuse_idle" eJ fa fd)(Z:Txt K mg cl):aQ P w K mg base (CX1 P w) 1 fa fd ["self"] (sp3 (TT cl) K 1 bL):=by
 obtain⟨z8,ec_Idle,ex_Idle⟩:=Z.z8
 have sc:aq ["self"] ["self"] (aj eJ):=by walk_at "sc"
 exact fT (k:=0) F sc rfl rfl fun cdv A outer s H E hr=>have hu:=hr.units
  have nd:=sc.nd
  (by delta dZ;refine cH ?_;refine tW ?_ ?_ ?_;walk_at "t";refine cH ?_;exact(y_raise kc jJ hr.hd ex_Idle ec_Idle (by walk_at "a"));exact mB)
def lO(F:Fun K "send_again" "Hand.send_again" eQ fa fd)(Z:Txt K mg cl)(Fx19:Mt3 P w K mg base CX0 (TT cl) 1 0 "letters" 1 cC)(Fx22:Mt3 P w K mg base (CX1 P w) (TT cl) 1 0 "refuse_idle" 1 bL):aQ P w K mg base (CX1 P w) 2 fa fd ["self"] (sp3 (TT cl) K 1 c0):=by
 have sc:aq ["self"] ["self"] (aj eQ):=by walk_at "sc"
 exact fT (k:=1) F sc rfl rfl fun cdv A outer s H E hr=>have hu:=hr.units
  have nd:=sc.nd
  (by delta fj;walk_at "b")
def oy(F:Fun K "give_up" "Hand.give_up" gF fa fd)(Z:Txt K mg cl)(Fx22:Mt3 P w K mg base (CX1 P w) (TT cl) 1 0 "refuse_idle" 1 bL):aQ P w K mg base (CX1 P w) 2 fa fd ["self"] (sp3 (TT cl) K 1 eX):=by
 have sc:aq ["self"] ["self"] (aj gF):=by walk_at "sc"
 exact fT (k:=1) F sc rfl rfl fun cdv A outer s H E hr=>have hu:=hr.units
  have nd:=sc.nd
  (by delta gE;walk_at "b")
def pH(F:Fun K "chosen" "Hand.chosen" hI fa fd)(Z:Txt K mg cl)(Fx81:Fn3 P w K mg base CX0 (TT cl) 1 "newest" 1 mx)(Fx82:Fn3 P w K mg base CX0 (TT cl) 1 "stamp_after" 3 fM):aQ P w K mg base CX0 2 fa fd ["self"] (sp3 (TT cl) K 1 fO):=by
 have sc:aq ["self","pairs","stamp"] ["self"] (aj hI):=by walk_at "sc"
 exact bb (k:=1) F sc rfl rfl fun cdv A outer s H E hr=>have hu:=hr.units
  have nd:=sc.nd
  (by delta ie;refine aN ?_ ?_;refine AE (i:=1) ?_ ?_ ?_ ?_ ?_ ?_;exact sc.nd;exact rfl;exact Or.inl rfl;exact(wm hr.hd (by walk_at "e") Z.tm);exact si;walk_at "sb";refine aN ?_ ?_;walk_at "y";refine aN ?_ ?_;walk_at "y";refine aN ?_ ?_;walk_at "y";refine cH ?_;walk_at "y")
def sS(F:Fun K "hear" "Hand.hear" jZ fa fd)(Z:Txt K mg cl)(Fx83:Fn3 P w K mg base CX0 (TT cl) 1 "is_more" 2 kP)(Fx20:Mt3 P w K mg base CX0 (TT cl) 2 0 "begin_round" 2 bK)(Fx84:Mt3 P w K mg base CX0 (TT cl) 2 0 "chosen" 1 fO):aQ P w K mg base CX0 3 fa fd ["self","answer"] (sp3 (TT cl) K 2 gQ):=by
 have sc:aq ["self","answer"] ["self","answer"] (aj jZ):=by walk_at "sc"
 exact bb (k:=2) F sc rfl rfl fun cdv A outer s H E hr=>have hu:=hr.units
  have nd:=sc.nd
  (by delta jU;walk_at "b")
def pB(F:Fun K "__init__" "Keeper.__init__" gZ fa fd)(Z:Txt K mg cl):aQ P w K mg base CX0 1 fa fd ["self"] (sp3 (TT cl) K 1 fJ):=by
 have sc:aq ["self"] ["self"] (aj gZ):=by walk_at "sc"
 exact bb (k:=0) F sc rfl rfl fun cdv A outer s H E hr=>have hu:=hr.units
  have nd:=sc.nd
  (by delta hZ;walk_at "b")
def oT(F:Fun K "stop" "Keeper.stop" ig fa fd)(Z:Txt K mg cl):aQ P w K mg base CX0 1 fa fd ["self"] (sp3 (TT cl) K 1 fL):=by
 have sc:aq ["self","changed"] ["self"] (aj ig):=by walk_at "sc"
 exact bb (k:=0) F sc rfl rfl fun cdv A outer s H E hr=>have hu:=hr.units
  have nd:=sc.nd
  (by delta ij;walk_at "b")
def oW(F:Fun K "wake" "Keeper.wake" hX fa fd)(Z:Txt K mg cl):aQ P w K mg base CX0 1 fa fd ["self"] (sp3 (TT cl) K 1 fN):=by
 have sc:aq ["self","changed"] ["self"] (aj hX):=by walk_at "sc"
 exact bb (k:=0) F sc rfl rfl fun cdv A outer s H E hr=>have hu:=hr.units
  have nd:=sc.nd
  (by delta hV;walk_at "b")
def pP(F:Fun K "keep" "Keeper.keep" ia fa fd)(Z:Txt K mg cl):aQ P w K mg base CX0 1 fa fd ["self","pair"] (sp3 (TT cl) K 2 fP):=by
 have sc:aq ["self","pair"] ["self","pair"] (aj ia):=by walk_at "sc"
 exact bb (k:=0) F sc rfl rfl fun cdv A outer s H E hr=>have hu:=hr.units
  have nd:=sc.nd
  (by delta hG;walk_at "b")
def ly(F:Fun K "answer_to" "Keeper.answer_to" eI fa fd)(Z:Txt K mg cl)(Fx85:Mt3 P w K mg base CX0 (TT cl) 1 1 "keep" 2 fP):aQ P w K mg base CX0 2 fa fd ["self","letter"] (sp3 (TT cl) K 2 cK):=by
 have sc:aq ["self","letter","pair"] ["self","letter"] (aj eI):=by walk_at "sc"
 exact bb (k:=1) F sc rfl rfl fun cdv A outer s H E hr=>have hu:=hr.units
  have nd:=sc.nd
  (by delta dX;walk_at "b")
def sY(F:Fun K "__init__" "Hall.__init__" km fa fd)(Z:Txt K mg cl)(Fx23:Ct3 P w K mg base CX0 (TT cl) 1 "Hand" 0 3 gT)(Fx24:Ct3 P w K mg base CX0 (TT cl) 1 "Keeper" 1 1 fJ):aQ P w K mg base CX0 3 fa fd ["self","count","many"] (sp3 (TT cl) K 3 fR):=by
 have sc:aq ["self","count","many"] ["self","count","many"] (aj km):=by walk_at "sc"
 exact bb (k:=2) F sc rfl rfl fun cdv A outer s H E hr=>have hu:=hr.units
  have nd:=sc.nd
  (by delta kB;refine aN ?_ ?_;exact(xF (Z.fA 9 (by decide)) (by walk_at "e") (m7 (Blk.of (caps:=[]) (cl:=[]) rfl rfl rfl rfl rfl (by decide) rfl rfl rfl rfl rfl) rfl (lM Z.kN (by walk_at "e")) (fun _ _ _ _ _=>e9) (fun _ _ _ _ _=>(xE Fx24 (hr.mono (by decide)) iE))));refine aN ?_ ?_;exact(xF (Z.fA 10 (by decide)) (by walk_at "e") (m7 (Blk.of (caps:=[("count",1)]) (cl:=[("count",s.heap.objs.size+1)]) rfl rfl rfl rfl rfl (by decide) rfl rfl rfl rfl rfl) rfl (lM Z.kN (by walk_at "e")) (fun _ _ _ _ _=>e9) (fun _ _ _ _ _=>(Bv Fx23 (hr.mono (by decide)) iE (di (dm 0) (di (dm 1) nO fE) fE)))));refine cH ?_;walk_at "y")
def ou(F:Fun K "hand_of" "Hall.hand_of" gK fa fd)(Z:Txt K mg cl):aQ P w K mg base (CX1 P w) 1 fa fd ["self","number"] (sp3 (TT cl) K 2 aU):=by
 obtain⟨vF,ec_NoHand,ex_NoHand⟩:=Z.vF
 have sc:aq ["self","number"] ["self","number"] (aj gK):=by walk_at "sc"
 exact fT (k:=0) F sc rfl rfl fun cdv A outer s H E hr=>have hu:=hr.units
  have nd:=sc.nd
  (by delta gD;refine aN ?_ ?_;refine tW ?_ ?_ ?_;walk_at "t";refine cH ?_;exact(y_raise kc jJ hr.hd ex_NoHand ec_NoHand (by walk_at "a"));exact mB;refine cH ?_;walk_at "y")
def mF(F:Fun K "keeper_of" "Hall.keeper_of" fB fa fd)(Z:Txt K mg cl):aQ P w K mg base (CX1 P w) 1 fa fd ["self","number"] (sp3 (TT cl) K 2 bx):=by
 obtain⟨qr,ec_NoKeeper,ex_NoKeeper⟩:=Z.qr
 have sc:aq ["self","number"] ["self","number"] (aj fB):=by walk_at "sc"
 exact fT (k:=0) F sc rfl rfl fun cdv A outer s H E hr=>have hu:=hr.units
  have nd:=sc.nd
  (by delta fx;refine aN ?_ ?_;refine tW ?_ ?_ ?_;walk_at "t";refine cH ?_;exact(y_raise kc jJ hr.hd ex_NoKeeper ec_NoKeeper (by walk_at "a"));exact mB;refine cH ?_;walk_at "y")
def tQ(F:Fun K "send" "Hall.send" jQ fa fd)(Z:Txt K mg cl):aQ P w K mg base CX0 1 fa fd ["self","letters"] (sp3 (TT cl) K 2 bZ):=by
 have sc:aq ["self","letters"] ["self","letters"] (aj jQ):=by walk_at "sc"
 exact bb (k:=0) F sc rfl rfl fun cdv A outer s H E hr=>have hu:=hr.units
  have nd:=sc.nd
  (by delta kD;refine cH ?_;refine w5 ?_ ?_;refine mv ?_ ?_;walk_at "e";exact(m7 (Blk.nil rfl rfl (by decide +kernel) rfl) rfl (rV (by walk_at "e")) (fun _ _ _ _ _=>e9) (fun _ _ _ _ _=>(by refine A0 ?_;refine di ?_ ?_ ?_;exact HE;refine di ?_ ?_ ?_;exact(dm 0);exact nO;exact fE;exact qj)));exact si)
def qw(F:Fun K "write" "Hall.write" jv fa fd)(Z:Txt K mg cl)(Fx86:Mt3 P w K mg base (CX1 P w) (TT cl) 4 0 "begin_write" 2 cM)(Fx2:Mt3 P w K mg base (CX1 P w) (TT cl) 1 2 "hand_of" 2 aU)(Fx4:Mt3 P w K mg base CX0 (TT cl) 1 2 "send" 2 bZ):aQ P w K mg base (CX1 P w) 5 fa fd ["self","hand","value"] (sp3 (TT cl) K 3 gq):=by
 have sc:aq ["self","hand","value"] ["self","hand","value"] (aj jv):=by walk_at "sc"
 exact fT (k:=4) F sc rfl rfl fun cdv A outer s H E hr=>have hu:=hr.units
  have nd:=sc.nd
  (by delta ju;walk_at "b")
def tH(F:Fun K "read" "Hall.read" ko fa fd)(Z:Txt K mg cl)(Fx87:Mt3 P w K mg base (CX1 P w) (TT cl) 4 0 "begin_read" 1 cY)(Fx2:Mt3 P w K mg base (CX1 P w) (TT cl) 1 2 "hand_of" 2 aU)(Fx4:Mt3 P w K mg base CX0 (TT cl) 1 2 "send" 2 bZ):aQ P w K mg base (CX1 P w) 5 fa fd ["self","hand"] (sp3 (TT cl) K 2 gS):=by
 have sc:aq ["self","hand"] ["self","hand"] (aj ko):=by walk_at "sc"
 exact fT (k:=4) F sc rfl rfl fun cdv A outer s H E hr=>have hu:=hr.units
  have nd:=sc.nd
  (by delta j6;walk_at "b")
def qA(F:Fun K "again" "Hall.again" ji fa fd)(Z:Txt K mg cl)(Fx88:Mt3 P w K mg base (CX1 P w) (TT cl) 2 0 "send_again" 1 c0)(Fx2:Mt3 P w K mg base (CX1 P w) (TT cl) 1 2 "hand_of" 2 aU)(Fx4:Mt3 P w K mg base CX0 (TT cl) 1 2 "send" 2 bZ):aQ P w K mg base (CX1 P w) 3 fa fd ["self","hand"] (sp3 (TT cl) K 2 gm):=by
 have sc:aq ["self","hand","letters"] ["self","hand"] (aj ji):=by walk_at "sc"
 exact fT (k:=2) F sc rfl rfl fun cdv A outer s H E hr=>have hu:=hr.units
  have nd:=sc.nd
  (by delta jk;walk_at "b")
def qQ(F:Fun K "leave" "Hall.leave" iX fa fd)(Z:Txt K mg cl)(Fx89:Mt3 P w K mg base (CX1 P w) (TT cl) 2 0 "give_up" 1 eX)(Fx2:Mt3 P w K mg base (CX1 P w) (TT cl) 1 2 "hand_of" 2 aU):aQ P w K mg base (CX1 P w) 3 fa fd ["self","hand"] (sp3 (TT cl) K 2 gp):=by
 have sc:aq ["self","hand"] ["self","hand"] (aj iX):=by walk_at "sc"
 exact fT (k:=2) F sc rfl rfl fun cdv A outer s H E hr=>have hu:=hr.units
  have nd:=sc.nd
  (by delta iT;walk_at "b")
def lj(F:Fun K "stop_keeper" "Hall.stop_keeper" ed fa fd)(Z:Txt K mg cl)(Fx90:Mt3 P w K mg base CX0 (TT cl) 1 1 "stop" 1 fL)(Fx8:Mt3 P w K mg base (CX1 P w) (TT cl) 1 2 "keeper_of" 2 bx):aQ P w K mg base (CX1 P w) 2 fa fd ["self","keeper"] (sp3 (TT cl) K 2 cO):=by
 have sc:aq ["self","keeper"] ["self","keeper"] (aj ed):=by walk_at "sc"
 exact fT (k:=1) F sc rfl rfl fun cdv A outer s H E hr=>have hu:=hr.units
  have nd:=sc.nd
  (by delta eD;walk_at "b")
def lc(F:Fun K "wake_keeper" "Hall.wake_keeper" eh fa fd)(Z:Txt K mg cl)(Fx91:Mt3 P w K mg base CX0 (TT cl) 1 1 "wake" 1 fN)(Fx8:Mt3 P w K mg base (CX1 P w) (TT cl) 1 2 "keeper_of" 2 bx):aQ P w K mg base (CX1 P w) 2 fa fd ["self","keeper"] (sp3 (TT cl) K 2 cN):=by
 have sc:aq ["self","keeper"] ["self","keeper"] (aj eh):=by walk_at "sc"
 exact fT (k:=1) F sc rfl rfl fun cdv A outer s H E hr=>have hu:=hr.units
  have nd:=sc.nd
  (by delta eE;walk_at "b")
def jc(F:Fun K "come_to_keeper" "Hall.come_to_keeper" cV fa fd)(Z:Txt K mg cl)(Fx92:Mt3 P w K mg base CX0 (TT cl) 2 1 "answer_to" 2 cK):aQ P w K mg base CX0 3 fa fd ["self","letter"] (sp3 (TT cl) K 2 b7):=by
 have sc:aq ["self","letter","answer"] ["self","letter"] (aj cV):=by walk_at "sc"
 exact bb (k:=2) F sc rfl rfl fun cdv A outer s H E hr=>have hu:=hr.units
  have nd:=sc.nd
  (by delta cT;walk_at "b")
def jY(F:Fun K "come_to_hand" "Hall.come_to_hand" dQ fa fd)(Z:Txt K mg cl)(Fx93:Mt3 P w K mg base CX0 (TT cl) 3 0 "hear" 2 gQ)(Fx4:Mt3 P w K mg base CX0 (TT cl) 1 2 "send" 2 bZ):aQ P w K mg base CX0 4 fa fd ["self","answer"] (sp3 (TT cl) K 2 cu):=by
 have sc:aq ["self","answer","brought"] ["self","answer"] (aj dQ):=by walk_at "sc"
 exact bb (k:=3) F sc rfl rfl fun cdv A outer s H E hr=>have hu:=hr.units
  have nd:=sc.nd
  (by delta dO;walk_at "b")
def rY(F:Fun K "come" "Hall.come" j8 fa fd)(Z:Txt K mg cl)(Fx94:Mt3 P w K mg base CX0 (TT cl) 3 2 "come_to_keeper" 2 b7)(Fx95:Mt3 P w K mg base CX0 (TT cl) 4 2 "come_to_hand" 2 cu):aQ P w K mg base CX0 5 fa fd ["self","place","stays"] (sp3 (TT cl) K 3 cF):=by
 have sc:aq ["self","place","stays","entry"] ["self","place","stays"] (aj j8):=by walk_at "sc"
 exact bb (k:=4) F sc rfl rfl fun cdv A outer s H E hr=>have hu:=hr.units
  have nd:=sc.nd
  (by delta ky;walk_at "b")
def qM(F:Fun K "carry" "Hall.carry" jr fa fd)(Z:Txt K mg cl)(Fx9:Mt3 P w K mg base CX0 (TT cl) 5 2 "come" 3 cF):aQ P w K mg base (CX1 P w) 6 fa fd ["self","number","stays"] (sp3 (TT cl) K 3 gr):=by
 obtain⟨qe,ec_NoLetter,ex_NoLetter⟩:=Z.qe
 have sc:aq ["self","number","stays"] ["self","number","stays"] (aj jr):=by walk_at "sc"
 exact fT (k:=5) F sc rfl rfl fun cdv A outer s H E hr=>have hu:=hr.units
  have nd:=sc.nd
  (by delta iN;refine aN ?_ ?_;refine tW ?_ ?_ ?_;walk_at "t";refine cH ?_;exact(y_raise kc jJ hr.hd ex_NoLetter ec_NoLetter (by walk_at "a"));exact mB;refine cH ?_;walk_at "y")
def jG(F:Fun K "first_between" "Hall.first_between" dD fa fd)(Z:Txt K mg cl):aQ P w K mg base CX0 1 fa fd ["self","hand","keeper"] (sp3 (TT cl) K 3 bN):=by
 have sc:aq ["self","hand","keeper","place","entry"] ["self","hand","keeper"] (aj dD):=by walk_at "sc"
 exact bb (k:=0) F sc rfl rfl fun cdv A outer s H E hr=>have hu:=hr.units
  have nd:=sc.nd
  (by delta du;walk_at "b")
def jH(F:Fun K "carry_between" "Hall.carry_between" dB fa fd)(Z:Txt K mg cl)(Fx2:Mt3 P w K mg base (CX1 P w) (TT cl) 1 2 "hand_of" 2 aU)(Fx8:Mt3 P w K mg base (CX1 P w) (TT cl) 1 2 "keeper_of" 2 bx)(Fx9:Mt3 P w K mg base CX0 (TT cl) 5 2 "come" 3 cF)(Fx96:Mt3 P w K mg base CX0 (TT cl) 1 2 "first_between" 3 bN):aQ P w K mg base (CX1 P w) 6 fa fd ["self","hand","keeper"] (sp3 (TT cl) K 3 cj):=by
 have sc:aq ["self","hand","keeper","ends","place"] ["self","hand","keeper"] (aj dB):=by walk_at "sc"
 exact fT (k:=5) F sc rfl rfl fun cdv A outer s H E hr=>have hu:=hr.units
  have nd:=sc.nd
  (by delta dq;walk_at "b")
def qH(F:Fun K "sweep" "Hall.sweep" ja fa fd)(Z:Txt K mg cl)(Fx9:Mt3 P w K mg base CX0 (TT cl) 5 2 "come" 3 cF):aQ P w K mg base CX0 6 fa fd ["self"] (sp3 (TT cl) K 1 gh):=by
 have sc:aq ["self","ends"] ["self"] (aj ja):=by walk_at "sc"
 exact bb (k:=5) F sc rfl rfl fun cdv A outer s H E hr=>have hu:=hr.units
  have nd:=sc.nd
  (by delta jy;walk_at "b")
def tF(F:Fun K "__init__" "Work.__init__" kg fa fd)(Z:Txt K mg cl):aQ P w K mg base CX0 1 fa fd ["self","hand","word","value","begun"] (sp3 (TT cl) K 5 gU):=by
 have sc:aq ["self","hand","word","value","begun"] ["self","hand","word","value","begun"] (aj kg):=by walk_at "sc"
 exact bb (k:=0) F sc rfl rfl fun cdv A outer s H E hr=>have hu:=hr.units
  have nd:=sc.nd
  (by delta kj;walk_at "b")
def sX(F:Fun K "told" "Work.told" jR fa fd)(Z:Txt K mg cl):aQ P w K mg base CX0 1 fa fd ["self"] (sp3 (TT cl) K 1 gR):=by
 have sc:aq ["self"] ["self"] (aj jR):=by walk_at "sc"
 exact bb (k:=0) F sc rfl rfl fun cdv A outer s H E hr=>have hu:=hr.units
  have nd:=sc.nd
  (by delta kE;walk_at "b")
def qO(F:Fun K "__init__" "Story.__init__" jz fa fd)(Z:Txt K mg cl)(Fx97:Ct3 P w K mg base CX0 (TT cl) 3 "Hall" 2 3 fR):aQ P w K mg base CX0 5 fa fd ["self","count","many"] (sp3 (TT cl) K 3 dE):=by
 have sc:aq ["self","count","many"] ["self","count","many"] (aj jz):=by walk_at "sc"
 exact bb (k:=4) F sc rfl rfl fun cdv A outer s H E hr=>have hu:=hr.units
  have nd:=sc.nd
  (by delta iQ;walk_at "b")
def lR(F:Fun K "note_work" "Story.note_work" eW fa fd)(Z:Txt K mg cl)(Fx98:Ct3 P w K mg base CX0 (TT cl) 1 "Work" 3 5 gU):aQ P w K mg base CX0 3 fa fd ["self","hand","word","value"] (sp3 (TT cl) K 4 cm):=by
 have sc:aq ["self","hand","word","value","place"] ["self","hand","word","value"] (aj eW):=by walk_at "sc"
 exact bb (k:=2) F sc rfl rfl fun cdv A outer s H E hr=>have hu:=hr.units
  have nd:=sc.nd
  (by delta eZ;walk_at "b")
def mO(F:Fun K "note_end" "Story.note_end" fC fa fd)(Z:Txt K mg cl):aQ P w K mg base CX0 1 fa fd ["self","hand","pair"] (sp3 (TT cl) K 3 dJ):=by
 have sc:aq ["self","hand","pair","place","work"] ["self","hand","pair"] (aj fC):=by walk_at "sc"
 exact bb (k:=0) F sc rfl rfl fun cdv A outer s H E hr=>have hu:=hr.units
  have nd:=sc.nd
  (by delta fy;walk_at "b")
def lY(F:Fun K "note_ends" "Story.note_ends" eY fa fd)(Z:Txt K mg cl)(Fx25:Mt3 P w K mg base CX0 (TT cl) 1 4 "note_end" 3 dJ):aQ P w K mg base CX0 2 fa fd ["self","ends"] (sp3 (TT cl) K 2 bB):=by
 have sc:aq ["self","ends"] ["self","ends"] (aj eY):=by walk_at "sc"
 exact bb (k:=1) F sc rfl rfl fun cdv A outer s H E hr=>have hu:=hr.units
  have nd:=sc.nd
  (by delta fg;refine cH ?_;refine y_ret ?_;exact(m7 (Blk.of (caps:=[("self",0)]) (cl:=[("self",s.heap.objs.size+1)]) rfl rfl rfl rfl rfl (by decide) rfl rfl rfl rfl rfl) rfl (rV (by walk_at "e")) (fun _ _ _ _ _=>e9) (fun _ _ _ _ _=>(wX Fx25 (hr.mono (by decide)) iE (dm 1) (di (by refine yT hu ?_ ?_;exact(dm 0);exact uI) (di (by refine yT hu ?_ ?_;exact(dm 0);exact uI) nO pW) pW)))))
def qE(F:Fun K "done" "Story.done" jb fa fd)(Z:Txt K mg cl)(Fx99:Mt3 P w K mg base (CX1 P w) (TT cl) 5 2 "write" 3 gq)(Fx100:Mt3 P w K mg base (CX1 P w) (TT cl) 5 2 "read" 2 gS)(Fx101:Mt3 P w K mg base (CX1 P w) (TT cl) 3 2 "again" 2 gm)(Fx102:Mt3 P w K mg base (CX1 P w) (TT cl) 3 2 "leave" 2 gp)(Fx103:Mt3 P w K mg base (CX1 P w) (TT cl) 2 2 "stop_keeper" 2 cO)(Fx104:Mt3 P w K mg base (CX1 P w) (TT cl) 2 2 "wake_keeper" 2 cN)(Fx105:Mt3 P w K mg base (CX1 P w) (TT cl) 6 2 "carry" 3 gr)(Fx106:Mt3 P w K mg base (CX1 P w) (TT cl) 6 2 "carry_between" 3 cj)(Fx107:Mt3 P w K mg base CX0 (TT cl) 6 2 "sweep" 1 gh)(Fx108:Mt3 P w K mg base CX0 (TT cl) 3 4 "note_work" 4 cm)(Fx109:Mt3 P w K mg base CX0 (TT cl) 2 4 "note_ends" 2 bB):aQ P w K mg base (CX1 P w) 7 fa fd ["self","deed"] (sp3 (TT cl) K 2 gu):=by
 have sc:aq ["self","deed","word","ends"] ["self","deed"] (aj jb):=by walk_at "sc"
 exact fT (k:=6) F sc rfl rfl fun cdv A outer s H E hr=>have hu:=hr.units
  have nd:=sc.nd
  (by delta iZ;walk_at "b")
def hW(F:Fun K "done_or_refused" "Story.done_or_refused" cA fa fd)(Z:Txt K mg cl)(Fx26:Mt3 P w K mg base (CX1 P w) (TT cl) 7 4 "done" 2 gu):aQ P w K mg base CX0 8 fa fd ["self","deed"] (sp3 (TT cl) K 2 bQ):=by
 obtain⟨a_NoHand,em_NoHand,eh_NoHand⟩:=Z.AU
 obtain⟨a_NoKeeper,em_NoKeeper,eh_NoKeeper⟩:=Z.wg
 obtain⟨a_NoLetter,em_NoLetter,eh_NoLetter⟩:=Z.vX
 obtain⟨a_Busy,em_Busy,eh_Busy⟩:=Z.EK
 obtain⟨a_Idle,em_Idle,eh_Idle⟩:=Z.F5
 have sc:aq ["self","deed"] ["self","deed"] (aj cA):=by walk_at "sc"
 exact bb (k:=7) F sc rfl rfl fun cdv A outer s H E hr=>have hu:=hr.units
  have nd:=sc.nd
  (by delta cE;refine cH ?_;exact(BB xR (Dy xR Fx26 (hr.mono (by decide)) (fun _=>(by walk_at "e")) (fun _=>(by walk_at "a"))) (Hs.cons em_NoHand rfl (by decide) eh_NoHand (fun _=>(by walk_at "b")) (Hs.cons em_NoKeeper rfl (by decide) eh_NoKeeper (fun _=>(by walk_at "b")) (Hs.cons em_NoLetter rfl (by decide) eh_NoLetter (fun _=>(by walk_at "b")) (Hs.cons em_Busy rfl (by decide) eh_Busy (fun _=>(by walk_at "b")) (Hs.cons em_Idle rfl (by decide) eh_Idle (fun _=>(by walk_at "b")) Hs.nil)))))))
def kf(F:Fun K "note_stamps" "Story.note_stamps" dP fa fd)(Z:Txt K mg cl):aQ P w K mg base CX0 1 fa fd ["self"] (sp3 (TT cl) K 1 cy):=by
 have sc:aq ["self","hand","place","pair","work"] ["self"] (aj dP):=by walk_at "sc"
 exact bb (k:=0) F sc rfl rfl fun cdv A outer s H E hr=>have hu:=hr.units
  have nd:=sc.nd
  (by delta dN;refine cH ?_;exact(Dp PassesOwn.never rfl (by walk_at "e") (Fs rfl (sR (i:=1) sc.nd rfl (Or.inl rfl) (sR (i:=2) sc.nd rfl (Or.inl rfl) En))) (by walk_at "b")))
def ow(F:Fun K "answer" "Story.answer" gI fa fd)(Z:Txt K mg cl)(Fx110:Mt3 P w K mg base CX0 (TT cl) 8 4 "done_or_refused" 2 bQ)(Fx111:Mt3 P w K mg base CX0 (TT cl) 1 4 "note_stamps" 1 cy):aQ P w K mg base CX0 9 fa fd ["self","deed"] (sp3 (TT cl) K 2 b0):=by
 have sc:aq ["self","deed","told"] ["self","deed"] (aj gI):=by walk_at "sc"
 exact bb (k:=8) F sc rfl rfl fun cdv A outer s H E hr=>have hu:=hr.units
  have nd:=sc.nd
  (by delta gA;walk_at "b")
def wG(F:Fun K "answers" "answers" nI fa fd)(Z:Txt K mg cl)(Fx27:Ct3 P w K mg base CX0 (TT cl) 5 "Story" 4 3 dE)(Fx10:Mt3 P w K mg base CX0 (TT cl) 9 4 "answer" 2 b0):aQ P w K mg base CX0 10 fa fd ["count","many","deeds"] (sp3 (TT cl) K 3 kO):=by
 have sc:aq ["count","many","deeds","story"] ["count","many","deeds"] (aj nI):=by walk_at "sc"
 exact bb (k:=9) F sc rfl rfl fun cdv A outer s H E hr=>have hu:=hr.units
  have nd:=sc.nd
  (by delta nG;refine aN ?_ ?_;walk_at "y";refine cH ?_;refine y_ret ?_;exact(m7 (Blk.of (caps:=[("story",3)]) (cl:=[("story",s.heap.objs.size+1)]) rfl rfl rfl rfl rfl (by decide) rfl rfl rfl rfl rfl) rfl (rV (by walk_at "e")) (fun _ _ _ _ _=>e9) (fun _ _ _ _ _=>(wX Fx10 (hr.mono (by decide)) iE (dm 1) (di (dm 0) nO fE)))))
def sx(F:Fun K "all_after" "all_after" jT fa fd)(Z:Txt K mg cl)(Fx28:Mt3 P w K mg base CX0 (TT cl) 1 3 "told" 1 gR)(Fx27:Ct3 P w K mg base CX0 (TT cl) 5 "Story" 4 3 dE)(Fx10:Mt3 P w K mg base CX0 (TT cl) 9 4 "answer" 2 b0):aQ P w K mg base CX0 10 fa fd ["count","many","deeds"] (sp3 (TT cl) K 3 gP):=by
 have sc:aq ["count","many","deeds","story","deed","works","stamps","pairs"] ["count","many","deeds"] (aj jT):=by walk_at "sc"
 exact bb (k:=9) F sc rfl rfl fun cdv A outer s H E hr=>have hu:=hr.units
  have nd:=sc.nd
  (by delta kq;refine aN ?_ ?_;walk_at "y";refine aN ?_ ?_;walk_at "y";refine aN ?_ ?_;exact(gv (i:=5) (Blk.nil rfl rfl (by decide +kernel) rfl) rfl sc.nd rfl rfl (rV (by walk_at "e")) (fun _ _ _ _ _=>e9) (fun _ _ _ _ _=>(ya Fx28 (hr.mono (by decide)) iE (dm 0))));refine aN ?_ ?_;exact(gv (i:=6) (Blk.nil rfl rfl (by decide +kernel) rfl) rfl sc.nd rfl rfl (rV (by walk_at "e")) (fun _ _ _ _ _=>e9) (fun _ _ _ _ _=>(nY (Z.fA 16 (by decide)) (dm 0))));refine aN ?_ ?_;exact(gv (i:=7) (Blk.nil rfl rfl (by decide +kernel) rfl) rfl sc.nd rfl rfl (rV (by walk_at "e")) (fun _ _ _ _ _=>e9) (fun _ _ _ _ _=>(nY (Z.fA 4 (by decide)) (dm 0))));refine cH ?_;walk_at "y")
theorem Eh(F:Fun K "_law_so" "_law_so" Hb fa fd)(hm:mg "_law_so"=some (.ref fa))(hb:Binds K fd ["_law_found","_law_meant"] [])(Z:Txt K mg cl):∀n,Fn3 P w K mg base CX0 (TT cl) (1+n) "_law_so" 2 (yo n)
 |0=>fn3 (k:=0) F xQ hm hb rfl rfl fun cdv A outer s H E hr=>CC
 |n+1=>by
  have ih:=Eh F hm hb Z n
  exact fn3 (k:=1+n) F xQ hm hb rfl rfl fun cdv A outer s H E hr=>have hu:=hr.units
  have nd:=xQ.nd
  (by delta Dq;refine aN ?_ ?_;walk_at "y";refine aN ?_ ?_;walk_at "y";refine aN ?_ ?_;walk_at "y";refine aN ?_ ?_;walk_at "y";refine aN ?_ ?_;refine tW ?_ ?_ ?_;walk_at "t";refine cH ?_;refine y_ret ?_;exact(Ay (by walk_at "e") (Bo (x_call ih (hr.mono (by omega)) iE (di wW (di wW nO kG) kG))));exact mB;refine aN ?_ ?_;walk_at "y";refine aN ?_ ?_;refine tW ?_ ?_ ?_;exact(PW.pt (w_or (by walk_at "t") (Ei (AX (Dr (FT .lst .tup Z.mI Z.tm Z.xA (by walk_at "e")))))));walk_at "b";exact mB;refine aN ?_ ?_;walk_at "y";refine aN ?_ ?_;exact(zq PassesOwn.never rfl (lM Z.kN (by walk_at "e")) (Gq (i:=2) xQ.nd rfl (Or.inl rfl)) (by refine cH ?_;refine tW ?_ ?_ ?_;exact(AX (Dr (x_call ih (hr.mono (by omega)) iE (by walk_at "a"))));walk_at "b";exact mB));refine cH ?_;walk_at "y")
def zP(F:Fun K "_law_whole" "_law_whole" tV fa fd)(Z:Txt K mg cl):aQ P w K mg base CX0 1 fa fd ["_law_found"] (sp3 (TT cl) K 1 dS):=by
 have sc:aq ["_law_found"] ["_law_found"] (aj tV):=by walk_at "sc"
 exact bb (k:=0) F sc rfl rfl fun cdv A outer s H E hr=>have hu:=hr.units
  have nd:=sc.nd
  (by delta tX;walk_at "b")
def Im(F:Fun K "_law_at" "_law_at" Ge fa fd)(Z:Txt K mg cl):aQ P w K mg base CX0 1 fa fd ["_law_script","_law_k"] (sp3 (TT cl) K 2 sJ):=by
 have sc:aq ["_law_script","_law_k"] ["_law_script","_law_k"] (aj Ge):=by walk_at "sc"
 exact bb (k:=0) F sc rfl rfl fun cdv A outer s H E hr=>have hu:=hr.units
  have nd:=sc.nd
  (by delta GK;walk_at "b")
def ud(F:Fun K "_law_value_by" "_law_value_by" lT fa fd)(Z:Txt K mg cl):aQ P w K mg base CX0 1 fa fd ["_law_cell","_law_k"] (sp3 (TT cl) K 2 jh):=by
 have sc:aq ["_law_cell","_law_k","_law_wide","_law_some"] ["_law_cell","_law_k"] (aj lT):=by walk_at "sc"
 exact bb (k:=0) F sc rfl rfl fun cdv A outer s H E hr=>have hu:=hr.units
  have nd:=sc.nd
  (by delta ma;walk_at "b")
def wo(F:Fun K "_law_deed_of" "_law_deed_of" m5 fa fd)(Z:Txt K mg cl)(Fx112:Fn3 P w K mg base CX0 (TT cl) 1 "_law_value_by" 2 jh):aQ P w K mg base CX0 2 fa fd ["_law_cell","_law_k","_law_count","_law_many"] (sp3 (TT cl) K 4 ix):=by
 have sc:aq ["_law_cell","_law_k","_law_count","_law_many","_law_way","_law_hand","_law_keeper","_law_number"] ["_law_cell","_law_k","_law_count","_law_many"] (aj m5):=by walk_at "sc"
 exact bb (k:=1) F sc rfl rfl fun cdv A outer s H E hr=>have hu:=hr.units
  have nd:=sc.nd
  (by delta nF;walk_at "b")
def wC(F:Fun K "_law_opening" "_law_opening" nB fa fd)(Z:Txt K mg cl):aQ P w K mg base CX0 1 fa fd ["_law_cell","_law_count","_law_many"] (sp3 (TT cl) K 3 kR):=by
 have sc:aq ["_law_cell","_law_count","_law_many","_law_way","_law_deeds"] ["_law_cell","_law_count","_law_many"] (aj nB):=by walk_at "sc"
 exact bb (k:=0) F sc rfl rfl fun cdv A outer s H E hr=>have hu:=hr.units
  have nd:=sc.nd
  (by delta nH;walk_at "b")
def zQ(F:Fun K "_law_drawn" "_law_drawn" sL fa fd)(Z:Txt K mg cl)(Fx113:Fn3 P w K mg base CX0 (TT cl) 2 "_law_deed_of" 4 ix)(Fx114:Fn3 P w K mg base CX0 (TT cl) 1 "_law_opening" 3 kR):aQ P w K mg base CX0 3 fa fd ["_law_cells","_law_count","_law_many"] (sp3 (TT cl) K 3 oI):=by
 have sc:aq ["_law_cells","_law_count","_law_many","_law_deeds","_law_k"] ["_law_cells","_law_count","_law_many"] (aj sL):=by walk_at "sc"
 exact bb (k:=2) F sc rfl rfl fun cdv A outer s H E hr=>have hu:=hr.units
  have nd:=sc.nd
  (by delta sP;walk_at "b")
def vA(F:Fun K "_law_is_stamp" "_law_is_stamp" lZ fa fd)(Z:Txt K mg cl)(Fx11:Fn3 P w K mg base CX0 (TT cl) 1 "_law_whole" 1 dS):aQ P w K mg base CX0 2 fa fd ["_law_found"] (sp3 (TT cl) K 1 fH):=by
 have sc:aq ["_law_found"] ["_law_found"] (aj lZ):=by walk_at "sc"
 exact bb (k:=1) F sc rfl rfl fun cdv A outer s H E hr=>have hu:=hr.units
  have nd:=sc.nd
  (by delta lU;walk_at "b")
def xa(F:Fun K "_law_is_pair" "_law_is_pair" nM fa fd)(Z:Txt K mg cl)(Fx11:Fn3 P w K mg base CX0 (TT cl) 1 "_law_whole" 1 dS)(Fx29:Fn3 P w K mg base CX0 (TT cl) 2 "_law_is_stamp" 1 fH):aQ P w K mg base CX0 3 fa fd ["_law_found"] (sp3 (TT cl) K 1 kM):=by
 have sc:aq ["_law_found"] ["_law_found"] (aj nM):=by walk_at "sc"
 exact bb (k:=2) F sc rfl rfl fun cdv A outer s H E hr=>have hu:=hr.units
  have nd:=sc.nd
  (by delta nj;walk_at "b")
def wV(F:Fun K "_law_is_work" "_law_is_work" ni fa fd)(Z:Txt K mg cl)(Fx11:Fn3 P w K mg base CX0 (TT cl) 1 "_law_whole" 1 dS):aQ P w K mg base CX0 2 fa fd ["_law_found"] (sp3 (TT cl) K 1 k7):=by
 have sc:aq ["_law_found","_law_hand","_law_word","_law_value","_law_begun","_law_ended"] ["_law_found"] (aj ni):=by walk_at "sc"
 exact bb (k:=1) F sc rfl rfl fun cdv A outer s H E hr=>have hu:=hr.units
  have nd:=sc.nd
  (by delta ng;walk_at "b")
def rZ(F:Fun K "_law_all_kinds" "_law_all_kinds" jO fa fd)(Z:Txt K mg cl)(Fx29:Fn3 P w K mg base CX0 (TT cl) 2 "_law_is_stamp" 1 fH)(Fx115:Fn3 P w K mg base CX0 (TT cl) 3 "_law_is_pair" 1 kM)(Fx116:Fn3 P w K mg base CX0 (TT cl) 2 "_law_is_work" 1 k7):aQ P w K mg base CX0 4 fa fd ["_law_found","_law_count"] (sp3 (TT cl) K 2 gY):=by
 have sc:aq ["_law_found","_law_count","_law_row","_law_one","_law_stamp","_law_pair"] ["_law_found","_law_count"] (aj jO):=by walk_at "sc"
 exact bb (k:=3) F sc rfl rfl fun cdv A outer s H E hr=>have hu:=hr.units
  have nd:=sc.nd
  (by delta j5;walk_at "b")
def uK(F:Fun K "_law_all_told" "_law_all_told" mf fa fd)(Z:Txt K mg cl)(Fx117:Fn3 P w K mg base CX0 (TT cl) 10 "all_after" 3 gP)(Fx118:Fn3 P w K mg base CX0 (TT cl) 4 "_law_all_kinds" 2 gY):aQ P w K mg base CX0 11 fa fd ["_law_count","_law_many","_law_deeds"] (sp3 (TT cl) K 3 jq):=by
 have sc:aq ["_law_count","_law_many","_law_deeds","_law_handed","_law_found"] ["_law_count","_law_many","_law_deeds"] (aj mf):=by walk_at "sc"
 exact bb (k:=10) F sc rfl rfl fun cdv A outer s H E hr=>have hu:=hr.units
  have nd:=sc.nd
  (by delta lJ;walk_at "b")
def vc(F:Fun K "_law_up_again" "_law_up_again" mr fa fd)(Z:Txt K mg cl):aQ P w K mg base CX0 1 fa fd ["_law_cell","_law_count","_law_many"] (sp3 (TT cl) K 3 jm):=by
 have sc:aq ["_law_cell","_law_count","_law_many","_law_first","_law_some","_law_gone","_law_deeds","_law_k"] ["_law_cell","_law_count","_law_many"] (aj mr):=by walk_at "sc"
 exact bb (k:=0) F sc rfl rfl fun cdv A outer s H E hr=>have hu:=hr.units
  have nd:=sc.nd
  (by delta mj;refine aN ?_ ?_;walk_at "y";refine aN ?_ ?_;walk_at "y";refine aN ?_ ?_;exact(gv (i:=5) (Blk.of (caps:=[("_law_count",1),("_law_first",3)]) (cl:=[("_law_first",s.heap.objs.size+2),("_law_count",s.heap.objs.size+1)]) rfl rfl rfl rfl rfl (by decide) rfl rfl rfl rfl rfl) rfl sc.nd rfl rfl (lM Z.kN (by walk_at "e")) (fun _ _ _ _ _=>e9) (fun _ _ _ _ _=>(by refine wY xD ?_ ?_;refine wY xI ?_ ?_;exact(dm 2);exact(dm 0);exact(dm 1))));refine aN ?_ ?_;walk_at "y";refine aN ?_ ?_;walk_at "y";refine aN ?_ ?_;walk_at "y";refine cH ?_;walk_at "y")
def vH(F:Fun K "_law_given_up" "_law_given_up" lL fa fd)(Z:Txt K mg cl):aQ P w K mg base CX0 1 fa fd ["_law_deeds","_law_told"] (sp3 (TT cl) K 2 iS):=by
 have sc:aq ["_law_deeds","_law_told","_law_places","_law_k"] ["_law_deeds","_law_told"] (aj lL):=by walk_at "sc"
 exact bb (k:=0) F sc rfl rfl fun cdv A outer s H E hr=>have hu:=hr.units
  have nd:=sc.nd
  (by delta ml;walk_at "b")
def GY(F:Fun K "law" "law" qZ fa fd)(Z:Txt K mg cl)(Fx119:Fn3 P w K mg base CX0 (TT cl) 10 "answers" 3 kO)(Fx30:∀n,Fn3 P w K mg base CX0 (TT cl) (1+n) "_law_so" 2 (yo n))(Fx120:Fn3 P w K mg base CX0 (TT cl) 1 "_law_at" 2 sJ)(Fx121:Fn3 P w K mg base CX0 (TT cl) 3 "_law_drawn" 3 oI)(Fx122:Fn3 P w K mg base CX0 (TT cl) 11 "_law_all_told" 3 jq)(Fx123:Fn3 P w K mg base CX0 (TT cl) 1 "_law_up_again" 3 jm)(Fx124:Fn3 P w K mg base CX0 (TT cl) 1 "_law_given_up" 2 iS):aQ P w K mg base CX0 12 fa fd ["_law_script"] (sp3 (TT cl) K 1 pK):=by
 have sc:aq ["_law_script","_law_count","_law_many","_law_deeds","_law_told","_law_found","_law_works","_law_left","_law_ends","_law_place"] ["_law_script"] (aj qZ):=by walk_at "sc"
 exact bb (k:=11) F sc rfl rfl fun cdv A outer s H E hr=>have hu:=hr.units
  have nd:=sc.nd
  (by delta Bl;refine aN ?_ ?_;walk_at "y";refine aN ?_ ?_;walk_at "y";refine aN ?_ ?_;walk_at "y";refine aN ?_ ?_;walk_at "y";refine aN ?_ ?_;walk_at "y";refine aN ?_ ?_;walk_at "y";refine aN ?_ ?_;walk_at "y";refine aN ?_ ?_;walk_at "y";refine aN ?_ ?_;walk_at "y";refine aN ?_ ?_;walk_at "y";refine aN ?_ ?_;walk_at "y";refine cH ?_;refine y_ret ?_;exact(Ay (by walk_at "e") (Bo (x_call (Fx30 9) (hr.mono (by decide)) iE (di (rW Z.u5 (by walk_at "a")) (di (by walk_at "e") nO fE) kG)))))
end
def all_mk{l:PySem.W.OpenLaw}{w:World}{K:PySem.W.Frag}{h:Heap}{mg:Str->Option Value}{fa C0 C1 C2 C3 C4 X0 X1 X2 X3 X4 X5 f0 f1 f2 f3 f4 f5 f6 f7 f8 f9 f10 f11 f12 f13 f14 f15 f16 f17 f18 f19 f20 f21 f22 f23 f24 f25 f26 f27 f28 f29 f30 f31 f32 f33 f34 f35 f36 f37 f38 f39 f40 f41 f42 f43 f44 f45 f46 f47 f48 f49 f50 f51 f52 f53 f54 f55 f56 f57 f58 f59 f60 f61 f62 x_BEGINNING_1 x_BEGINNING:Addr}{d0 d1 d2 d3 d4 d5 d6 d7 d8 d9 d10 d11 d12 d13 d14 d15 d16 d17 d18 d19 d20 d21 d22 d23 d24 d25 d26 d27 d28 d29 d30 d31 d32 d33 d34 d35 d36 d37 d38 d39 d40 d41 d42 d43 d44 d45 d46 d47 d48 d49 d50 d51 d52 d53 d54 d55 d56 d57 d58 d59 d60 d61 d62:FuncData}{t_BEGINNING_2 t_BEGINNING_3 t_BEGINNING_4:Tok}{od_BEGINNING_1 od_BEGINNING:Option Addr}{n_BEGINNING_1 n_BEGINNING:Nat}{sl_BEGINNING_1 sl_BEGINNING:Array (Option Value)}(X:K.In h)(G:h.Ns mainGlobals mg)(hfa:mg "law"=some (.ref fa))
 (g_BEGINNING:PySem.W.nsIn K mainGlobals "BEGINNING"=some (some (.ref x_BEGINNING)))
 (aC0:PySem.W.nsIn K mainGlobals "Hand"=some (some (.ref C0))) (cC0:Cls K C0) (mk0:PySem.W.makesIn K C0=true) (kc0:PySem.W.keepIn K (.ref C0)=true)
 (na0:(nmL.all fun x=>PySem.W.findIn K (.ref C0) x==some none)=true)
 (aC1:PySem.W.nsIn K mainGlobals "Keeper"=some (some (.ref C1))) (cC1:Cls K C1) (mk1:PySem.W.makesIn K C1=true) (kc1:PySem.W.keepIn K (.ref C1)=true)
 (na1:(nmL.all fun x=>PySem.W.findIn K (.ref C1) x==some none)=true)
 (aC2:PySem.W.nsIn K mainGlobals "Hall"=some (some (.ref C2))) (cC2:Cls K C2) (mk2:PySem.W.makesIn K C2=true) (kc2:PySem.W.keepIn K (.ref C2)=true)
 (na2:(nmL.all fun x=>PySem.W.findIn K (.ref C2) x==some none)=true)
 (aC3:PySem.W.nsIn K mainGlobals "Work"=some (some (.ref C3))) (cC3:Cls K C3) (mk3:PySem.W.makesIn K C3=true) (kc3:PySem.W.keepIn K (.ref C3)=true)
 (na3:(nmL.all fun x=>PySem.W.findIn K (.ref C3) x==some none)=true)
 (aC4:PySem.W.nsIn K mainGlobals "Story"=some (some (.ref C4))) (cC4:Cls K C4) (mk4:PySem.W.makesIn K C4=true) (kc4:PySem.W.keepIn K (.ref C4)=true)
 (na4:(nmL.all fun x=>PySem.W.findIn K (.ref C4) x==some none)=true)
 (aX0:PySem.W.nsIn K mainGlobals "HalfError"=some (some (.ref X0))) (ei0:PySem.W.excIn K X0 veM "ValueError.__new__"=true)
 (aX1:PySem.W.nsIn K mainGlobals "NoHand"=some (some (.ref X1))) (ei1:PySem.W.excIn K X1 veM "ValueError.__new__"=true)
 (aX2:PySem.W.nsIn K mainGlobals "NoKeeper"=some (some (.ref X2))) (ei2:PySem.W.excIn K X2 veM "ValueError.__new__"=true)
 (aX3:PySem.W.nsIn K mainGlobals "NoLetter"=some (some (.ref X3))) (ei3:PySem.W.excIn K X3 veM "ValueError.__new__"=true)
 (aX4:PySem.W.nsIn K mainGlobals "Busy"=some (some (.ref X4))) (ei4:PySem.W.excIn K X4 veM "ValueError.__new__"=true)
 (aX5:PySem.W.nsIn K mainGlobals "Idle"=some (some (.ref X5))) (ei5:PySem.W.excIn K X5 veM "ValueError.__new__"=true)
 (em1:((clP [C0,C1,C2,C3,C4] [X0,X1,X2,X3,X4,X5]).all fun p=>PySem.W.exmOne K (.ref p.1) (.ref X1)==some (decide (p.2=1001)))=true)
 (em2:((clP [C0,C1,C2,C3,C4] [X0,X1,X2,X3,X4,X5]).all fun p=>PySem.W.exmOne K (.ref p.1) (.ref X2)==some (decide (p.2=1002)))=true)
 (em3:((clP [C0,C1,C2,C3,C4] [X0,X1,X2,X3,X4,X5]).all fun p=>PySem.W.exmOne K (.ref p.1) (.ref X3)==some (decide (p.2=1003)))=true)
 (em4:((clP [C0,C1,C2,C3,C4] [X0,X1,X2,X3,X4,X5]).all fun p=>PySem.W.exmOne K (.ref p.1) (.ref X4)==some (decide (p.2=1004)))=true)
 (em5:((clP [C0,C1,C2,C3,C4] [X0,X1,X2,X3,X4,X5]).all fun p=>PySem.W.exmOne K (.ref p.1) (.ref X5)==some (decide (p.2=1005)))=true)
 (a0:PySem.W.nsIn K mainGlobals "is_more"=some (some (.ref f0))) (p0:Fun K "is_more" "is_more" nJ f0 d0)
 (a1:PySem.W.nsIn K mainGlobals "newest"=some (some (.ref f1))) (p1:Fun K "newest" "newest" pz f1 d1)
 (a2:PySem.W.nsIn K mainGlobals "stamp_after"=some (some (.ref f2))) (p2:Fun K "stamp_after" "stamp_after" ik f2 d2)
 (a3:PySem.W.findIn K (.ref C0) "__init__"=some (some (.ref f3))) (p3:Fun K "__init__" "Hand.__init__" j9 f3 d3)
 (i3:PySem.W.isFn K (.ref f3)=true)
 (a4:PySem.W.findIn K (.ref C0) "letters"=some (some (.ref f4))) (p4:Fun K "letters" "Hand.letters" gH f4 d4)
 (i4:PySem.W.isFn K (.ref f4)=true)
 (a5:PySem.W.findIn K (.ref C0) "begin_round"=some (some (.ref f5))) (p5:Fun K "begin_round" "Hand.begin_round" eK f5 d5)
 (i5:PySem.W.isFn K (.ref f5)=true)
 (a6:PySem.W.findIn K (.ref C0) "begin"=some (some (.ref f6))) (p6:Fun K "begin" "Hand.begin" iV f6 d6)
 (i6:PySem.W.isFn K (.ref f6)=true)
 (a7:PySem.W.findIn K (.ref C0) "begin_write"=some (some (.ref f7))) (p7:Fun K "begin_write" "Hand.begin_write" eA f7 d7)
 (i7:PySem.W.isFn K (.ref f7)=true)
 (a8:PySem.W.findIn K (.ref C0) "begin_read"=some (some (.ref f8))) (p8:Fun K "begin_read" "Hand.begin_read" fk f8 d8)
 (i8:PySem.W.isFn K (.ref f8)=true)
 (a9:PySem.W.findIn K (.ref C0) "refuse_idle"=some (some (.ref f9))) (p9:Fun K "refuse_idle" "Hand.refuse_idle" eJ f9 d9)
 (i9:PySem.W.isFn K (.ref f9)=true)
 (a10:PySem.W.findIn K (.ref C0) "send_again"=some (some (.ref f10))) (p10:Fun K "send_again" "Hand.send_again" eQ f10 d10)
 (i10:PySem.W.isFn K (.ref f10)=true)
 (a11:PySem.W.findIn K (.ref C0) "give_up"=some (some (.ref f11))) (p11:Fun K "give_up" "Hand.give_up" gF f11 d11)
 (i11:PySem.W.isFn K (.ref f11)=true)
 (a12:PySem.W.findIn K (.ref C0) "chosen"=some (some (.ref f12))) (p12:Fun K "chosen" "Hand.chosen" hI f12 d12)
 (i12:PySem.W.isFn K (.ref f12)=true)
 (a13:PySem.W.findIn K (.ref C0) "hear"=some (some (.ref f13))) (p13:Fun K "hear" "Hand.hear" jZ f13 d13)
 (i13:PySem.W.isFn K (.ref f13)=true)
 (a14:PySem.W.findIn K (.ref C1) "__init__"=some (some (.ref f14))) (p14:Fun K "__init__" "Keeper.__init__" gZ f14 d14)
 (i14:PySem.W.isFn K (.ref f14)=true)
 (a15:PySem.W.findIn K (.ref C1) "stop"=some (some (.ref f15))) (p15:Fun K "stop" "Keeper.stop" ig f15 d15)
 (i15:PySem.W.isFn K (.ref f15)=true)
 (a16:PySem.W.findIn K (.ref C1) "wake"=some (some (.ref f16))) (p16:Fun K "wake" "Keeper.wake" hX f16 d16)
 (i16:PySem.W.isFn K (.ref f16)=true)
 (a17:PySem.W.findIn K (.ref C1) "keep"=some (some (.ref f17))) (p17:Fun K "keep" "Keeper.keep" ia f17 d17)
 (i17:PySem.W.isFn K (.ref f17)=true)
 (a18:PySem.W.findIn K (.ref C1) "answer_to"=some (some (.ref f18))) (p18:Fun K "answer_to" "Keeper.answer_to" eI f18 d18)
 (i18:PySem.W.isFn K (.ref f18)=true)
 (a19:PySem.W.findIn K (.ref C2) "__init__"=some (some (.ref f19))) (p19:Fun K "__init__" "Hall.__init__" km f19 d19)
 (i19:PySem.W.isFn K (.ref f19)=true)
 (a20:PySem.W.findIn K (.ref C2) "hand_of"=some (some (.ref f20))) (p20:Fun K "hand_of" "Hall.hand_of" gK f20 d20)
 (i20:PySem.W.isFn K (.ref f20)=true)
 (a21:PySem.W.findIn K (.ref C2) "keeper_of"=some (some (.ref f21))) (p21:Fun K "keeper_of" "Hall.keeper_of" fB f21 d21)
 (i21:PySem.W.isFn K (.ref f21)=true)
 (a22:PySem.W.findIn K (.ref C2) "send"=some (some (.ref f22))) (p22:Fun K "send" "Hall.send" jQ f22 d22)
 (i22:PySem.W.isFn K (.ref f22)=true)
 (a23:PySem.W.findIn K (.ref C2) "write"=some (some (.ref f23))) (p23:Fun K "write" "Hall.write" jv f23 d23)
 (i23:PySem.W.isFn K (.ref f23)=true)
 (a24:PySem.W.findIn K (.ref C2) "read"=some (some (.ref f24))) (p24:Fun K "read" "Hall.read" ko f24 d24)
 (i24:PySem.W.isFn K (.ref f24)=true)
 (a25:PySem.W.findIn K (.ref C2) "again"=some (some (.ref f25))) (p25:Fun K "again" "Hall.again" ji f25 d25)
 (i25:PySem.W.isFn K (.ref f25)=true)
 (a26:PySem.W.findIn K (.ref C2) "leave"=some (some (.ref f26))) (p26:Fun K "leave" "Hall.leave" iX f26 d26)
 (i26:PySem.W.isFn K (.ref f26)=true)
 (a27:PySem.W.findIn K (.ref C2) "stop_keeper"=some (some (.ref f27))) (p27:Fun K "stop_keeper" "Hall.stop_keeper" ed f27 d27)
 (i27:PySem.W.isFn K (.ref f27)=true)
 (a28:PySem.W.findIn K (.ref C2) "wake_keeper"=some (some (.ref f28))) (p28:Fun K "wake_keeper" "Hall.wake_keeper" eh f28 d28)
 (i28:PySem.W.isFn K (.ref f28)=true)
 (a29:PySem.W.findIn K (.ref C2) "come_to_keeper"=some (some (.ref f29))) (p29:Fun K "come_to_keeper" "Hall.come_to_keeper" cV f29 d29)
 (i29:PySem.W.isFn K (.ref f29)=true)
 (a30:PySem.W.findIn K (.ref C2) "come_to_hand"=some (some (.ref f30))) (p30:Fun K "come_to_hand" "Hall.come_to_hand" dQ f30 d30)
 (i30:PySem.W.isFn K (.ref f30)=true)
 (a31:PySem.W.findIn K (.ref C2) "come"=some (some (.ref f31))) (p31:Fun K "come" "Hall.come" j8 f31 d31)
 (i31:PySem.W.isFn K (.ref f31)=true)
 (a32:PySem.W.findIn K (.ref C2) "carry"=some (some (.ref f32))) (p32:Fun K "carry" "Hall.carry" jr f32 d32)
 (i32:PySem.W.isFn K (.ref f32)=true)
 (a33:PySem.W.findIn K (.ref C2) "first_between"=some (some (.ref f33))) (p33:Fun K "first_between" "Hall.first_between" dD f33 d33)
 (i33:PySem.W.isFn K (.ref f33)=true)
 (a34:PySem.W.findIn K (.ref C2) "carry_between"=some (some (.ref f34))) (p34:Fun K "carry_between" "Hall.carry_between" dB f34 d34)
 (i34:PySem.W.isFn K (.ref f34)=true)
 (a35:PySem.W.findIn K (.ref C2) "sweep"=some (some (.ref f35))) (p35:Fun K "sweep" "Hall.sweep" ja f35 d35)
 (i35:PySem.W.isFn K (.ref f35)=true)
 (a36:PySem.W.findIn K (.ref C3) "__init__"=some (some (.ref f36))) (p36:Fun K "__init__" "Work.__init__" kg f36 d36)
 (i36:PySem.W.isFn K (.ref f36)=true)
 (a37:PySem.W.findIn K (.ref C3) "told"=some (some (.ref f37))) (p37:Fun K "told" "Work.told" jR f37 d37)
 (i37:PySem.W.isFn K (.ref f37)=true)
 (a38:PySem.W.findIn K (.ref C4) "__init__"=some (some (.ref f38))) (p38:Fun K "__init__" "Story.__init__" jz f38 d38)
 (i38:PySem.W.isFn K (.ref f38)=true)
 (a39:PySem.W.findIn K (.ref C4) "note_work"=some (some (.ref f39))) (p39:Fun K "note_work" "Story.note_work" eW f39 d39)
 (i39:PySem.W.isFn K (.ref f39)=true)
 (a40:PySem.W.findIn K (.ref C4) "note_end"=some (some (.ref f40))) (p40:Fun K "note_end" "Story.note_end" fC f40 d40)
 (i40:PySem.W.isFn K (.ref f40)=true)
 (a41:PySem.W.findIn K (.ref C4) "note_ends"=some (some (.ref f41))) (p41:Fun K "note_ends" "Story.note_ends" eY f41 d41)
 (i41:PySem.W.isFn K (.ref f41)=true)
 (a42:PySem.W.findIn K (.ref C4) "done"=some (some (.ref f42))) (p42:Fun K "done" "Story.done" jb f42 d42)
 (i42:PySem.W.isFn K (.ref f42)=true)
 (a43:PySem.W.findIn K (.ref C4) "done_or_refused"=some (some (.ref f43))) (p43:Fun K "done_or_refused" "Story.done_or_refused" cA f43 d43)
 (i43:PySem.W.isFn K (.ref f43)=true)
 (a44:PySem.W.findIn K (.ref C4) "note_stamps"=some (some (.ref f44))) (p44:Fun K "note_stamps" "Story.note_stamps" dP f44 d44)
 (i44:PySem.W.isFn K (.ref f44)=true)
 (a45:PySem.W.findIn K (.ref C4) "answer"=some (some (.ref f45))) (p45:Fun K "answer" "Story.answer" gI f45 d45)
 (i45:PySem.W.isFn K (.ref f45)=true)
 (a46:PySem.W.nsIn K mainGlobals "answers"=some (some (.ref f46))) (p46:Fun K "answers" "answers" nI f46 d46)
 (a47:PySem.W.nsIn K mainGlobals "all_after"=some (some (.ref f47))) (p47:Fun K "all_after" "all_after" jT f47 d47)
 (a48:PySem.W.nsIn K mainGlobals "_law_so"=some (some (.ref f48))) (p48:Fun K "_law_so" "_law_so" Hb f48 d48)
 (a49:PySem.W.nsIn K mainGlobals "_law_whole"=some (some (.ref f49))) (p49:Fun K "_law_whole" "_law_whole" tV f49 d49)
 (a50:PySem.W.nsIn K mainGlobals "_law_at"=some (some (.ref f50))) (p50:Fun K "_law_at" "_law_at" Ge f50 d50)
 (a51:PySem.W.nsIn K mainGlobals "_law_value_by"=some (some (.ref f51))) (p51:Fun K "_law_value_by" "_law_value_by" lT f51 d51)
 (a52:PySem.W.nsIn K mainGlobals "_law_deed_of"=some (some (.ref f52))) (p52:Fun K "_law_deed_of" "_law_deed_of" m5 f52 d52)
 (a53:PySem.W.nsIn K mainGlobals "_law_opening"=some (some (.ref f53))) (p53:Fun K "_law_opening" "_law_opening" nB f53 d53)
 (a54:PySem.W.nsIn K mainGlobals "_law_drawn"=some (some (.ref f54))) (p54:Fun K "_law_drawn" "_law_drawn" sL f54 d54)
 (a55:PySem.W.nsIn K mainGlobals "_law_is_stamp"=some (some (.ref f55))) (p55:Fun K "_law_is_stamp" "_law_is_stamp" lZ f55 d55)
 (a56:PySem.W.nsIn K mainGlobals "_law_is_pair"=some (some (.ref f56))) (p56:Fun K "_law_is_pair" "_law_is_pair" nM f56 d56)
 (a57:PySem.W.nsIn K mainGlobals "_law_is_work"=some (some (.ref f57))) (p57:Fun K "_law_is_work" "_law_is_work" ni f57 d57)
 (a58:PySem.W.nsIn K mainGlobals "_law_all_kinds"=some (some (.ref f58))) (p58:Fun K "_law_all_kinds" "_law_all_kinds" jO f58 d58)
 (a59:PySem.W.nsIn K mainGlobals "_law_all_told"=some (some (.ref f59))) (p59:Fun K "_law_all_told" "_law_all_told" mf f59 d59)
 (a60:PySem.W.nsIn K mainGlobals "_law_up_again"=some (some (.ref f60))) (p60:Fun K "_law_up_again" "_law_up_again" mr f60 d60)
 (a61:PySem.W.nsIn K mainGlobals "_law_given_up"=some (some (.ref f61))) (p61:Fun K "_law_given_up" "_law_given_up" lL f61 d61)
 (a62:PySem.W.nsIn K mainGlobals "law"=some (some (.ref f62))) (p62:Fun K "law" "law" qZ f62 d62)
 (z_max:PySem.W.nsIn K mainGlobals "max"=some none)
 (z_range:PySem.W.nsIn K mainGlobals "range"=some none)
 (z_list:PySem.W.nsIn K mainGlobals "list"=some none)
 (z_len:PySem.W.nsIn K mainGlobals "len"=some none)
 (z_enumerate:PySem.W.nsIn K mainGlobals "enumerate"=some none)
 (z_bool:PySem.W.nsIn K mainGlobals "bool"=some none)
 (z_isinstance:PySem.W.nsIn K mainGlobals "isinstance"=some none)
 (z_int:PySem.W.nsIn K mainGlobals "int"=some none)
 (z_str:PySem.W.nsIn K mainGlobals "str"=some none)
 (z_dict:PySem.W.nsIn K mainGlobals "dict"=some none)
 (z_tuple:PySem.W.nsIn K mainGlobals "tuple"=some none)
 (z_sorted:PySem.W.nsIn K mainGlobals "sorted"=some none)
 (l_BEGINNING_1:K.lookup x_BEGINNING_1=some ⟨.type "tuple",od_BEGINNING_1,.seq #[.int 0 t_BEGINNING_2,.int 0 t_BEGINNING_3] n_BEGINNING_1,sl_BEGINNING_1⟩)
 (l_BEGINNING:K.lookup x_BEGINNING=some ⟨.type "tuple",od_BEGINNING,.seq #[.ref x_BEGINNING_1,.int 0 t_BEGINNING_4] n_BEGINNING,sl_BEGINNING⟩):
 ∃fd:FuncData,(∀(s:Shared) (v:Value),BindsTo s fd ⟨[v],[]⟩ [("_law_script",v)])/\∃cl,∀base:Heap,K.In base->base.Ns mainGlobals mg->aQ l.prog w K mg base CX0 12 fa fd ["_law_script"] (sp3 (TT cl) K 1 pK):=by
 have e:=hfa.symm.trans (PySem.W.mg_of X G a62)
 cases e
 have hcl:∀c Ca,clF [C0,C1,C2,C3,C4] [X0,X1,X2,X3,X4,X5] c=some Ca->c < 1000->Ca∈ [C0,C1,C2,C3,C4]:=fun c Ca e hc=>Ff e hc
 have hC:∀Ca,Ca∈ [C0,C1,C2,C3,C4]->Cls K Ca/\∀x∈nmL,jg K Ca x:=by
  intro Ca hm
  simp only[qS_,List.not_mem_nil,or_false]at hm
  rcases hm with rfl |rfl |rfl |rfl |rfl
  · exact⟨cC0,fun x hx=>eq_of_beq (List.all_eq_true.mp na0 x hx)⟩
  · exact⟨cC1,fun x hx=>eq_of_beq (List.all_eq_true.mp na1 x hx)⟩
  · exact⟨cC2,fun x hx=>eq_of_beq (List.all_eq_true.mp na2 x hx)⟩
  · exact⟨cC3,fun x hx=>eq_of_beq (List.all_eq_true.mp na3 x hx)⟩
  · exact⟨cC4,fun x hx=>eq_of_beq (List.all_eq_true.mp na4 x hx)⟩
 have Z:Txt K mg (clF [C0,C1,C2,C3,C4] [X0,X1,X2,X3,X4,X5]):=⟨PySem.W.mg_none_of X G z_max,
  PySem.W.mg_none_of X G z_range,
  PySem.W.mg_none_of X G z_list,
  PySem.W.mg_none_of X G z_len,
  PySem.W.mg_none_of X G z_enumerate,
  PySem.W.mg_none_of X G z_bool,
  PySem.W.mg_none_of X G z_isinstance,
  PySem.W.mg_none_of X G z_int,
  PySem.W.mg_none_of X G z_str,
  PySem.W.mg_none_of X G z_dict,
  PySem.W.mg_none_of X G z_tuple,
  PySem.W.mg_none_of X G z_sorted,
  ⟨.ref x_BEGINNING,.ref x_BEGINNING,PySem.W.mg_of X G g_BEGINNING,rfl,(x6 (ds:=[(.tup [(.int 0),(.int 0)]),(.int 0)]) l_BEGINNING (show 2<=sizeLine by decide) (vs:=[(.ref x_BEGINNING_1),(.int 0)]) (.cons rfl (.cons ⟨_,rfl⟩ .nil)) fun H μ=>⟨_,_,rfl,((x6 (ds:=[(.int 0),(.int 0)]) l_BEGINNING_1 (show 2<=sizeLine by decide) (vs:=[(.int 0),(.int 0)]) (.cons ⟨_,rfl⟩ (.cons ⟨_,rfl⟩ .nil)) fun H μ=>⟨_,_,rfl,rfl,⟨_,_,rfl,rfl,rfl⟩⟩) H μ),⟨_,_,rfl,rfl,rfl⟩⟩)⟩,
  fun _ hj=>GQ (L:=nmL) hcl hC (by decide +kernel) (by decide +kernel) hj,
  ⟨X0,rfl,PySem.W.mg_of X G aX0,ei0⟩,
  True.intro,
  ⟨X1,rfl,PySem.W.mg_of X G aX1,ei1⟩,
  ⟨X1,PySem.W.mg_of X G aX1,fun c Ca e=>mC em1 e⟩,
  ⟨X2,rfl,PySem.W.mg_of X G aX2,ei2⟩,
  ⟨X2,PySem.W.mg_of X G aX2,fun c Ca e=>mC em2 e⟩,
  ⟨X3,rfl,PySem.W.mg_of X G aX3,ei3⟩,
  ⟨X3,PySem.W.mg_of X G aX3,fun c Ca e=>mC em3 e⟩,
  ⟨X4,rfl,PySem.W.mg_of X G aX4,ei4⟩,
  ⟨X4,PySem.W.mg_of X G aX4,fun c Ca e=>mC em4 e⟩,
  ⟨X5,rfl,PySem.W.mg_of X G aX5,ei5⟩,
  ⟨X5,PySem.W.mg_of X G aX5,fun c Ca e=>mC em5 e⟩⟩
 obtain⟨oc,od,kV,dc,pm,an,cd,ct,sl,rfl,_,_⟩:=p62.ex
 refine⟨PySem.W.fnOf "law" "law" (mW qZ) (gj qZ) (aj qZ) .none kV dc pm an cd ct,fun s v=>.of_eq rfl,(clF [C0,C1,C2,C3,C4] [X0,X1,X2,X3,X4,X5]),fun base _ _=>?_⟩
 have Gx31:=fu (wD l.prog w mg base p0 Z) p0 (PySem.W.mg_of X G a0) (p0.binds (by walk_at "b2"))
 have Gx32:=fu (yp l.prog w mg base p1 Z) p1 (PySem.W.mg_of X G a1) (p1.binds (by walk_at "b1"))
 have Gx33:=fu (pU l.prog w mg base p2 Z) p2 (PySem.W.mg_of X G a2) (p2.binds (by walk_at "b3"))
 have Gx34:=vG (C:=0) (sE l.prog w mg base p3 Z) rfl ⟨mk0,a3,i3,kc0⟩ (PySem.W.mg_of X G aC0) (p3.binds (by walk_at "b3"))
 have Gx12:=bE (C:=0) (oz l.prog w mg base p4 Z) rfl cC0 ⟨a4,i4,p4.kp⟩ (p4.binds (by walk_at "b1")) (by walk_at "nm")
 have Gx13:=bE (C:=0) (lx l.prog w mg base p5 Z Gx12) rfl cC0 ⟨a5,i5,p5.kp⟩ (p5.binds (by walk_at "b2")) (by walk_at "nm")
 have Gx14:=bE (C:=0) (qJ l.prog w mg base p6 Z Gx13) rfl cC0 ⟨a6,i6,p6.kp⟩ (p6.binds (by walk_at "b2")) (by walk_at "nm")
 have Gx35:=bE (C:=0) (li l.prog w mg base p7 Z Gx14) rfl cC0 ⟨a7,i7,p7.kp⟩ (p7.binds (by walk_at "b2")) (by walk_at "nm")
 have Gx36:=bE (C:=0) (lS l.prog w mg base p8 Z Gx14) rfl cC0 ⟨a8,i8,p8.kp⟩ (p8.binds (by walk_at "b1")) (by walk_at "nm")
 have Gx15:=bE (C:=0) (lB l.prog w mg base p9 Z) rfl cC0 ⟨a9,i9,p9.kp⟩ (p9.binds (by walk_at "b1")) (by walk_at "nm")
 have Gx37:=bE (C:=0) (lO l.prog w mg base p10 Z Gx12 Gx15) rfl cC0 ⟨a10,i10,p10.kp⟩ (p10.binds (by walk_at "b1")) (by walk_at "nm")
 have Gx38:=bE (C:=0) (oy l.prog w mg base p11 Z Gx15) rfl cC0 ⟨a11,i11,p11.kp⟩ (p11.binds (by walk_at "b1")) (by walk_at "nm")
 have Gx39:=bE (C:=0) (pH l.prog w mg base p12 Z Gx32 Gx33) rfl cC0 ⟨a12,i12,p12.kp⟩ (p12.binds (by walk_at "b1")) (by walk_at "nm")
 have Gx40:=bE (C:=0) (sS l.prog w mg base p13 Z Gx31 Gx13 Gx39) rfl cC0 ⟨a13,i13,p13.kp⟩ (p13.binds (by walk_at "b2")) (by walk_at "nm")
 have Gx41:=vG (C:=1) (pB l.prog w mg base p14 Z) rfl ⟨mk1,a14,i14,kc1⟩ (PySem.W.mg_of X G aC1) (p14.binds (by walk_at "b1"))
 have Gx42:=bE (C:=1) (oT l.prog w mg base p15 Z) rfl cC1 ⟨a15,i15,p15.kp⟩ (p15.binds (by walk_at "b1")) (by walk_at "nm")
 have Gx43:=bE (C:=1) (oW l.prog w mg base p16 Z) rfl cC1 ⟨a16,i16,p16.kp⟩ (p16.binds (by walk_at "b1")) (by walk_at "nm")
 have Gx44:=bE (C:=1) (pP l.prog w mg base p17 Z) rfl cC1 ⟨a17,i17,p17.kp⟩ (p17.binds (by walk_at "b2")) (by walk_at "nm")
 have Gx45:=bE (C:=1) (ly l.prog w mg base p18 Z Gx44) rfl cC1 ⟨a18,i18,p18.kp⟩ (p18.binds (by walk_at "b2")) (by walk_at "nm")
 have Gx46:=vG (C:=2) (sY l.prog w mg base p19 Z Gx34 Gx41) rfl ⟨mk2,a19,i19,kc2⟩ (PySem.W.mg_of X G aC2) (p19.binds (by walk_at "b3"))
 have Gx1:=bE (C:=2) (ou l.prog w mg base p20 Z) rfl cC2 ⟨a20,i20,p20.kp⟩ (p20.binds (by walk_at "b2")) (by walk_at "nm")
 have Gx5:=bE (C:=2) (mF l.prog w mg base p21 Z) rfl cC2 ⟨a21,i21,p21.kp⟩ (p21.binds (by walk_at "b2")) (by walk_at "nm")
 have Gx3:=bE (C:=2) (tQ l.prog w mg base p22 Z) rfl cC2 ⟨a22,i22,p22.kp⟩ (p22.binds (by walk_at "b2")) (by walk_at "nm")
 have Gx47:=bE (C:=2) (qw l.prog w mg base p23 Z Gx35 Gx1 Gx3) rfl cC2 ⟨a23,i23,p23.kp⟩ (p23.binds (by walk_at "b3")) (by walk_at "nm")
 have Gx48:=bE (C:=2) (tH l.prog w mg base p24 Z Gx36 Gx1 Gx3) rfl cC2 ⟨a24,i24,p24.kp⟩ (p24.binds (by walk_at "b2")) (by walk_at "nm")
 have Gx49:=bE (C:=2) (qA l.prog w mg base p25 Z Gx37 Gx1 Gx3) rfl cC2 ⟨a25,i25,p25.kp⟩ (p25.binds (by walk_at "b2")) (by walk_at "nm")
 have Gx50:=bE (C:=2) (qQ l.prog w mg base p26 Z Gx38 Gx1) rfl cC2 ⟨a26,i26,p26.kp⟩ (p26.binds (by walk_at "b2")) (by walk_at "nm")
 have Gx51:=bE (C:=2) (lj l.prog w mg base p27 Z Gx42 Gx5) rfl cC2 ⟨a27,i27,p27.kp⟩ (p27.binds (by walk_at "b2")) (by walk_at "nm")
 have Gx52:=bE (C:=2) (lc l.prog w mg base p28 Z Gx43 Gx5) rfl cC2 ⟨a28,i28,p28.kp⟩ (p28.binds (by walk_at "b2")) (by walk_at "nm")
 have Gx53:=bE (C:=2) (jc l.prog w mg base p29 Z Gx45) rfl cC2 ⟨a29,i29,p29.kp⟩ (p29.binds (by walk_at "b2")) (by walk_at "nm")
 have Gx54:=bE (C:=2) (jY l.prog w mg base p30 Z Gx40 Gx3) rfl cC2 ⟨a30,i30,p30.kp⟩ (p30.binds (by walk_at "b2")) (by walk_at "nm")
 have Gx6:=bE (C:=2) (rY l.prog w mg base p31 Z Gx53 Gx54) rfl cC2 ⟨a31,i31,p31.kp⟩ (p31.binds (by walk_at "b3")) (by walk_at "nm")
 have Gx55:=bE (C:=2) (qM l.prog w mg base p32 Z Gx6) rfl cC2 ⟨a32,i32,p32.kp⟩ (p32.binds (by walk_at "b3")) (by walk_at "nm")
 have Gx56:=bE (C:=2) (jG l.prog w mg base p33 Z) rfl cC2 ⟨a33,i33,p33.kp⟩ (p33.binds (by walk_at "b3")) (by walk_at "nm")
 have Gx57:=bE (C:=2) (jH l.prog w mg base p34 Z Gx1 Gx5 Gx6 Gx56) rfl cC2 ⟨a34,i34,p34.kp⟩ (p34.binds (by walk_at "b3")) (by walk_at "nm")
 have Gx58:=bE (C:=2) (qH l.prog w mg base p35 Z Gx6) rfl cC2 ⟨a35,i35,p35.kp⟩ (p35.binds (by walk_at "b1")) (by walk_at "nm")
 have Gx59:=vG (C:=3) (tF l.prog w mg base p36 Z) rfl ⟨mk3,a36,i36,kc3⟩ (PySem.W.mg_of X G aC3) (p36.binds (by walk_at "b5"))
 have Gx60:=bE (C:=3) (sX l.prog w mg base p37 Z) rfl cC3 ⟨a37,i37,p37.kp⟩ (p37.binds (by walk_at "b1")) (by walk_at "nm")
 have Gx16:=vG (C:=4) (qO l.prog w mg base p38 Z Gx46) rfl ⟨mk4,a38,i38,kc4⟩ (PySem.W.mg_of X G aC4) (p38.binds (by walk_at "b3"))
 have Gx61:=bE (C:=4) (lR l.prog w mg base p39 Z Gx59) rfl cC4 ⟨a39,i39,p39.kp⟩ (p39.binds (by walk_at "b4")) (by walk_at "nm")
 have Gx62:=bE (C:=4) (mO l.prog w mg base p40 Z) rfl cC4 ⟨a40,i40,p40.kp⟩ (p40.binds (by walk_at "b3")) (by walk_at "nm")
 have Gx63:=bE (C:=4) (lY l.prog w mg base p41 Z Gx62) rfl cC4 ⟨a41,i41,p41.kp⟩ (p41.binds (by walk_at "b2")) (by walk_at "nm")
 have Gx64:=bE (C:=4) (qE l.prog w mg base p42 Z Gx47 Gx48 Gx49 Gx50 Gx51 Gx52 Gx55 Gx57 Gx58 Gx61 Gx63) rfl cC4 ⟨a42,i42,p42.kp⟩ (p42.binds (by walk_at "b2")) (by walk_at "nm")
 have Gx65:=bE (C:=4) (hW l.prog w mg base p43 Z Gx64) rfl cC4 ⟨a43,i43,p43.kp⟩ (p43.binds (by walk_at "b2")) (by walk_at "nm")
 have Gx66:=bE (C:=4) (kf l.prog w mg base p44 Z) rfl cC4 ⟨a44,i44,p44.kp⟩ (p44.binds (by walk_at "b1")) (by walk_at "nm")
 have Gx17:=bE (C:=4) (ow l.prog w mg base p45 Z Gx65 Gx66) rfl cC4 ⟨a45,i45,p45.kp⟩ (p45.binds (by walk_at "b2")) (by walk_at "nm")
 have Gx67:=fu (wG l.prog w mg base p46 Z Gx16 Gx17) p46 (PySem.W.mg_of X G a46) (p46.binds (by walk_at "b3"))
 have Gx68:=fu (sx l.prog w mg base p47 Z Gx60 Gx16 Gx17) p47 (PySem.W.mg_of X G a47) (p47.binds (by walk_at "b3"))
 have Gx69:=Eh l.prog w mg base p48 (PySem.W.mg_of X G a48) (p48.binds (by walk_at "b2")) Z
 have Gx7:=fu (zP l.prog w mg base p49 Z) p49 (PySem.W.mg_of X G a49) (p49.binds (by walk_at "b1"))
 have Gx70:=fu (Im l.prog w mg base p50 Z) p50 (PySem.W.mg_of X G a50) (p50.binds (by walk_at "b2"))
 have Gx71:=fu (ud l.prog w mg base p51 Z) p51 (PySem.W.mg_of X G a51) (p51.binds (by walk_at "b2"))
 have Gx72:=fu (wo l.prog w mg base p52 Z Gx71) p52 (PySem.W.mg_of X G a52) (p52.binds (by walk_at "b4"))
 have Gx73:=fu (wC l.prog w mg base p53 Z) p53 (PySem.W.mg_of X G a53) (p53.binds (by walk_at "b3"))
 have Gx74:=fu (zQ l.prog w mg base p54 Z Gx72 Gx73) p54 (PySem.W.mg_of X G a54) (p54.binds (by walk_at "b3"))
 have Gx18:=fu (vA l.prog w mg base p55 Z Gx7) p55 (PySem.W.mg_of X G a55) (p55.binds (by walk_at "b1"))
 have Gx75:=fu (xa l.prog w mg base p56 Z Gx7 Gx18) p56 (PySem.W.mg_of X G a56) (p56.binds (by walk_at "b1"))
 have Gx76:=fu (wV l.prog w mg base p57 Z Gx7) p57 (PySem.W.mg_of X G a57) (p57.binds (by walk_at "b1"))
 have Gx77:=fu (rZ l.prog w mg base p58 Z Gx18 Gx75 Gx76) p58 (PySem.W.mg_of X G a58) (p58.binds (by walk_at "b2"))
 have Gx78:=fu (uK l.prog w mg base p59 Z Gx68 Gx77) p59 (PySem.W.mg_of X G a59) (p59.binds (by walk_at "b3"))
 have Gx79:=fu (vc l.prog w mg base p60 Z) p60 (PySem.W.mg_of X G a60) (p60.binds (by walk_at "b3"))
 have Gx80:=fu (vH l.prog w mg base p61 Z) p61 (PySem.W.mg_of X G a61) (p61.binds (by walk_at "b2"))
 exact GY _ _ _ _ p62 Z Gx67 Gx69 Gx70 Gx74 Gx78 Gx79 Gx80
def walk{l:PySem.W.OpenLaw}{q:Program}{loose:List Str}{XP:(Str->Option Value)->Heap->Prop}{YP:World->Heap->Prop}{d:DefRec}{K:Params->PySem.W.Frag}(hn:l.most=some 63)(hdf:d.params.defaults=[])
 (hY:∀(w:World) (h:Heap),YP w h->(K w.params).In h) (hl:∀ns:List Int,ns.length<=63->M3.run (pK [.ref 0]) [.frz (ns.map M3.D.int)] (fun d _=>d= .bl true) fun _ _=>False)
 (F:∀(w:World) (mg:Str->Option Value) (fa:Addr) (h:Heap),(K w.params).In h->h.Ns mainGlobals mg->mg d.name=some (.ref fa)->
   ∃fd:FuncData,(∀(s:Shared) (u:Value),BindsTo s fd ⟨[u],[]⟩ [("_law_script",u)])/\∃cl,∀base:Heap,(K w.params).In base->base.Ns mainGlobals mg->aQ l.prog w (K w.params) mg base CX0 12 fa fd ["_law_script"] (sp3 (TT cl) (K w.params) 1 pK)):
 PySem.W.WalkO q loose XP YP l.row.toRowW d [] (fun f vs=>PySem.call f vs):=
 L2.CD (n:=63) (k:=12) (x:="_law_script") (CX:=fun _=>CX0) (sp:=fun w=>AO nmF (K w.params) 1 pK) hn (by decide) hdf ⟨rfl,by decide,by decide⟩ hY (fun w mg fa h a b c=>let ⟨fd,h1,cl,h2⟩:=F w mg fa h a b c;⟨fd,h1,fun base h3 h4=>Fw (h2 base h3 h4)⟩) (fun _ _ a ns h1 h2 h3=>CI hl h1 h2 h3) fun _ _ _ _ _ z=>z
end LK
open PySem PySem.W PyProof.Rows
namespace PySem.W.Fast
def tw13628107017965930392:=0
def tw15829650531790738444:=0
def tw4319121056222028329:=0
def tw9480035368482213225:=0
def tw7076136529035425124:=0
def tw12492355242063305623:=0
def tw4569770843199300131:=0
def tw17611230548989829149:=0
def tw11339124975134129348:=0
def tw11706110212091372615:=0
def tw13439905978623634060:=0
def tw1241886180766833218:=0
def tw6615057767999278694:=0
def tw4239761315423838265:=0
def tw14538508369641334233:=0
def tw16238501567253798815:=0
def tw10927480376947189521:=0
def tw11695916588301981262:=0
def tw17597687586209140269:=0
def tw3550217338434795432:=0
def tw17609176934608697691:=0
def tw4007079993832584772:=0
def tw12979612058835761183:=0
def tw16435356516431498977:=0
def tw12836846766156686003:=0
def tw7259261929214933735:=0
def tw15298943577247722523:=0
def tw17776290200249129364:=0
def tw11287511093130949749:=0
def tw10095101602307872487:=0
def tw12584351929669099727:=0
def tw9484617026928874977:=0
def tw12946093914315687450:=0
def tw9613879362468411468:=0
def tw15181953855871851445:=0
def tw4582173532500709987:=0
def tw13113981979372350160:=0
def tw15097518498097952608:=0
def tw10097684382819309869:=0
def tw5323065096442845977:=0
def tw11156593734587757885:=0
def tw5174890689914397700:=0
def tw13763268916976315314:=0
def tw10941392780632060021:=0
def tw689700727193939190:=0
def tw16301591216443584403:=0
def tw5041226526376466657:=0
def tw13421233209020306481:=0
def tw11230972279524133410:=0
def tw8666662026852955384:=0
def tw7523806079843510062:=0
def tw6037512154120875724:=0
def tw14723985260487792703:=0
def tw11365926359984970944:=0
def tw13787091391674842359:=0
def tw9415500562705896440:=0
def tw170404303379347147:=0
def tw261697209713535821:=0
def tw4869283848368352199:=0
def tw15673396616573302321:=0
def tw13364041814498595002:=0
def tw11087827738722227280:=0
def tw12211215049042118036:=0
def tw18281078074306100371:=0
def tw2744602733635153664:=0
def tw17170915292372059174:=0
def tw17027811837336898342:=0
def tw13308072933433970467:=0
def tw13665566128373085098:=0
def tw3775317202039675608:=0
def tw449529367912955181:=0
def tw10287208422320888504:=0
def tw9251607213139685031:=0
def tw5791089907995760390:=0
def tw9138266702851482296:=0
def tw9822048758936871024:=0
def tw13250093722374954772:=0
def tw8827323222533980250:=0
def tw5836717316690551743:=0
def tw12714286678639012342:=0
def tw14794161001968523649:=0
def tw11066495349166730984:=0
def tw6464827359339179304:=0
def tw13612746465023820663:=0
def tw15967354587269376977:=0
def tw887604563348787420:=0
def tw11013783253778884052:=0
def tw9184494344445823650:=0
def tw1231627421638649084:=0
def tw390590597353866796:=0
def tw2179949426144975168:=0
def tw15828967554161371109:=0
def tw6125181818773454969:=0
def tw10441330009873534298:=0
def tw13930982364464651462:=0
def tw8273299348221053903:=0
def tw15145519423437211898:=0
def tw8389413483140774486:=0
def tw17754134209449011971:=0
def tw8233551306680608180:=0
def tw6102155693320047930:=0
def tw8879103838038544089:=0
def tw6341279374215333660:=0
def tw2616773009410646837:=0
def tw10000025507736245546:=0
def tw6921526631762120009:=0
def tw4004754626060017287:=0
def tw7629910541510240706:=0
def tw5790846408848123493:=0
def tw12922559658753661789:=0
def tw12327530064650251113:=0
def tw12487551932197480378:=0
def tw12770408349662598836:=0
def tw18329299403533823403:=0
def tw4695575446366878100:=0
def tw18030440814845310447:=0
def tw14981154099037236308:=0
def tw737137020709298230:=0
def tw11802100091355471178:=0
def tw10170954192957034942:=0
def tw8675149002378976309:=0
def tw16307496832899707055:=0
def tw10266865386154369849:=0
def tw14815715705829204431:=0
def tw10444920329097091571:=0
def tw10924050550183288037:=0
def tw10489390985221960235:=0
def tw6674591663356689311:=0
def tw13864977550020646498:=0
def tw10850290891838269705:=0
def tw1644979458990042956:=0
def tw4826032505769925666:=0
def tw9843846189691559194:=0
def tw11214408325941929891:=0
def tw14034085579815530142:=0
def tw9885984357822553566:=0
def tw16596959766645162422:=0
def tw4545760467429328756:=0
def tw6007962738056841051:=0
def tw7691816300253668667:=0
def tw11424553367609674868:=0
def tw7364044031579455961:=0
def tw12818708790073929164:=0
end PySem.W.Fast
set_option maxRecDepth 100000 in
set_option maxHeartbeats 0 in
theorem PySem.Challenge.cw_halfask_k05_whole_nobody_waits_holds : PySem.Challenge.rw_halfask_k05_whole_nobody_waits.Holds := by
 w_on;o_law;k_head;(case hw=>w_witness2)
 k_fill
 refine LK.walk (l:=PySem.Challenge.rw_halfask_k05_whole_nobody_waits) rfl rfl (fun w h Y=>PySem.W.kIn_of Y) KS.zS ?F
 case F=>
  intro w mg fa h KX G hmg
  refine' LK.all_mk KX G hmg ?g_BEGINNING ?aC0 ?cC0 ?mk0 ?kc0 ?na0 ?aC1 ?cC1 ?mk1 ?kc1 ?na1 ?aC2 ?cC2 ?mk2 ?kc2 ?na2 ?aC3 ?cC3 ?mk3 ?kc3 ?na3 ?aC4 ?cC4 ?mk4 ?kc4 ?na4 ?aX0 ?ei0 ?aX1 ?ei1 ?aX2 ?ei2 ?aX3 ?ei3 ?aX4 ?ei4 ?aX5 ?ei5 ?em1 ?em2 ?em3 ?em4 ?em5 ?a0 ?p0 ?a1 ?p1 ?a2 ?p2 ?a3 ?p3 ?i3 ?a4 ?p4 ?i4 ?a5 ?p5 ?i5 ?a6 ?p6 ?i6 ?a7 ?p7 ?i7 ?a8 ?p8 ?i8 ?a9 ?p9 ?i9 ?a10 ?p10 ?i10 ?a11 ?p11 ?i11 ?a12 ?p12 ?i12 ?a13 ?p13 ?i13 ?a14 ?p14 ?i14 ?a15 ?p15 ?i15 ?a16 ?p16 ?i16 ?a17 ?p17 ?i17 ?a18 ?p18 ?i18 ?a19 ?p19 ?i19 ?a20 ?p20 ?i20 ?a21 ?p21 ?i21 ?a22 ?p22 ?i22 ?a23 ?p23 ?i23 ?a24 ?p24 ?i24 ?a25 ?p25 ?i25 ?a26 ?p26 ?i26 ?a27 ?p27 ?i27 ?a28 ?p28 ?i28 ?a29 ?p29 ?i29 ?a30 ?p30 ?i30 ?a31 ?p31 ?i31 ?a32 ?p32 ?i32 ?a33 ?p33 ?i33 ?a34 ?p34 ?i34 ?a35 ?p35 ?i35 ?a36 ?p36 ?i36 ?a37 ?p37 ?i37 ?a38 ?p38 ?i38 ?a39 ?p39 ?i39 ?a40 ?p40 ?i40 ?a41 ?p41 ?i41 ?a42 ?p42 ?i42 ?a43 ?p43 ?i43 ?a44 ?p44 ?i44 ?a45 ?p45 ?i45 ?a46 ?p46 ?a47 ?p47 ?a48 ?p48 ?a49 ?p49 ?a50 ?p50 ?a51 ?p51 ?a52 ?p52 ?a53 ?p53 ?a54 ?p54 ?a55 ?p55 ?a56 ?p56 ?a57 ?p57 ?a58 ?p58 ?a59 ?p59 ?a60 ?p60 ?a61 ?p61 ?a62 ?p62 ?z_max ?z_range ?z_list ?z_len ?z_enumerate ?z_bool ?z_isinstance ?z_int ?z_str ?z_dict ?z_tuple ?z_sorted ?l_BEGINNING_1 ?l_BEGINNING
  (case g_BEGINNING |l_BEGINNING |l_BEGINNING_1 |aC0 |aC1 |aC2 |aC3 |aC4 |aX0 |aX1 |aX2 |aX3 |aX4 |aX5=>k_is)
  (case na0 |na1 |na2 |na3 |na4 |ei0 |ei1 |ei2 |ei3 |ei4 |ei5 |em1 |em2 |em3 |em4 |em5=>kernel_rfl)
  (case cC0 |cC1 |cC2 |cC3 |cC4=>(refine⟨?_,?_,?_,?_⟩ <;> k_is))
  (case a0 |a1 |a2 |a3 |a4 |a5 |a6 |a7 |a8 |a9 |a10 |a11 |a12 |a13 |a14 |a15 |a16 |a17 |a18 |a19 |a20 |a21 |a22 |a23 |a24 |a25 |a26 |a27 |a28 |a29 |a30 |a31 |a32 |a33 |a34 |a35 |a36 |a37 |a38 |a39 |a40 |a41 |a42 |a43 |a44 |a45 |a46 |a47 |a48 |a49 |a50 |a51 |a52 |a53 |a54 |a55 |a56 |a57 |a58 |a59 |a60 |a61 |a62=>k_is)
  (case p0 |p1 |p2 |p3 |p4 |p5 |p6 |p7 |p8 |p9 |p10 |p11 |p12 |p13 |p14 |p15 |p16 |p17 |p18 |p19 |p20 |p21 |p22 |p23 |p24 |p25 |p26 |p27 |p28 |p29 |p30 |p31 |p32 |p33 |p34 |p35 |p36 |p37 |p38 |p39 |p40 |p41 |p42 |p43 |p44 |p45 |p46 |p47 |p48 |p49 |p50 |p51 |p52 |p53 |p54 |p55 |p56 |p57 |p58 |p59 |p60 |p61 |p62=>(refine' L2.GW ?l ?c ?k;(case l=>k_is);(case c=>k_is);(case k=>k_is)))
  (case mk0 |kc0 |mk1 |kc1 |mk2 |kc2 |mk3 |kc3 |mk4 |kc4 |i3 |i4 |i5 |i6 |i7 |i8 |i9 |i10 |i11 |i12 |i13 |i14 |i15 |i16 |i17 |i18 |i19 |i20 |i21 |i22 |i23 |i24 |i25 |i26 |i27 |i28 |i29 |i30 |i31 |i32 |i33 |i34 |i35 |i36 |i37 |i38 |i39 |i40 |i41 |i42 |i43 |i44 |i45 |z_max |z_range |z_list |z_len |z_enumerate |z_bool |z_isinstance |z_int |z_str |z_dict |z_tuple |z_sorted=>k_is)

