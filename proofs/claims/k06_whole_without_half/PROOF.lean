import PyProof.Rows.All
import Wide.All
import OpenK.AllK
import Wide.FinOn
import Lean
import PyProof.EqAt
import PyProof.EqKinds
import PyProof.NeKinds
import PyProof.TupleCall
import PyProof.ExcBaseAll.ValueError
import KE.KDictList
import KE.KTryMore
import PyProof.EnumMake
import PyProof.Rows.EnumRows
import PyProof.Rows.FactsT2
import KE.KRevIter
import PyProof.DictItems
import PyProof.FactsAll.dict_3
import PyProof.FactsAll.dict_itemiterator_1
import OpenK.KOwn
import PyProof.StrBlock2
import KE.IntText
import PySem.Challenge.RW_halfask_k06_whole_without_half
set_option Elab.async false
set_option linter.all false
set_option maxRecDepth 100000
set_option maxHeartbeats 4000000
def qA_:=@List.getElem?_eq_getElem
def qB_:=@List.getElem?_eq_some_iff
def qC_:=@Bool.false_ne_true
def qD_:=@List.mem_of_getElem?
def qE_:=@List.mem_append_right
def qF_:=@List.mem_append_left
def qG_:=@List.mem_append
def qH_:=@List.mem_map
def qI_:=@List.mem_cons_self
def qJ_:=@List.getElem?_set
def qK_:=@List.getElem?_append_left
def qM_:=@List.length_map
def qN_:=@List.length_append
def qO_:=@Nat.le_refl
def qP_:=@Nat.le_of_ble_eq_true
def qQ_:=@List.getElem?_map
def qR_:=@List.mem_cons_of_mem
def qS_:=@List.mem_cons
def qT_:=@List.map_append
def qU_:=@List.getElem?_set_self
def qV_:=@List.getElem?_set_ne
def qW_:=@List.size_toArray
def qX_:=@List.length_set
def qY_:=@List.append_nil
def qZ_:=@decide_eq_true
def qa_:=@decide_eq_false
def qb_:=@List.map_map
def qc_:=@List.nil_append
def qd_:=@Nat.lt_of_lt_of_le
def qe_:=@Nat.lt_irrefl
def qf_:=@Nat.zero_le
namespace L2
open PySem PySem.Spec PyProof.Rows
abbrev Key:=Sum Int Str
def rz:Key->Value->Bool
 | .inl k,v=>Value.isInt k v
 | .inr x,v=>Value.isStrOf x v
def IS(w:World):Key->Int
 | .inl k=>hashInt k
 | .inr x=>hashStr w x
theorem dC:∀{k:Key} {v:Value},rz k v=true->(∃i t,k=Sum.inl i/\v=Value.int i t)\/(∃x t,k=Sum.inr x/\v=Value.str x t)
 | .inl i,v,h=>by
   obtain⟨t,e⟩:=Value.isInt_shape (k:=i) (v:=v) h
   exact .inl ⟨i,t,rfl,e⟩
 | .inr x,v,h=>by
   obtain⟨t,e⟩:=Value.isStrOf_shape (x:=x) (v:=v) h
   exact .inr ⟨x,t,rfl,e⟩
theorem zj(i:Int)(t:Tok):rz (.inl i) (.int i t)=true:=by simp [rz,Value.isInt]
theorem zP(x:Str)(t:Tok):rz (.inr x) (.str x t)=true:=by simp [rz,Value.isStrOf]
theorem D8(a b:Int):decide ((Sum.inl a:Key)=Sum.inl b)=(a==b):=by
 by_cases e:a=b
 · subst e;simp
 · have h:¬(Sum.inl a:Key)=Sum.inl b:=fun q=>e (Sum.inl.inj q)
   rw[qa_ h]
   exact(beq_eq_false_iff_ne.mpr e).symm
theorem D6(a b:Str):decide ((Sum.inr a:Key)=Sum.inr b)=decide (a=b):=by
 by_cases e:a=b
 · subst e;simp
 · have h:¬(Sum.inr a:Key)=Sum.inr b:=fun q=>e (Sum.inr.inj q)
   rw[qa_ h,qa_ e]
theorem ES(a:Int)(b:Str):decide ((Sum.inl a:Key)=Sum.inr b)=false:=qa_ (fun q=>nomatch q)
theorem Ej(a:Str)(b:Int):decide ((Sum.inr a:Key)=Sum.inl b)=false:=qa_ (fun q=>nomatch q)
def du(prog:Program)(w:World):PySem.KeyKind prog w Key where
 is:=rz
 hash:=IS w
 inj:=fun v a b ha hb=>by
  rcases dC ha with ⟨i,t,rfl,rfl⟩ |⟨x,t,rfl,rfl⟩
  · rcases dC hb with ⟨j,u,rfl,e⟩ |⟨y,u,rfl,e⟩
    · injection e with e1 _;rw[e1]
    · exact nomatch e
  · rcases dC hb with ⟨j,u,rfl,e⟩ |⟨y,u,rfl,e⟩
    · exact nomatch e
    · injection e with e1 _;rw[e1]
 byValue:=fun k v h=>by
  rcases dC h with ⟨i,t,rfl,rfl⟩ |⟨x,t,rfl,rfl⟩ <;> rfl
 pyHash:=fun hv h=>by
  rcases dC hv with ⟨i,t,rfl,rfl⟩ |⟨x,t,rfl,rfl⟩
  · exact wpAny_pyHash_int h
  · exact wpAny_pyHash_str h
 eqBool:=fun hu hv h=>by
  rcases dC hu with ⟨i,t,rfl,rfl⟩ |⟨x,t,rfl,rfl⟩
  · rcases dC hv with ⟨j,u,rfl,rfl⟩ |⟨y,u,rfl,rfl⟩
    · rw[D8]at h;exact wpAny_eqBool_int h
    · rw[ES]at h;exact SeqAt.EqAt.int_str i t y u _ _ _ _ h
  · rcases dC hv with ⟨j,u,rfl,rfl⟩ |⟨y,u,rfl,rfl⟩
    · rw[Ej]at h;exact SeqAt.EqAt.str_int x t j u _ _ _ _ h
    · rw[D6]at h;exact wpAny_eqBool_str h
 «strs»:=fun k x t v h=>by
  rcases dC h with ⟨i,u,rfl,e⟩ |⟨y,u,rfl,e⟩
  · exact nomatch e
  · injection e with e1 _
    subst e1
    cases v <;> rfl
theorem vS(prog:Program)(w:World)(i:Int)(t:Tok):(du prog w).is (.inl i) (.int i t)=true:=zj i t
theorem vw(prog:Program)(w:World)(x:Str)(t:Tok):(du prog w).is (.inr x) (.str x t)=true:=zP x t
inductive V where
 |non |bl (b:Bool) |int (i:Int) |str (x:Str) |byt (b:Array UInt8) |flt (b:UInt64) |ref (a:Addr) |ty (n:String)
 deriving DecidableEq
def RelV:V->Value->Prop
 | .non,u=>u=Value.none
 | .bl b,u=>u=Value.bool b
 | .int i,u=>∃t,u=Value.int i t
 | .str x,u=>∃t,u=Value.str x t
 | .byt b,u=>∃t,u=Value.bytes b t
 | .flt b,u=>∃t,u=Value.float b t
 | .ref a,u=>u=Value.ref a
 | .ty n,u=>u=Value.type n
abbrev Vals:List V->List Value->Prop:=Paired RelV
theorem Vals.length{xs:List V}{us:List Value}(r:Vals xs us):xs.length=us.length:=Paired.length r
theorem Vals.get:∀{xs:List V} {us:List Value} {i:Nat} {x:V},Vals xs us->xs[i]? =some x->∃u,us[i]? =some u/\RelV x u
 |_,_,_,_,.nil,e=>by simp at e
 |_,_,0,_,.cons r _,e=>by simp at e;subst e;exact⟨_,rfl,r⟩
 |_,_,i+1,x,.cons _ t,e=>by
  obtain⟨u,h1,h2⟩:=Vals.get (i:=i) (x:=x) t (by simpa using e)
  exact⟨u,by simpa using h1,h2⟩
theorem Vals.set{x:V}{u:Value}(r:RelV x u):∀{xs:List V} {us:List Value} (i:Nat),Vals xs us->Vals (xs.set i x) (us.set i u)
 |_,_,_,.nil=>.nil
 |_,_,0,.cons _ t=>.cons r t
 |_,_,i+1,.cons q t=>.cons q (Vals.set r i t)
theorem Vals.append:∀{xs ys:List V} {us ws:List Value},Vals xs us->Vals ys ws->Vals (xs++ys) (us++ws)
 |_,_,_,_,.nil,s=>s
 |_,_,_,_,.cons r t,s=>.cons r (Vals.append t s)
theorem Vals.take:∀{xs:List V} {us:List Value} (n:Nat),Vals xs us->Vals (xs.take n) (us.take n)
 |_,_,0,_=>.nil
 |_,_,_+1,.nil=>.nil
 |_,_,n+1,.cons r t=>.cons r (Vals.take n t)
theorem Vals.drop:∀{xs:List V} {us:List Value} (n:Nat),Vals xs us->Vals (xs.drop n) (us.drop n)
 |_,_,0,r=>r
 |_,_,_+1,.nil=>.nil
 |_,_,n+1,.cons _ t=>Vals.drop n t
def mI:Option V->Option Value->Prop
 |some v,some u=>RelV v u
 |none,none=>True
 |_,_=>False
def KV{κ:Type}:List (κ×V)->List (κ×Value)->Prop:=Paired fun(p:κ×V) (q:κ×Value)=>p.1=q.1/\RelV p.2 q.2
def kV:Key->V
 | .inl i=>.int i
 | .inr x=>.str x
inductive HO where
 /-- a list -/
 |lst (xs:List V)
 /-- a tuple (never changes) -/
 |tup (xs:List V)
 /-- a dict whose keys are ints and texts;one whose keys are tuples of ints and texts (the empty one is both) -/
 |dK (kvs:List (Key×V)) |dT (kvs:List (List Key×V))
 /-- a set of ints:its members,its size -/
 |set (S:Int->Bool) (n:Nat)
 /-- an instance of the class at C,its dict at dx,its attributes -/
 |ins (C dx:Addr) (fs:List (Str×V))
 /-- the dict of the instance at x -/
 |own (x:Addr)
 /-- the dict of an exception -/
 |xd (fs:List (Str×V))
 /-- a bound method,f of x -/
 |met (f x:Addr)
 /-- a range object lo,lo+1,.. below hi -/
 |rng (lo hi:Int)
 /-- a thing that is known to the object (the script;a dict while a loop walks it):read,never written while it is so -/
 |frz (o:Obj) (u:HO)
 /-- a code object's table -/
 |tbl (ps:Array Value)
 /-- any other thing,by what is true of its one object (a def of one's own:SetO a S n:=HO.ext fun h=>..) -/
 |ext (φ:Heap->Prop)
abbrev Hp:=Addr->Option HO
def upd(H:Hp)(a:Addr)(o:HO):Hp:=fun b=>if b=a then some o else H b
theorem bi{H:Hp}{a:Addr}{o:HO}:upd H a o a=some o:=by unfold upd;rw[if_pos rfl]
theorem aT{H:Hp}{a b:Addr}{o:HO}(h:b≠a):upd H a o b=H b:=by unfold upd;rw[if_neg h]
theorem A6{H:Hp}{a b:Addr}{o u:HO}(h:H a=some o)(h':H b=some u)(d:o≠u):a≠b:=by
 intro e;subst e;rw[h]at h';exact d (Option.some.inj h')
theorem dY{H:Hp}{a b:Addr}{o:HO}(h:H a=some o)(h':H b=none):a≠b:=by
 intro e;subst e;rw[h]at h';cases h'
section
variable(P:Program)(w:World)
def dO(H:Hp)(h:Heap)(a:Addr):HO->Prop
 | .lst xs=>xs.length<=sizeLine/\∃(its:List Value) (n:Nat),Vals xs its/\h.get? a=some {cls:= .type "list",data:= .seq its.toArray n}
 | .tup xs=>xs.length<=sizeLine/\∃its:List Value,Vals xs its/\IsTup h a its.toArray
 | .dK kvs=>kvs.length<=sizeLine/\(a==sysModules)=false/\∃vs,KV kvs vs/\h.DictOf (du P w) a vs
 | .dT kvs=>kvs.length<=sizeLine/\(a==sysModules)=false/\∃xs:List (List Key×Addr×Value),
    Paired (fun(p:List Key×V) (q:List Key×Addr×Value)=>p.1=q.1/\H q.2.1=some (.tup (p.1.map kV))/\RelV p.2 q.2.2) kvs xs/\
    ∃o es ep,h.get? a=some o/\o.ExactDict/\o.data= .dict es ep/\es.toList=xs.map (entryOfKey (tupleKind (du P w)))/\(xs.map (·.1)).Nodup
 | .set S n=>h.SetOf (intKind P w) a S n
 | .ins C dx fs=>H dx=some (.own a)/\fs.length<=1000/\dx≠a/\h.get? a=some (PySem.W.instObj C dx)/\
    ∃mA,h.Ns1 dx mA/\(∀f,mI (fs.lookup f) (mA f))/\PySem.Within mA (fs.map (·.1))
 | .own _=>∃o,h.get? a=some o
 | .xd fs=>∃mA,h.Ns1 a mA/\∀f,mI (fs.lookup f) (mA f)
 | .rng lo hi=>∃t u v,h.get? a=some {cls:= .type "range",data:= .fields #[.int lo t,.int hi u,.int 1 v]}
 | .frz o u=>h.get? a=some o/\dO H h a u
 | .tbl ps=>h.get? a=some {cls:= .none,data:= .fields ps}
 | .met f x=>h.get? a=some (PySem.W.methodObj (.ref f) (.ref x))
 | .ext φ=>φ h/\(∃o,h.get? a=some o)/\∀h1 h2:Heap,φ h1->(∀o,h1.get? a=some o->h2.get? a=some o)->φ h2
def HOk(H:Hp)(h:Heap):Prop:=∀a o,H a=some o->dO P w H h a o
end
section
variable{P:Program}{w:World}{H H':Hp}{h h':Heap}{a:Addr}{o:HO}
theorem dO.lt(x:dO P w H h a o):a < h.objs.size:=by
 cases o with
 |lst xs=>obtain⟨_,_,_,_,e⟩:=x;exact Heap.lt_size e
 |tup xs=>obtain⟨_,_,_,p⟩:=x;exact p.lt
 |dK kvs=>obtain⟨_,_,_,_,o,_,_,e,_⟩:=x;exact Heap.lt_size e
 |dT kvs=>obtain⟨_,_,_,_,o,_,_,e,_⟩:=x;exact Heap.lt_size e
 |set S n=>obtain⟨o,_,_,_,e,_⟩:=x;exact Heap.lt_size e
 |ins C dx fs=>obtain⟨_,_,_,e,_⟩:=x;exact Heap.lt_size e
 |own y=>obtain⟨_,e⟩:=x;exact Heap.lt_size e
 |xd fs=>obtain⟨_,⟨_,_,_,e,_⟩,_⟩:=x;exact Heap.lt_size e
 |rng lo hi=>obtain⟨_,_,_,e⟩:=x;exact Heap.lt_size e
 |frz ob u=>obtain⟨e,_⟩:=x;exact Heap.lt_size e
 |tbl ps=>exact Heap.lt_size (show h.get? a=some _ from x)
 |met f y=>exact Heap.lt_size (show h.get? a=some _ from x)
 |ext φ=>obtain⟨_,⟨_,e⟩,_⟩:=x;exact Heap.lt_size e
theorem Paired.Cm{α β:Type}{F G:α->β->Prop}:∀{l₁:List α} {l₂:List β},Paired F l₁ l₂->(∀a b,F a b->G a b)->Paired G l₁ l₂
 |_,_,.nil,_=>.nil
 |_,_,.cons r t,f=>.cons (f _ _ r) (Paired.Cm t f)
theorem Paired.imp'{α β:Type}{F G:α->β->Prop}(f:∀a b,F a b->G a b){l₁:List α}{l₂:List β}(r:Paired F l₁ l₂):Paired G l₁ l₂:=Paired.Cm r f
theorem dO.ky(x:dO P w H h a o)(k:∀b u,(b=a\/H b=some (.own a))->h.get? b=some u->h'.get? b=some u)
 (ho:∀b,H b=some (.own a)->H' b=some (.own a)) (ht:∀b xs,H b=some (.tup xs)->H' b=some (.tup xs)):dO P w H' h' a o:=by
 induction o with
 |lst xs=>obtain⟨z,its,n,r,e⟩:=x;exact⟨z,its,n,r,k _ _ (.inl rfl) e⟩
 |tup xs=>obtain⟨z,its,r,ob,e,c⟩:=x;exact⟨z,its,r,ob,k _ _ (.inl rfl) e,c⟩
 |dK kvs=>obtain⟨z,y,vs,r,ob,es,ep,e,c⟩:=x;exact⟨z,y,vs,r,ob,es,ep,k _ _ (.inl rfl) e,c⟩
 |dT kvs=>
  obtain⟨z,y,xs,r,ob,es,ep,e,c⟩:=x
  exact⟨z,y,xs,Paired.Cm r fun p q z=>⟨z.1,ht _ _ z.2.1,z.2.2⟩,ob,es,ep,k _ _ (.inl rfl) e,c⟩
 |set S n=>obtain⟨ob,es,ep,t,e,c⟩:=x;exact⟨ob,es,ep,t,k _ _ (.inl rfl) e,c⟩
 |ins C dx fs=>
  obtain⟨d,z,ne,e,mA,⟨od,es,ep,e2,c⟩,r⟩:=x
  exact⟨ho _ d,z,ne,k _ _ (.inl rfl) e,mA,⟨od,es,ep,k _ _ (.inr d) e2,c⟩,r⟩
 |own y=>obtain⟨ob,e⟩:=x;exact⟨ob,k _ _ (.inl rfl) e⟩
 |xd fs=>obtain⟨mA,⟨od,es,ep,e,c⟩,r⟩:=x;exact⟨mA,⟨od,es,ep,k _ _ (.inl rfl) e,c⟩,r⟩
 |rng lo hi=>obtain⟨t,u,v,e⟩:=x;exact⟨t,u,v,k _ _ (.inl rfl) e⟩
 |frz ob u ih=>obtain⟨e,q⟩:=x;exact⟨k _ _ (.inl rfl) e,ih q⟩
 |tbl ps=>
  have e:h.get? a=some {cls:= .none,data:= .fields ps}:=x
  show h'.get? a=some {cls:= .none,data:= .fields ps}
  exact k a _ (.inl rfl) e
 |met f y=>
  have e:h.get? a=some (PySem.W.methodObj (.ref f) (.ref y)):=x
  show h'.get? a=some (PySem.W.methodObj (.ref f) (.ref y))
  exact k a _ (.inl rfl) e
 |ext φ=>obtain⟨p,⟨o,e⟩,st⟩:=x;exact⟨st _ _ p fun o q=>k _ _ (.inl rfl) q,⟨o,k _ _ (.inl rfl) e⟩,st⟩
theorem HOk.lt(x:HOk P w H h)(e:H a=some o):a < h.objs.size:=(x a o e).lt
theorem HOk.fresh(x:HOk P w H h)(e:h.objs.size<=a):H a=none:=by
 cases q:H a with
 |none=>rfl
 |some u=>exact absurd (qd_ (x.lt q) e) (qe_ _)
theorem HOk.kept(x:HOk P w H h)(k:∀b u,h.get? b=some u->h'.get? b=some u):HOk P w H h':=fun a o e=>
 (x a o e).ky (fun b u _ q=>k b u q) (fun _ q=>q) fun _ _ q=>q
theorem HOk.laid(x:HOk P w H h)(k:∀b u,h.get? b=some u->h'.get? b=some u)(hp:h.objs.size<=a)(new:dO P w (upd H a o) h' a o):HOk P w (upd H a o) h':=fun b u e=>by
 have hn:=x.fresh hp
 by_cases hb:b=a
 · subst hb;rw[bi]at e;cases e;exact new
 · rw[aT hb]at e
   exact(x b u e).ky (fun c v _ q=>k c v q) (fun c q=>by rw[aT (dY q hn)];exact q) fun c xs q=>by rw[aT (dY q hn)];exact q
end
def Rd(H:Hp)(a:Addr)(u:HO):Prop:=H a=some u\/∃o,H a=some (.frz o u)
theorem Rd.ok{P:Program}{w:World}{H:Hp}{h:Heap}{a:Addr}{u:HO}(r:Rd H a u)(x:HOk P w H h):dO P w H h a u:=by
 rcases r with r |⟨o,r⟩
 · exact x a u r
 · obtain⟨_,q⟩:=x a _ r
   exact q
def Mut:Option HO->Prop
 |some (.lst _)=>True
 |some (.dK _)=>True
 |some (.dT _)=>True
 |some (.set _ _)=>True
 |some (.ins _ _ _)=>True
 |some (.ext _)=>True
 |_=>False
section
variable{P:Program}{w:World}{H:Hp}{h h':Heap}{x e:Addr}{o':HO}
theorem HOk.write(ok:HOk P w H h)(mu:Mut (H x))(he:e=x\/H e=some (.own x))(k:∀b u,b≠e->h.get? b=some u->h'.get? b=some u)(heo:∃u,h'.get? e=some u)
 (new:dO P w (upd H x o') h' x o'):HOk P w (upd H x o') h':=fun b u q=>by
 have nown:∀c y,H c=some (.own y)->c≠x:=fun c y r z=>by subst z;rw[r]at mu;exact mu
 have ntup:∀c xs,H c=some (.tup xs)->c≠x:=fun c xs r z=>by subst z;rw[r]at mu;exact mu
 by_cases hb:b=x
 · subst hb;rw[bi]at q;cases q;exact new
 · rw[aT hb]at q
   by_cases hbe:b=e
   · have q':H b=some (.own x):=by
      rcases he with z |z
      · exact absurd (hbe.trans z) hb
      · rw[hbe];exact z
     rw[q]at q';cases q'
     obtain⟨v,hv⟩:=heo
     exact⟨v,by rw[hbe];exact hv⟩
   · refine(ok b u q).ky (fun c v hc r=>k c v ?_ r) (fun c r=>by rw[aT (nown c b r)];exact r) fun c xs r=>by rw[aT (ntup c xs r)];exact r
     rcases hc with rfl |hc
     · exact hbe
     · rintro rfl
       rcases he with z |z
       · exact nown c b hc z
       · rw[hc]at z;cases z;exact hb rfl
end
structure Un (fs ex:List Addr) (H H':Hp) (h h':Heap):Prop where
 keep:∀b o,h.get? b=some o->H b=none->b∉fs->b∉ex->h'.get? b=some o
 slot:∀b o,h.get? b=some o->H b=none->b∈fs->b∉ex->∃sl,h'.get? b=some {o with slots:=sl}
 free:∀b o,h.get? b=some o->H b=none->b∉ex->H' b=none
 there:∀b o,h.get? b=some o->b∉ex->∃o',h'.get? b=some o'
 rD:∀b xs,H b=some (.tup xs)->H' b=some (.tup xs)
 oU:∀b o u,H b=some (.frz o u)->H' b=some (.frz o u)
 qS:∀b ps,H b=some (.tbl ps)->∃more,H' b=some (.tbl (ps++more))
section
variable{fs fs' ex ex':List Addr}{H H1 H2:Hp}{h h1 h2 h':Heap}{a x e:Addr}{o:HO}
theorem Un.any(u:Un fs ex H H1 h h1){b:Addr}{ob:Obj}(q:h.get? b=some ob)(n:H b=none)(hx:b∉ex):∃sl,h1.get? b=some {ob with slots:=sl}:=by
 by_cases hb:b∈fs
 · exact u.slot b ob q n hb hx
 · exact⟨ob.slots,u.keep b ob q n hb hx⟩
theorem Un.kept(k:∀b u,h.get? b=some u->h'.get? b=some u):Un fs ex H H h h':=
 ⟨fun b ob q _ _ _=>k b ob q,fun b ob q _ _ _=>⟨ob.slots,k b ob q⟩,fun _ _ _ n _=>n,fun b ob q _=>⟨ob,k b ob q⟩,fun _ _ q=>q,fun _ _ _ q=>q,fun _ ps q=>⟨#[],by rw[q];simp⟩⟩
theorem Un.refl:Un fs ex H H h h:=Un.kept fun _ _ q=>q
theorem Un.laid(k:∀b u,h.get? b=some u->h'.get? b=some u)(hp:h.objs.size<=a)(hn:H a=none):Un fs ex H (upd H a o) h h' where
 keep:=fun b u q _ _ _=>k b u q
 slot:=fun b u q _ _ _=>⟨u.slots,k b u q⟩
 free:=fun b u q n _=>by rw[aT (Nat.ne_of_lt (qd_ (Heap.lt_size q) hp))];exact n
 there:=fun b u q _=>⟨u,k b u q⟩
 rD:=fun b xs q=>by rw[aT (dY q hn)];exact q
 oU:=fun b u xs q=>by rw[aT (dY q hn)];exact q
 qS:=fun b ps q=>⟨#[],by rw[aT (dY q hn),q];simp⟩
theorem Un.write(mu:Mut (H x))(he:e=x\/H e=some (.own x))(k:∀b u,b≠e->h.get? b=some u->h'.get? b=some u)(heo:∃u,h'.get? e=some u):Un fs ex H (upd H x o) h h':=by
 have hx:∀b,H b=none->b≠x:=fun b n z=>by subst z;rw[n]at mu;exact mu
 have hb:∀b,H b=none->b≠e:=fun b n z=>by
  subst z
  rcases he with r |r
  · exact hx b n r
  · rw[n]at r;cases r
 have hm:∀b u,H b=some u->¬Mut (some u)->b≠x:=fun b u q nm z=>by subst z;rw[q]at mu;exact nm mu
 refine⟨fun b u q n _ _=>k b u (hb b n) q,fun b u q n _ _=>⟨u.slots,k b u (hb b n) q⟩,fun b u q n _=>by rw[aT (hx b n)];exact n,fun b u q _=>?_,
  fun b xs q=>by rw[aT (hm b _ q fun z=>z)];exact q,fun b u xs q=>by rw[aT (hm b _ q fun z=>z)];exact q,fun b ps q=>⟨#[],by rw[aT (hm b _ q fun z=>z),q];simp⟩⟩
 by_cases hbe:b=e
 · subst hbe;exact heo
 · exact⟨u,k b u hbe q⟩
end
def trk(h:Heap)(H:Hp):List Addr:=(List.range h.objs.size).filter fun a=>(H a).isSome
def uS(h:Heap)(H:Hp):Heap:=PySem.W.hideAll h (trk h H)
theorem zl(h:Heap)(H:Hp):(uS h H).objs.size=h.objs.size:=PySem.W.hideAll_size _ _
theorem z9{h:Heap}{H:Hp}{b:Addr}{o:Obj}(e:h.get? b=some o)(n:H b=none):(uS h H).get? b=some o:=
 PySem.W.hideAll_get _ e fun hm=>by
  have q:(H b).isSome=true:=(List.mem_filter.mp hm).2
  rw[n]at q;simp at q
theorem Df{h:Heap}{H:Hp}{b:Addr}{o:Obj}(e:(uS h H).get? b=some o):h.get? b=some o/\H b=none:=by
 have e':h.get? b=some o:=PySem.W.of_hideAll (trk h H) e
 refine⟨e',?_⟩
 cases q:H b with
 |none=>rfl
 |some x=>
  have hm:b∈trk h H:=List.mem_filter.mpr ⟨List.mem_range.mpr (Heap.lt_size e'),by simp [q]⟩
  have z:(uS h H).get? b=none:=PySem.W.hideAll_none (trk h H) hm
  rw[z]at e;cases e
structure Mod (K:PySem.W.Frag) (mg:Str->Option Value) (base:Heap):Prop where
 kin:K.In base
 glob:base.Ns mainGlobals mg
 blt:∃mb,base.Ns builtinsNs mb/\∀x:Str,x≠"__name__"->mb x=bootBuiltins x
 nolimit:base.NoLimit
structure Cx where
 prog:Program
 w:World
 K:PySem.W.Frag
 mg:Str->Option Value
 base:Heap
 A:Around
 N:List Str
 s₀:Shared
 H₀:Hp
 env:Env
 outer:List Env
 stack:List Env
 ex:List Addr
 fn:Str->Bool
 calm:Bool
 pn:List (Addr×Obj)
 xe:Value->Shared->Prop
def frs(l:List Env):List Addr:=l.filterMap (·.frame)
abbrev Cx.fs(X:Cx):List Addr:=frs X.outer
def Vis(sc:Scope)(x:Str):Prop:=sc.names.lookup x=some .local\/sc.names.lookup x=some .cell\/sc.names.lookup x=some .free
def Loc(sc:Scope)(x:Str):Prop:=sc.names.lookup x=some .local\/sc.names.lookup x=some .cell
def Look(env:Env)(h:Heap)(m:Str->Option Value)(x:Str)(u:Value):Prop:=
 (env.kindOf x=some .local/\m x=some u)\/((env.kindOf x=some .cell\/env.kindOf x=some .free)/\∃c,env.cells.lookup x=some c/\h.IsCell c (some u))
structure Cx.Ok (X:Cx):Prop where
 mod:Mod X.K X.mg X.base
 kind:X.env.scope.kind= .function
 glob:X.env.globals=mainGlobals
 blt:X.env.builtins=builtinsNs
 above:X.s₀.heap.objs.size<=X.env.locals
 inj:∀x y c,X.env.cells.lookup x=some c->X.env.cells.lookup y=some c->x=y
 has:∀x,(X.env.kindOf x=some .cell\/X.env.kindOf x=some .free)->∃c,X.env.cells.lookup x=some c
 cab:∀x c,X.fn x=true->X.env.cells.lookup x=some c->X.s₀.heap.objs.size<=c
 hd:X.calm=true->X.A.handled=none
 frames:X.A.frames=some X.stack
 stk:X.stack=X.outer\/(X.stack=X.env :: X.outer/\X.env.frame=some X.env.locals)
 exf:∀b∈X.ex,b≠X.env.locals/\∀x c,X.env.cells.lookup x=some c->c≠b
 bs:∀b o,X.base.get? b=some o->X.s₀.heap.get? b=some o/\X.H₀ b=none
 bsz:X.base.objs.size<=X.s₀.heap.objs.size
 xD:∀b o,X.base.get? b=some o->b∉X.ex
 zf:∀b∈X.ex,b∉X.fs
 nU:X.s₀.heap.FunFrames X.base X.outer
 frf:∀b∈X.fs,X.H₀ b=none
structure Inv (X:Cx) (pins:List (Addr×Obj)) (σ:List (Option V)) (H:Hp) (s:Shared):Prop where
 ok:X.Ok
 os:s.os=X.s₀.os
 bare:AllBare s.gens
 base:Un X.fs X.ex X.H₀ H X.s₀.heap s.heap
 loc:∃m,s.heap.Ns X.env.locals m/\∀(i:Nat) (x:Str) (v:V),X.N[i]? =some x->σ[i]? =some (some v)->Vis X.env.scope x->∃u,RelV v u/\Look X.env s.heap m x u
 cell:∀x c,X.env.cells.lookup x=some c->∃v,s.heap.IsCell c v
 free:H X.env.locals=none
 iC:∀x c,X.env.cells.lookup x=some c->H c=none
 pin:∀p∈X.pn++pins,s.heap.get? p.1=some p.2/\H p.1=none/\p.1≠X.env.locals/\p.1∉X.fs/\∀v,p.2.data≠.cell v
 hok:HOk X.prog X.w H s.heap
 len:σ.length=X.N.length
section
variable{X:Cx}{pins:List (Addr×Obj)}{σ:List (Option V)}{H H':Hp}{s:Shared}{h':Heap}
theorem Cx.Ok.IA(ok:X.Ok){b:Addr}{o:Obj}(e:X.base.get? b=some o):b∉X.fs:=fun hb=>by
 have:=(ok.nU.mem hb).1
 rw[e]at this;cases this
theorem Inv.bs(I:Inv X pins σ H s):∀b o,X.base.get? b=some o->s.heap.get? b=some o/\H b=none:=fun b o e=>
 ⟨I.base.keep b o (I.ok.bs b o e).1 (I.ok.bs b o e).2 (I.ok.IA e) (I.ok.xD b o e),I.base.free b o (I.ok.bs b o e).1 (I.ok.bs b o e).2 (I.ok.xD b o e)⟩
theorem Inv.bk(I:Inv X pins σ H s):∀b o,X.base.get? b=some o->s.heap.get? b=some o:=fun b o e=>(I.bs b o e).1
theorem Inv.mod(I:Inv X pins σ H s):Mod X.K X.mg X.base:=I.ok.mod
theorem Inv.kIn(I:Inv X pins σ H s):X.K.In s.heap:=I.ok.mod.kin.keeps I.bk
theorem Inv.lt(I:Inv X pins σ H s):X.env.locals < s.heap.objs.size:=let ⟨_,hn,_⟩:=I.loc;hn.lt
theorem Inv.sz(I:Inv X pins σ H s):X.s₀.heap.objs.size<=s.heap.objs.size:=Nat.le_trans I.ok.above (Nat.le_of_lt I.lt)
theorem Inv.IT(I:Inv X pins σ H s){a:Addr}(h:s.heap.objs.size<=a):a∉X.fs:=fun hb=>by
 obtain⟨_,o,ho,_⟩:=I.ok.nU.mem hb
 exact absurd (qd_ (Heap.lt_size ho) (Nat.le_trans I.sz h)) (qe_ _)
theorem Inv.cne(I:Inv X pins σ H s):∀x c,X.env.cells.lookup x=some c->c≠X.env.locals:=fun x c e z=>by
 obtain⟨v,o,ho,hd⟩:=I.cell x c e
 obtain⟨m,⟨o',es,ep,ho',hd',_⟩,_⟩:=I.loc
 rw[z,ho']at ho;cases ho;rw[hd']at hd;cases hd
theorem Inv.nU(I:Inv X pins σ H s):s.heap.FunFrames X.base X.outer:=by
 have all:∀(l:List Env),(∀b∈frs l,b∈X.fs)->X.s₀.heap.FunFrames X.base l->s.heap.FunFrames X.base l:=by
  intro l
  induction l with
  |nil=>intro _ _;trivial
  |cons env r ih=>
   intro hs hl
   obtain⟨hk,⟨L,o,hf,hn,ho,hd⟩,hr⟩:=hl
   have hL:L∈X.fs:=hs L (by unfold frs;rw[List.filterMap_cons,hf];exact qI_)
   obtain⟨sl,e⟩:=I.base.slot L o ho (I.ok.frf L hL) hL fun z=>I.ok.zf L z hL
   exact⟨hk,⟨L,_,hf,hn,e,hd⟩,ih (fun b hb=>hs b (by unfold frs;rw[List.filterMap_cons,hf];exact qR_ _ hb)) hr⟩
 exact all X.outer (fun _ hb=>hb) I.ok.nU
theorem Inv.stack(I:Inv X pins σ H s):s.heap.FunFrames X.base X.stack:=by
 rcases I.ok.stk with e |⟨e,hf⟩
 · rw[e];exact I.nU
 · rw[e]
   obtain⟨m,hn,_⟩:=I.loc
   refine .cons (by rw[I.ok.kind];decide) hf hn ?_ I.nU
   exact Heap.get?_none_of_le (Nat.le_trans I.ok.bsz I.ok.above)
theorem Inv.lL(I:Inv X pins σ H s):∀b∈frs X.stack,b∈X.env.locals :: X.fs:=fun b hb=>by
 rcases I.ok.stk with e |⟨e,hf⟩
 · rw[e]at hb;exact qR_ _ hb
 · rw[e]at hb
   unfold frs at hb
   rw[List.filterMap_cons,hf]at hb
   exact hb
theorem Inv.qc(I:Inv X pins σ H s):∀b∈frs X.stack,H b=none:=fun b hb=>by
 rcases qS_.mp (I.lL b hb)with e |hb
 · rw[e];exact I.free
 · obtain⟨_,o,ho,_⟩:=I.ok.nU.mem hb
   exact I.base.free b o ho (I.ok.frf b hb) fun z=>I.ok.zf b z hb
theorem Inv.step{g':Array GenState}{t':Nat}{d':Drawn}{ch:List Addr}(I:Inv X pins σ H s)
 (hch:∀b∈ch,(b∈X.ex\/X.s₀.heap.objs.size<=b)/\b≠X.env.locals/\(∀x c,X.env.cells.lookup x=some c->c≠b)/\∀p∈X.pn++pins,p.1≠b)
 (keep:∀b o,b≠X.env.locals->b∉X.fs->b∉ch->s.heap.get? b=some o->H b=none->h'.get? b=some o)
 (slot:∀b o,b≠X.env.locals->b∈X.fs->b∉ch->s.heap.get? b=some o->H b=none->∃sl,h'.get? b=some {o with slots:=sl}) (free:∀b o,b∉ch->s.heap.get? b=some o->H b=none->H' b=none)
 (there:∀b o,b∉ch->s.heap.get? b=some o->∃o',h'.get? b=some o')
 (rD:∀b xs,H b=some (.tup xs)->H' b=some (.tup xs)) (oU:∀b o u,H b=some (.frz o u)->H' b=some (.frz o u)) (qS:∀b ps,H b=some (.tbl ps)->∃more,H' b=some (.tbl (ps++more)))
 (ns:∀m,s.heap.Ns X.env.locals m->h'.Ns X.env.locals m) (hok:HOk X.prog X.w H' h') (hg:AllBare g'):
 Inv X pins σ H' {s with heap:=h',gens:=g',drawn:=d',toks:=t'}:=by
 have neL:∀b o,X.s₀.heap.get? b=some o->b≠X.env.locals:=fun b o e=>Nat.ne_of_lt (qd_ (Heap.lt_size e) I.ok.above)
 have neC:∀b o,X.s₀.heap.get? b=some o->b∉X.ex->b∉ch:=fun b o e hx hb=>by
  rcases (hch b hb).1 with z |z
  · exact hx z
  · exact absurd (qd_ (Heap.lt_size e) z) (qe_ _)
 have cellK:∀x c,X.env.cells.lookup x=some c->∀v,s.heap.IsCell c v->h'.IsCell c v:=fun x c e v ⟨o,ho,hd⟩=>by
  have nch:c∉ch:=fun z=>(hch c z).2.2.1 x c e rfl
  by_cases hc:c∈X.fs
  · obtain⟨sl,q⟩:=slot c o (I.cne x c e) hc nch ho (I.iC x c e)
    exact⟨_,q,hd⟩
  · exact⟨o,keep c o (I.cne x c e) hc nch ho (I.iC x c e),hd⟩
 refine⟨I.ok,I.os,hg,⟨fun b o e n hb hx=>?_,fun b o e n hb hx=>?_,fun b o e n hx=>?_,fun b o e hx=>?_,fun b xs e=>rD b xs (I.base.rD b xs e),fun b o xs e=>oU b o xs (I.base.oU b o xs e),fun b ps e=>?_⟩,?_,fun x c e=>?_,?_,fun x c e=>?_,fun p hp=>?_,hok,I.len⟩
 · exact keep b o (neL b o e) hb (neC b o e hx) (I.base.keep b o e n hb hx) (I.base.free b o e n hx)
 · obtain⟨sl,e1⟩:=I.base.slot b o e n hb hx
   obtain⟨sl',e2⟩:=slot b _ (neL b o e) hb (neC b o e hx) e1 (I.base.free b o e n hx)
   exact⟨sl',e2⟩
 · obtain⟨o',e1⟩:=I.base.there b o e hx
   exact free b o' (neC b o e hx) e1 (I.base.free b o e n hx)
 · obtain⟨o',e1⟩:=I.base.there b o e hx
   exact there b o' (neC b o e hx) e1
 · obtain⟨m1,e1⟩:=I.base.qS b ps e
   obtain⟨m2,e2⟩:=qS b _ e1
   exact⟨m1++m2,by rw[e2,Array.append_assoc]⟩
 · obtain⟨m,hn,hl⟩:=I.loc
   refine⟨m,ns m hn,fun i x v e1 e2 e3=>?_⟩
   obtain⟨u,r,l⟩:=hl i x v e1 e2 e3
   refine⟨u,r,?_⟩
   rcases l with l |⟨k,c,e,z⟩
   · exact .inl l
   · exact .inr ⟨k,c,e,cellK x c e _ z⟩
 · obtain⟨v,z⟩:=I.cell x c e
   exact⟨v,cellK x c e v z⟩
 · obtain⟨m,⟨o,_,_,ho,_⟩,_⟩:=I.loc
   exact free _ o (fun z=>(hch _ z).2.1 rfl) ho I.free
 · obtain⟨v,o,ho,hd⟩:=I.cell x c e
   exact free c o (fun z=>(hch c z).2.2.1 x c e rfl) ho (I.iC x c e)
 · obtain⟨e,n,ne,nf,d⟩:=I.pin p hp
   have nch:p.1∉ch:=fun z=>(hch p.1 z).2.2.2 p hp rfl
   exact⟨keep p.1 p.2 ne nf nch e n,free p.1 p.2 nch e n,ne,nf,d⟩
theorem Inv.un{t':Nat}(I:Inv X pins σ H s)(u:Un X.fs [] H H' s.heap h')(hok:HOk X.prog X.w H' h'):Inv X pins σ H' {s with heap:=h',toks:=t'}:=by
 obtain⟨m,⟨o,es,ep,ho,r⟩,_⟩:=id I.loc
 obtain⟨sl,hL⟩:=u.any ho I.free (by simp)
 exact I.step (g':=s.gens) (d':=s.drawn) (ch:=[]) (fun _ z=>nomatch z) (fun b o _ hb _ e n=>u.keep b o e n hb (by simp)) (fun b o _ hb _ e n=>u.slot b o e n hb (by simp)) (fun b o _ e n=>u.free b o e n (by simp)) (fun b o _ e=>u.there b o e (by simp)) u.rD u.oU u.qS (fun m' hm=>by
  obtain⟨o',es',ep',ho',r'⟩:=hm
  rw[ho]at ho';cases ho'
  exact⟨_,es',ep',hL,r'⟩) hok I.bare
theorem Inv.call{g':Array GenState}{t':Nat}{d':Drawn}{ch:List Addr}(I:Inv X pins σ H s)(u:Un (frs X.stack) ch H H' s.heap h')(hok:HOk X.prog X.w H' h')(hg:AllBare g')
 (hch:∀b∈ch,(b∈X.ex\/X.s₀.heap.objs.size<=b)/\b≠X.env.locals/\(∀x c,X.env.cells.lookup x=some c->c≠b)/\∀p∈X.pn++pins,p.1≠b):
 Inv X pins σ H' {s with heap:=h',gens:=g',drawn:=d',toks:=t'}:=by
 obtain⟨m,⟨o,es,ep,ho,r⟩,_⟩:=id I.loc
 obtain⟨sl,hL⟩:=u.any ho I.free fun z=>(hch _ z).2.1 rfl
 exact I.step (ch:=ch) hch (fun b o hL hb hc e n=>u.keep b o e n (fun z=>(qS_.mp (I.lL b z)).elim hL hb) hc) (fun b o _ _ hc e n=>u.any e n hc) (fun b o hc e n=>u.free b o e n hc) (fun b o hc e=>u.there b o e hc) u.rD u.oU u.qS (fun m' hm=>by
  obtain⟨o',es',ep',ho',r'⟩:=hm
  rw[ho]at ho';cases ho'
  exact⟨_,es',ep',hL,r'⟩) hok hg
theorem Inv.turned{t':Nat}{it:Addr}(I:Inv X pins σ H s)(k:∀b o,b≠it->s.heap.get? b=some o->h'.get? b=some o)(hn:H it=none)(hL:it≠X.env.locals)
 (h1:it∈X.ex\/X.s₀.heap.objs.size<=it) (h2:∀x c,X.env.cells.lookup x=some c->c≠it) (h3:∀p∈X.pn++pins,p.1≠it):Inv X pins σ H {s with heap:=h',toks:=t'}:=by
 have nit:∀b u,H b=some u->b≠it:=fun b u e z=>by rw[z,hn]at e;cases e
 refine I.step (g':=s.gens) (d':=s.drawn) (ch:=[it]) (fun b hb=>?_) (fun b o _ _ hc e _=>k b o (fun z=>hc (by simp [z])) e) (fun b o _ _ hc e _=>⟨o.slots,k b o (fun z=>hc (by simp [z])) e⟩) (fun _ _ _ _ n=>n)
  (fun b o hc e=>⟨o,k b o (fun z=>hc (by simp [z])) e⟩) (fun _ _ e=>e) (fun _ _ _ e=>e) (fun b ps e=>⟨#[],by rw[e];simp⟩) (fun m hm=>?_) (fun b u e=>?_) I.bare
 · have e:b=it:=by simpa using hb
   subst e
   exact⟨h1,hL,h2,h3⟩
 · obtain⟨o,es,ep,ho,r⟩:=hm
   exact⟨o,es,ep,k _ o (Ne.symm hL) ho,r⟩
 · refine(I.hok b u e).ky (fun c v hc q=>k c v ?_ q) (fun _ q=>q) fun _ _ q=>q
   rcases hc with z |z
   · rw[z];exact nit b u e
   · exact nit c _ z
theorem Inv.tok(I:Inv X pins σ H s)(t:Nat):Inv X pins σ H {s with toks:=t}:=I.un (h':=s.heap) (t':=t) Un.refl I.hok
theorem Inv.kept{t':Nat}(I:Inv X pins σ H s)(k:∀b u,s.heap.get? b=some u->h'.get? b=some u):Inv X pins σ H {s with heap:=h',toks:=t'}:=I.un (Un.kept k) (I.hok.kept k)
theorem Inv.laid{a:Addr}{o:HO}{t':Nat}(I:Inv X pins σ H s)(k:∀b u,s.heap.get? b=some u->h'.get? b=some u)(hp:s.heap.objs.size<=a)(new:dO X.prog X.w (upd H a o) h' a o):
 Inv X pins σ (upd H a o) {s with heap:=h',toks:=t'}:=I.un (Un.laid k hp (I.hok.fresh hp)) (I.hok.laid k hp new)
theorem Inv.write{x e:Addr}{o:HO}{t':Nat}(I:Inv X pins σ H s)(mu:Mut (H x))(he:e=x\/H e=some (.own x))(k:∀b u,b≠e->s.heap.get? b=some u->h'.get? b=some u)(heo:∃u,h'.get? e=some u)
 (new:dO X.prog X.w (upd H x o) h' x o):Inv X pins σ (upd H x o) {s with heap:=h',toks:=t'}:=I.un (Un.write mu he k heo) (I.hok.write mu he k heo new)
theorem Inv.qe{pins':List (Addr×Obj)}(I:Inv X pins σ H s)(h:∀p∈pins',s.heap.get? p.1=some p.2/\H p.1=none/\p.1≠X.env.locals/\p.1∉X.fs/\∀v,p.2.data≠.cell v):Inv X pins' σ H s:=
 ⟨I.ok,I.os,I.bare,I.base,I.loc,I.cell,I.free,I.iC,fun p hp=>(qG_.mp hp).elim (fun z=>I.pin p (qF_ _ z)) (h p),I.hok,I.len⟩
theorem wq{N:List Str}(hN:N.Nodup){i j:Nat}{x:Str}(a:N[i]? =some x)(b:N[j]? =some x):i=j:=by
 obtain⟨h1,e1⟩:=qB_.mp a
 obtain⟨h2,e2⟩:=qB_.mp b
 exact(List.getElem_inj hN).mp (e1.trans e2.symm)
theorem tm{M:Model}{A:Around}{E:Value->Shared->Prop}{i:Nat}{x:Str}{v:V}{u:Value}{Q:Unit->Shared->Prop}(I:Inv X pins σ H s)(hN:X.N.Nodup)(hi:X.N[i]? =some x)(hx:Loc X.env.scope x)(r:RelV v u)
 (h:∀s',Inv X pins (σ.set i (some v)) H s'->(∃a,Heap.SameBut a s.heap s'.heap/\(a=X.env.locals\/X.env.cells.lookup x=some a))->Q () s') (hf:X.fn x=true\/X.env.scope.names.lookup x=some .local:=by first |exact .inl rfl |exact .inr rfl |assumption):wpAny M A (storeName X.env x u) Q E s:=by
 obtain⟨m,hn,hl⟩:=id I.loc
 have hcls:(X.env.scope.kind== .class||(X.env.scope.kind== .module&&X.env.locals !=X.env.globals))=false:=by rw[I.ok.kind];rfl
 have hiσ:i < σ.length:=by rw[I.len];exact(qB_.mp hi).1
 have cne:=I.cne
 have tracked:∀{a:Addr} {h':Heap},(∃o,s.heap.get? a=some o/\H a=none)->Heap.SameBut a s.heap h'->HOk X.prog X.w H h':=fun {a h'} ha hs b ob e=>by
  obtain⟨_,_,hfree⟩:=ha
  refine(I.hok b ob e).ky (fun c w' hc q=>(hs.2 c ?_).trans q) (fun _ q=>q) fun _ _ q=>q
  rintro rfl
  rcases hc with rfl |hc
  · rw[hfree]at e;cases e
  · rw[hfree]at hc;cases hc
 rcases hx with hk |hk
 · refine wpAny_storeName_local hk hn (fun h' hn' hs=>?_) hcls
   obtain⟨oL,_,_,hoL,_⟩:=id hn
   refine h _ ⟨I.ok,I.os,I.bare,⟨fun b o e n hb hx=>?_,fun b o e n hb hx=>?_,I.base.free,fun b o e hx=>?_,I.base.rD,I.base.oU,I.base.qS⟩,⟨_,hn',fun j y v' e1 e2 e3=>?_⟩,fun y c e=>?_,I.free,I.iC,fun p hp=>?_,tracked ⟨oL,hoL,I.free⟩ hs,by simpa using I.len⟩ ⟨_,hs,.inl rfl⟩
   · exact(hs.2 b (Nat.ne_of_lt (qd_ (Heap.lt_size e) I.ok.above))).trans (I.base.keep b o e n hb hx)
   · obtain⟨sl,e1⟩:=I.base.slot b o e n hb hx
     exact⟨sl,(hs.2 b (Nat.ne_of_lt (qd_ (Heap.lt_size e) I.ok.above))).trans e1⟩
   · obtain⟨o',e1⟩:=I.base.there b o e hx
     exact⟨o',(hs.2 b (Nat.ne_of_lt (qd_ (Heap.lt_size e) I.ok.above))).trans e1⟩
   · by_cases hj:j=i
     · subst hj
       rw[hi]at e1;cases e1
       rw[qU_ hiσ]at e2
       cases e2
       exact⟨u,r,.inl ⟨hk,by simp⟩⟩
     · rw[qV_ (Ne.symm hj)]at e2
       obtain⟨u',r',q⟩:=hl j y v' e1 e2 e3
       refine⟨u',r',?_⟩
       rcases q with ⟨k,e⟩ |⟨k,c,e,z⟩
       · refine .inl ⟨k,?_⟩
         have:y≠x:=fun e=>hj (wq hN e1 (e ▸ hi))
         simp [this,e]
       · exact .inr ⟨k,c,e,z.sameBut hs (cne y c e)⟩
   · obtain⟨w',z⟩:=I.cell y c e
     exact⟨w',z.sameBut hs (cne y c e)⟩
   · obtain⟨e,n,ne,nf,d⟩:=I.pin p hp
     exact⟨(hs.2 p.1 ne).trans e,n,ne,nf,d⟩
 · have hfn:X.fn x=true:=by
    rcases hf with z |z
    · exact z
    · rw[z]at hk;cases hk
   obtain⟨c,hc⟩:=I.ok.has x (.inl hk)
   obtain⟨w',z⟩:=I.cell x c hc
   refine wpAny_storeName_cell I.ok.kind hk hc z (fun h' hc' hs=>?_)
   obtain⟨oc,hoc,hocd⟩:=id z
   refine h {s with heap:=h'} ⟨I.ok,I.os,I.bare,⟨fun b o e n hb hx=>?_,fun b o e n hb hx=>?_,I.base.free,fun b o e hx=>?_,I.base.rD,I.base.oU,I.base.qS⟩,⟨m,hn.sameBut hs (Ne.symm (cne x c hc)),fun j y v' e1 e2 e3=>?_⟩,fun y c' e=>?_,I.free,I.iC,fun p hp=>?_,tracked ⟨oc,hoc,I.iC x c hc⟩ hs,by simpa using I.len⟩ ⟨c,hs,.inr hc⟩
   · exact(hs.2 b (Nat.ne_of_lt (qd_ (Heap.lt_size e) (I.ok.cab x c hfn hc)))).trans (I.base.keep b o e n hb hx)
   · obtain⟨sl,e1⟩:=I.base.slot b o e n hb hx
     exact⟨sl,(hs.2 b (Nat.ne_of_lt (qd_ (Heap.lt_size e) (I.ok.cab x c hfn hc)))).trans e1⟩
   · obtain⟨o',e1⟩:=I.base.there b o e hx
     exact⟨o',(hs.2 b (Nat.ne_of_lt (qd_ (Heap.lt_size e) (I.ok.cab x c hfn hc)))).trans e1⟩
   · by_cases hj:j=i
     · subst hj
       rw[hi]at e1;cases e1
       rw[qU_ hiσ]at e2
       cases e2
       exact⟨u,r,.inr ⟨.inl hk,c,hc,hc'⟩⟩
     · rw[qV_ (Ne.symm hj)]at e2
       obtain⟨u',r',q⟩:=hl j y v' e1 e2 e3
       refine⟨u',r',?_⟩
       rcases q with q |⟨k,c',e,z'⟩
       · exact .inl q
       · refine .inr ⟨k,c',e,z'.sameBut hs ?_⟩
         rintro rfl
         exact hj (wq hN e1 (I.ok.inj _ _ _ e hc ▸ hi))
   · by_cases hcc:c'=c
     · subst hcc;exact⟨_,hc'⟩
     · obtain⟨w2,z2⟩:=I.cell y c' e
       exact⟨w2,z2.sameBut hs hcc⟩
   · obtain⟨e,n,ne,nf,d⟩:=I.pin p hp
     refine⟨(hs.2 p.1 ?_).trans e,n,ne,nf,d⟩
     intro q
     rw[q,hoc]at e
     have q':oc=p.2:=Option.some.inj e
     exact d w' (by rw[<-q'];exact hocd)
theorem vd{M:Model}{A:Around}{E:Value->Shared->Prop}{i:Nat}{x:Str}{v:V}{u:Value}{Q:Unit->Shared->Prop}(I:Inv X pins σ H s)(hN:X.N.Nodup)(hi:X.N[i]? =some x)(hx:Loc X.env.scope x)(r:RelV v u)
 (h:∀s',Inv X pins (σ.set i (some v)) H s'->Q () s') (hf:X.fn x=true\/X.env.scope.names.lookup x=some .local:=by first |exact .inl rfl |exact .inr rfl |assumption):wpAny M A (storeName X.env x u) Q E s:=
 tm I hN hi hx r (fun s' I' _=>h s' I') hf
theorem Inv.BI{s':Shared}{ch:List Addr}(I:Inv X pins σ H s)(ho:s'.os=s.os)(u:Un (frs X.stack) ch H H' s.heap s'.heap)(hok:HOk X.prog X.w H' s'.heap)(hg:AllBare s'.gens)
 (hch:∀b∈ch,(b∈X.ex\/X.s₀.heap.objs.size<=b)/\b≠X.env.locals/\(∀x c,X.env.cells.lookup x=some c->c≠b)/\∀p∈X.pn++pins,p.1≠b):Inv X pins σ H' s':=by
 obtain⟨h',g',d',t',o'⟩:=s'
 have e:o'=s.os:=ho
 subst e
 exact I.call (g':=g') (t':=t') (d':=d') u hok hg hch
end
abbrev XK:=Value->Option Addr->Hp->Prop
abbrev St:=List (Option V)
abbrev VK:=V->Hp->Prop
abbrev TE:=St->Hp->VK->Prop
abbrev TT:=St->Hp->(Bool->Hp->Prop)->Prop
abbrev TA:=St->Hp->(List V->Hp->Prop)->Prop
structure Ends where
 nx:St->Hp->Prop
 rt:VK
 bk:St->Hp->Prop:=fun _ _=>False
 ct:St->Hp->Prop:=fun _ _=>False
abbrev TS:=Ends->St->Hp->Prop
def EP(X:Cx)(pins:List (Addr×Obj))(σ:St)(Q:VK)(u:Value)(s':Shared):Prop:=∃v H',Inv X pins σ H' s'/\RelV v u/\Q v H'
def TP(X:Cx)(pins:List (Addr×Obj))(σ:St)(Q:Bool->Hp->Prop)(b:Bool)(s':Shared):Prop:=∃H',Inv X pins σ H' s'/\Q b H'
def AP(X:Cx)(pins:List (Addr×Obj))(σ:St)(Q:List V->Hp->Prop)(us:List Value)(s':Shared):Prop:=∃vs H',Inv X pins σ H' s'/\Vals vs us/\Q vs H'
def SP(X:Cx)(pins:List (Addr×Obj))(D:Ends)(f:Flow)(s':Shared):Prop:=
 match f with
 | .next=>∃σ' H',Inv X pins σ' H' s'/\D.nx σ' H'
 | .brk=>∃σ' H',Inv X pins σ' H' s'/\D.bk σ' H'
 | .cont=>∃σ' H',Inv X pins σ' H' s'/\D.ct σ' H'
 | .ret u=>∃v σ' H',Inv X pins σ' H' s'/\RelV v u/\D.rt v H'
def PE(X:Cx)(e:Expr)(t:TE):Prop:=
 ∀(pins:List (Addr×Obj)) (s:Shared) (σ:St) (H:Hp) (Q:VK),Inv X pins σ H s->t σ H Q->wpAny (model X.prog X.w) X.A (eval e X.env) (EP X pins σ Q) X.xe s
def PT(X:Cx)(e:Expr)(t:TT):Prop:=
 ∀(pins:List (Addr×Obj)) (s:Shared) (σ:St) (H:Hp) (Q:Bool->Hp->Prop),Inv X pins σ H s->t σ H Q->wpAny (model X.prog X.w) X.A (isTrue e X.env (eval e X.env)) (TP X pins σ Q) X.xe s
def PW(X:Cx)(e:Expr)(t:TT):Prop:=
 ∀(whole:Sem Value) (pins:List (Addr×Obj)) (s:Shared) (σ:St) (H:Hp) (Q:Bool->Hp->Prop),Inv X pins σ H s->t σ H Q->wpAny (model X.prog X.w) X.A (isTrue e X.env whole) (TP X pins σ Q) X.xe s
theorem PW.pt{X:Cx}{e:Expr}{t:TT}(h:PW X e t):PT X e t:=h _
def PA(X:Cx)(es:List Expr)(t:TA):Prop:=
 ∀(pos:Pos) (pins:List (Addr×Obj)) (s:Shared) (σ:St) (H:Hp) (Q:List V->Hp->Prop),Inv X pins σ H s->t σ H Q->wpAny (model X.prog X.w) X.A (spliced (backTo pos (starEach es X.env))) (AP X pins σ Q) X.xe s
def PS(X:Cx)(st:Stmt)(t:TS):Prop:=
 ∀(pins:List (Addr×Obj)) (s:Shared) (σ:St) (H:Hp) (D:Ends),Inv X pins σ H s->t D σ H->wpAny (model X.prog X.w) X.A (exec st X.env) (SP X pins D) X.xe s
def PSs(X:Cx)(st:List Stmt)(t:TS):Prop:=
 ∀(pins:List (Addr×Obj)) (s:Shared) (σ:St) (H:Hp) (D:Ends),Inv X pins σ H s->t D σ H->wpAny (model X.prog X.w) X.A (execs st X.env) (SP X pins D) X.xe s
theorem thn{α:Type}{t:Sem α}{Q Q':α->Shared->Prop}{M:Model}{A:Around}{E:Value->Shared->Prop}{s:Shared}(h:wpAny M A t Q E s)(hQ:∀a s,Q a s->Q' a s):wpAny M A t Q' E s:=wpAny_mono h hQ fun _ _ x=>x
section
variable{X:Cx}
def Im(i:Nat):TE:=fun σ H Q=>∃v,σ[i]? =some (some v)/\Q v H
def tC(v:V):TE:=fun _ H Q=>Q v H
theorem Em{i:Nat}{x:Str}{pos:Pos}(hN:X.N[i]? =some x)(hv:Vis X.env.scope x)(hd:(x==("__debug__":Str))=false:=by decide)(hcd:(x==("__classdict__":Str))=false:=by decide):PE X (.Name x pos) (Im i):=by
 intro pins s σ H Q I h
 obtain⟨v,e,h⟩:=h
 obtain⟨m,hn,hl⟩:=I.loc
 obtain⟨u,r,l⟩:=hl i x v hN e hv
 have fin:EP X pins σ Q u s:=⟨v,H,I,r,h⟩
 rcases l with ⟨hk,hm⟩ |⟨hk,c,hc,hcell⟩
 · exact wpAny_Name (wpAny_loadName_local I.ok.kind hk hn hm fin) hd
 · rcases hk with hk |hk
   · exact wpAny_Name (wpAny_loadName_cell I.ok.kind hk hc hcell fin) hd
   · exact wpAny_Name (wpAny_loadName_free I.ok.kind hk hc hcell fin hcd) hd
theorem Es{i j pos}:PE X (.Constant (.int i) j pos) (tC (.int i)):=fun _ _ _ H _ I h=>wpAny_Constant_int ⟨.int i,H,I.tok _,⟨_,rfl⟩,h⟩
theorem HY{b j pos}:PE X (.Constant (.bool b) j pos) (tC (.bl b)):=fun _ _ _ H _ I h=>Constant_bool ⟨.bl b,H,I,rfl,h⟩
theorem Ey{j pos}:PE X (.Constant .none j pos) (tC .non):=fun _ _ _ H _ I h=>Constant_none ⟨.non,H,I,rfl,h⟩
theorem D9{x j pos}:PE X (.Constant (.str x) j pos) (tC (.str x)):=fun _ _ _ H _ I h=>Calls.Constant_str ⟨.str x,H,I.tok _,⟨_,rfl⟩,h⟩
def Gl(X:Cx)(x:Str):Prop:=X.env.kindOf x=some .globalImplicit
theorem mr{E:Value->Shared->Prop}{pins:List (Addr×Obj)}{s:Shared}{σ:St}{H:Hp}{x:Str}{u:Value}{pos:Pos}{Q:Value->Shared->Prop}(I:Inv X pins σ H s)(hg:Gl X x)(hm:X.mg x=some u)(h:Q u s)
 (hd:(x==("__debug__":Str))=false:=by decide):wpAny (model X.prog X.w) X.A (eval (.Name x pos) X.env) Q E s:=
 Calls.Name_function_global I.ok.kind hg (Calls.loadGlobal_global (by rw[I.ok.glob];exact I.mod.glob.keeps I.bk) hm h) hd
theorem o9{E:Value->Shared->Prop}{pins:List (Addr×Obj)}{s:Shared}{σ:St}{H:Hp}{x:Str}{u:Value}{pos:Pos}{Q:Value->Shared->Prop}(I:Inv X pins σ H s)(hg:Gl X x)(hm:X.mg x=none)(hv:bootBuiltins x=some u)(h:Q u s)
 (hn:x≠"__name__":=by decide) (hd:(x==("__debug__":Str))=false:=by decide):wpAny (model X.prog X.w) X.A (eval (.Name x pos) X.env) Q E s:=by
 obtain⟨mb,h1,h2⟩:=I.mod.blt
 exact Calls.Name_function_global I.ok.kind hg (Calls.loadGlobal_builtin (by rw[I.ok.glob];exact I.mod.glob.keeps I.bk) hm (by rw[I.ok.blt];exact h1.keeps I.bk) ((h2 x hn).trans hv) h) hd
theorem Dd{x:Str}{v:V}{u:Value}{pos:Pos}(hg:Gl X x)(hm:X.mg x=some u)(r:RelV v u)(hd:(x==("__debug__":Str))=false:=by decide):PE X (.Name x pos) (tC v):=
 fun _ _ _ H _ I h=>mr I hg hm ⟨v,H,I,r,h⟩ hd
theorem Cb{x:Str}{v:V}{u:Value}{pos:Pos}(hg:Gl X x)(hm:X.mg x=none)(hv:bootBuiltins x=some u)(r:RelV v u)(hn:x≠"__name__":=by decide)(hd:(x==("__debug__":Str))=false:=by decide):PE X (.Name x pos) (tC v):=
 fun _ _ _ H _ I h=>o9 I hg hm hv ⟨v,H,I,r,h⟩ hn hd
variable{a b:Expr}{ta tb:TE}{pos:Pos}
def PC(X:Cx)(op:CmpOp)(a b:Expr)(t:TE):Prop:=
 ∀(pins:List (Addr×Obj)) (s:Shared) (σ:St) (H:Hp) (Q:VK),Inv X pins σ H s->t σ H Q->
  wpAny (model X.prog X.w) X.A (eval a X.env) (fun v s₁=>wpAny (model X.prog X.w) X.A (eval b X.env) (fun u s₂=>wpAny (model X.prog X.w) X.A (compareOp op v u) (EP X pins σ Q) X.xe s₂) X.xe s₁) X.xe s
theorem vJ(b:Expr){op:CmpOp}(h:op≠.In)(h2:op≠.NotIn):behindInMarks op b=false:=by
 have e1:(op==CmpOp.In)=false:=by cases op <;> first |rfl |exact absurd rfl h
 have e2:(op==CmpOp.NotIn)=false:=by cases op <;> first |rfl |exact absurd rfl h2
 cases b <;> simp [behindInMarks,e1,e2]
def Iw(ta:TE):TE:=fun σ H Q=>ta σ H fun x H1=>Q (.bl (decide (x= .non))) H1
def HW(ta:TE):TE:=fun σ H Q=>ta σ H fun x H1=>Q (.bl (!decide (x= .non))) H1
theorem RelV.wF{x:V}{v:Value}(r:RelV x v):(v==Value.none)=decide (x= .non):=by
 cases x with
 |non=>cases r;rfl
 |bl _=>cases r;rfl
 |int _=>obtain⟨t,rfl⟩:=r;rfl
 |str _=>obtain⟨t,rfl⟩:=r;rfl
 |byt _=>obtain⟨t,rfl⟩:=r;rfl
 |flt _=>obtain⟨t,rfl⟩:=r;rfl
 |ref _=>cases r;rfl
 |ty _=>cases r;rfl
theorem Bi{j pos'}(ha:PE X a ta):PC X .Is a (.Constant .none j pos') (Iw ta):=by
 intro pins s σ H Q I h
 refine thn (ha pins s σ H _ I h) fun v s1 ⟨x,H1,I1,r1,q1⟩=>?_
 exact Constant_none (is_none_gen ⟨.bl _,H1,I1,by rw[r1.wF];rfl,q1⟩)
theorem Cw{j pos'}(ha:PE X a ta):PC X .IsNot a (.Constant .none j pos') (HW ta):=by
 intro pins s σ H Q I h
 refine thn (ha pins s σ H _ I h) fun v s1 ⟨x,H1,I1,r1,q1⟩=>?_
 exact Constant_none (isnot_none_gen ⟨.bl _,H1,I1,by rw[r1.wF];rfl,q1⟩)
def tB(t:TE):TT:=fun σ H Q=>t σ H fun x H1=>∃c,x= .bl c/\Q c H1
theorem Gr{op:CmpOp}{t:TE}(h:PC X op a b t)(h1:behindInMarks op b=false:=by first |exact vJ _ (by decide) (by decide) |rfl):PE X (.Compare a [op] [b] pos) t:=fun pins s σ H Q I hw=>wpAny_Compare1 (h pins s σ H Q I hw) h1
theorem Bs{op:CmpOp}{t:TE}(h:PC X op a b t)(h1:behindInMarks op b=false:=by first |exact vJ _ (by decide) (by decide) |rfl):PT X (.Compare a [op] [b] pos) (tB t):=by
 intro pins s σ H Q I hw
 refine wpAny_isTrue_Compare1 (thn (h pins s σ H _ I hw) fun v s1 h1=>thn h1 fun u s2 h2=>thn h2 fun c s3 ⟨x,H1,I1,r1,q1⟩=>?_) h1
 obtain⟨d,rfl,q⟩:=q1
 cases r1
 exact wpAny_truthy_bool ⟨H1,I1,q⟩
variable{tA tB':TT}{rest:List Expr}
def wc(t u:TT):TT:=fun σ H Q=>t σ H fun c H1=>if c=true then u σ H1 Q else Q false H1
def tOr(t u:TT):TT:=fun σ H Q=>t σ H fun c H1=>if c=true then Q true H1 else u σ H1 Q
def iD(t:TT):TT:=fun σ H Q=>t σ H fun c H1=>Q (!c) H1
theorem CC(ha:PT X a tA):PW X (.BoolOp .And [a] pos) tA:=by
 intro wh pins s σ H Q I h
 refine isTrue_and (thn (ha pins s σ H Q I h) fun c s1 e=>?_)
 cases c with
 |true=>exact isTrue_and_nil e
 |false=>exact e
theorem EH(ha:PT X a tA):PW X (.BoolOp .Or [a] pos) tA:=by
 intro wh pins s σ H Q I h
 refine isTrue_or (thn (ha pins s σ H Q I h) fun c s1 e=>?_)
 cases c with
 |false=>exact isTrue_or_nil e
 |true=>exact e
theorem FQ(ha:PT X a tA)(hb:PW X (.BoolOp .And (b :: rest) pos) tB'):PW X (.BoolOp .And (a :: b :: rest) pos) (wc tA tB'):=by
 intro wh pins s σ H Q I h
 refine isTrue_and (thn (ha pins s σ H _ I h) fun c s1 ⟨H1,I1,q1⟩=>?_)
 cases c with
 |true=>exact hb wh pins s1 σ H1 Q I1 q1
 |false=>exact⟨H1,I1,q1⟩
theorem Ht(ha:PT X a tA)(hb:PW X (.BoolOp .Or (b :: rest) pos) tB'):PW X (.BoolOp .Or (a :: b :: rest) pos) (tOr tA tB'):=by
 intro wh pins s σ H Q I h
 refine isTrue_or (thn (ha pins s σ H _ I h) fun c s1 ⟨H1,I1,q1⟩=>?_)
 cases c with
 |true=>exact⟨H1,I1,q1⟩
 |false=>exact hb wh pins s1 σ H1 Q I1 q1
theorem Fs(ha:PT X a tA):PT X (.UnaryOp .Not a pos) (iD tA):=by
 intro pins s σ H Q I h
 exact isTrue_not (ha pins s σ H (fun c H1=>Q (!c) H1) I h)
def GZ(ta tb:TE):TE:=fun σ H Q=>ta σ H fun x H1=>∃c,x= .bl c/\if c=true then tb σ H1 Q else Q (.bl false) H1
def Ij(ta tb:TE):TE:=fun σ H Q=>ta σ H fun x H1=>∃c,x= .bl c/\if c=true then Q (.bl true) H1 else tb σ H1 Q
def HF(ta:TE):TE:=fun σ H Q=>ta σ H fun x H1=>∃c,x= .bl c/\Q (.bl (!c)) H1
theorem FH{op}{t:TE}(h:PE X a t):PE X (.BoolOp op [a] pos) t:=fun pins s σ H Q I hw=>BoolOp_one (h pins s σ H Q I hw)
theorem Ex(ha:PE X a ta)(hb:PE X (.BoolOp .And (b :: rest) pos) tb):PE X (.BoolOp .And (a :: b :: rest) pos) (GZ ta tb):=by
 intro pins s σ H Q I h
 refine BoolOp_and (thn (ha pins s σ H _ I h) fun v s1 ⟨x,H1,I1,r1,q1⟩=>?_)
 obtain⟨c,rfl,q1⟩:=q1
 cases r1
 refine wpAny_truthy_bool ?_
 cases c with
 |true=>exact hb pins s1 σ H1 Q I1 q1
 |false=>exact⟨.bl false,H1,I1,rfl,q1⟩
theorem Ha(ha:PE X a ta)(hb:PE X (.BoolOp .Or (b :: rest) pos) tb):PE X (.BoolOp .Or (a :: b :: rest) pos) (Ij ta tb):=by
 intro pins s σ H Q I h
 refine BoolOp_or (thn (ha pins s σ H _ I h) fun v s1 ⟨x,H1,I1,r1,q1⟩=>?_)
 obtain⟨c,rfl,q1⟩:=q1
 cases r1
 refine wpAny_truthy_bool ?_
 cases c with
 |false=>exact hb pins s1 σ H1 Q I1 q1
 |true=>exact⟨.bl true,H1,I1,rfl,q1⟩
theorem EC(ha:PE X a ta):PE X (.UnaryOp .Not a pos) (HF ta):=by
 intro pins s σ H Q I h
 refine UnaryOp_ (thn (ha pins s σ H _ I h) fun v s1 ⟨x,H1,I1,r1,q1⟩=>?_)
 obtain⟨c,rfl,q1⟩:=q1
 cases r1
 exact not_of (wpAny_truthy_bool ⟨.bl (!c),H1,I1,rfl,q1⟩)
def tIf(t:TT)(ta tb:TE):TE:=fun σ H Q=>t σ H fun c H1=>if c=true then ta σ H1 Q else tb σ H1 Q
theorem Ay{c:Expr}(hc:PT X c tA)(ha:PE X a ta)(hb:PE X b tb):PE X (.IfExp c a b pos) (tIf tA ta tb):=by
 intro pins s σ H Q I h
 refine wpAny_IfExp (thn (hc pins s σ H _ I h) fun d s1 ⟨H1,I1,q1⟩=>?_)
 cases d with
 |true=>exact ha pins s1 σ H1 Q I1 q1
 |false=>exact hb pins s1 σ H1 Q I1 q1
end
def SqL(K:PySem.W.Frag)(H:Hp)(a:Addr)(xs:List V):Prop:=
 Rd H a (.lst xs)\/
  ∃(o:Obj) (its:Array Value) (n:Nat),K.lookup a=some o/\o.cls= .type "list"/\o.dict=none/\o.data= .seq its n/\its.size<=sizeLine/\Vals xs its.toList
def SqT(K:PySem.W.Frag)(H:Hp)(a:Addr)(xs:List V):Prop:=
 Rd H a (.tup xs)\/
  ∃(o:Obj) (its:Array Value) (n:Nat),K.lookup a=some o/\o.cls= .type "tuple"/\o.data= .seq its n/\its.size<=sizeLine/\Vals xs its.toList
def IC:Value->Option V
 | .none=>some .non
 | .bool b=>some (.bl b)
 | .int i _=>some (.int i)
 | .str x _=>some (.str x)
 | .bytes b _=>some (.byt b)
 | .float b _=>some (.flt b)
 | .ref a=>some (.ref a)
 | .type n=>some (.ty n)
 |_=>none
theorem RelV.abs{x:V}{u:Value}(r:RelV x u):IC u=some x:=by
 cases x with
 |non=>cases r;rfl
 |bl _=>cases r;rfl
 |int _=>obtain⟨t,rfl⟩:=r;rfl
 |str _=>obtain⟨t,rfl⟩:=r;rfl
 |byt _=>obtain⟨t,rfl⟩:=r;rfl
 |flt _=>obtain⟨t,rfl⟩:=r;rfl
 |ref _=>cases r;rfl
 |ty _=>cases r;rfl
theorem RelV.inj{x y:V}{u:Value}(r:RelV x u)(q:RelV y u):x=y:=Option.some.inj (r.abs.symm.trans q.abs)
theorem Vals.inj:∀{xs ys:List V} {us:List Value},Vals xs us->Vals ys us->xs=ys
 |_,_,_,.nil,.nil=>rfl
 |_,_,_,.cons r t,.cons r' t'=>by rw[r.inj r',Vals.inj t t']
section
variable{X:Cx}{pins:List (Addr×Obj)}{σ:St}{H:Hp}{s:Shared}{a:Addr}{xs ys:List V}
theorem SqL.of{K:PySem.W.Frag}(h:H a=some (.lst xs)):SqL K H a xs:= .inl (.inl h)
theorem SqT.of{K:PySem.W.Frag}(h:H a=some (.tup xs)):SqT K H a xs:= .inl (.inl h)
theorem Inv.list(I:Inv X pins σ H s)(h:SqL X.K H a xs):∃its:List Value,Vals xs its/\PlainL s.heap a its.toArray/\xs.length<=sizeLine:=by
 rcases h with h |⟨o,its,n,hk,hc,hd,hs,hz,r⟩
 · obtain⟨z,its,n,r,e⟩:=h.ok I.hok
   exact⟨its,r,⟨_,n,e,rfl,rfl,rfl⟩,z⟩
 · refine⟨its.toList,r,⟨o,n,I.kIn a o hk,hc,hd,by simpa using hs⟩,?_⟩
   have e:=r.length
   simp only[Array.length_toList]at e
   omega
theorem Inv.tuple(I:Inv X pins σ H s)(h:SqT X.K H a xs):∃its:List Value,Vals xs its/\IsTup s.heap a its.toArray/\xs.length<=sizeLine:=by
 rcases h with h |⟨o,its,n,hk,hc,hs,hz,r⟩
 · obtain⟨z,its,r,p⟩:=h.ok I.hok
   exact⟨its,r,p,z⟩
 · refine⟨its.toList,r,⟨o,I.kIn a o hk,hc,n,by simpa using hs⟩,?_⟩
   have e:=r.length
   simp only[Array.length_toList]at e
   omega
theorem Inv.lH(I:Inv X pins σ H s)(h:SqL X.K H a xs)(h':SqL X.K H a ys):xs=ys:=by
 obtain⟨its,r,⟨o,n,e,_,_,d⟩,_⟩:=I.list h
 obtain⟨its',r',⟨o',n',e',_,_,d'⟩,_⟩:=I.list h'
 rw[e]at e';cases e'
 rw[d]at d'
 injection d' with d1 _
 have:its=its':=by simpa using congrArg Array.toList d1
 subst this
 exact r.inj r'
theorem Inv.mx(I:Inv X pins σ H s)(h:SqT X.K H a xs)(h':SqT X.K H a ys):xs=ys:=by
 obtain⟨its,r,⟨o,e,_,n,d⟩,_⟩:=I.tuple h
 obtain⟨its',r',⟨o',e',_,n',d'⟩,_⟩:=I.tuple h'
 rw[e]at e';cases e'
 rw[d]at d'
 injection d' with d1 _
 have:its=its':=by simpa using congrArg Array.toList d1
 subst this
 exact r.inj r'
end
abbrev Cx.q8(X:Cx)(E:Value->Shared->Prop):Cx:={X with xe:=E}
abbrev Cx.nox(X:Cx):Cx:=X.q8 fun _ _=>False
theorem Cx.Ok.q8{X:Cx}(ok:X.Ok)(E:Value->Shared->Prop):(X.q8 E).Ok:=
 ⟨ok.mod,ok.kind,ok.glob,ok.blt,ok.above,ok.inj,ok.has,ok.cab,ok.hd,ok.frames,ok.stk,ok.exf,ok.bs,ok.bsz,ok.xD,ok.zf,ok.nU,ok.frf⟩
theorem Cx.Ok.jh{X:Cx}{E:Value->Shared->Prop}(ok:(X.q8 E).Ok):X.Ok:=
 ⟨ok.mod,ok.kind,ok.glob,ok.blt,ok.above,ok.inj,ok.has,ok.cab,ok.hd,ok.frames,ok.stk,ok.exf,ok.bs,ok.bsz,ok.xD,ok.zf,ok.nU,ok.frf⟩
section
variable{X:Cx}{pins:List (Addr×Obj)}{σ:St}{H:Hp}{s:Shared}{E:Value->Shared->Prop}
theorem Inv.q8(I:Inv X pins σ H s)(E:Value->Shared->Prop):Inv (X.q8 E) pins σ H s:=⟨I.ok.q8 E,I.os,I.bare,I.base,I.loc,I.cell,I.free,I.iC,I.pin,I.hok,I.len⟩
theorem Inv.jh(I:Inv (X.q8 E) pins σ H s):Inv X pins σ H s:=⟨I.ok.jh,I.os,I.bare,I.base,I.loc,I.cell,I.free,I.iC,I.pin,I.hok,I.len⟩
theorem SP.jh{D:Ends}{f:Flow}{s':Shared}(h:SP (X.q8 E) pins D f s'):SP X pins D f s':=by
 cases f with
 |next=>obtain⟨σ',H',I,q⟩:=h;exact⟨σ',H',I.jh,q⟩
 |brk=>obtain⟨σ',H',I,q⟩:=h;exact⟨σ',H',I.jh,q⟩
 |cont=>obtain⟨σ',H',I,q⟩:=h;exact⟨σ',H',I.jh,q⟩
 |ret u=>obtain⟨v,σ',H',I,r,q⟩:=h;exact⟨v,σ',H',I.jh,r,q⟩
theorem PSs.nox{st:List Stmt}{t:TS}(h:PSs X.nox st t):PSs X st t:=fun pins s σ H D I hw=>
 wpAny_mono (h pins s σ H D (I.q8 _) hw) (fun _ _ q=>q.jh) fun _ _ z=>False.elim z
end
section
variable{X:Cx}{st:Stmt}{rest:List Stmt}{t u:TS}{e:Expr}{te:TE}{pos:Pos}
def Hw:TS:=fun D σ H=>D.nx σ H
def Iu(t u:TS):TS:=fun D σ H=>t {D with nx:=u D} σ H
theorem Cf:PSs X [] Hw:=fun _ _ σ H _ I h=>wpAny_execs_nil ⟨σ,H,I,h⟩
theorem Aw(h1:PS X st t)(h2:PSs X rest u):PSs X (st :: rest) (Iu t u):=by
 intro pins s σ H D I h
 refine wpAny_execs_cons (thn (h1 pins s σ H {D with nx:=u D} I h) fun f s1 q=>?_)
 cases f with
 |next=>
  obtain⟨σ',H',I',q⟩:=q
  exact h2 pins s1 σ' H' D I' q
 |ret v=>exact q
 |brk=>exact q
 |cont=>exact q
theorem CS(h1:PS X st t):PSs X [st] t:=by
 intro pins s σ H D I h
 refine wpAny_execs_cons (thn (h1 pins s σ H D I h) fun f s1 q=>?_)
 cases f with
 |next=>exact wpAny_execs_nil q
 |ret v=>exact q
 |brk=>exact q
 |cont=>exact q
theorem Inv.quiet{pins:List (Addr×Obj)}{σ:St}{H:Hp}{s:Shared}(I:Inv X pins σ H s):interactive X.env=false:=by simp [interactive,I.ok.kind]
def HP(te:TE):TS:=fun D σ H=>te σ H fun _ H1=>D.nx σ H1
theorem DA(he:PE X e te)(hs:swapsWith e none pos.line X.env=pure false:=by rfl):PS X (.Expr e pos) (HP te):=by
 intro pins s σ H D I h
 exact wpAny_Expr_any (thn (he pins s σ H _ I h) fun v s1 ⟨x,H1,I1,r1,q1⟩=>⟨σ,H1,I1,q1⟩) I.quiet hs
def IV(te:TE):TS:=fun D σ H=>te σ H D.rt
theorem Gq(he:PE X e te):PS X (.Return (some e) pos) (IV te):=by
 intro pins s σ H D I h
 exact wpAny_Return_some (thn (he pins s σ H _ I h) fun v s1 ⟨x,H1,I1,r1,q1⟩=>⟨x,σ,H1,I1,r1,q1⟩)
def IR(c:TT)(t u:TS):TS:=fun D σ H=>c σ H fun b H1=>if b=true then t D σ H1 else u D σ H1
theorem HB{c:Expr}{a b:List Stmt}{tc:TT}(hc:PT X c tc)(ha:PSs X a t)(hb:PSs X b u):PS X (.If c a b pos) (IR tc t u):=by
 intro pins s σ H D I h
 refine wpAny_If (thn (hc pins s σ H _ I h) fun d s1 ⟨H1,I1,q1⟩=>?_)
 cases d with
 |true=>exact ha pins s1 σ H1 D I1 q1
 |false=>exact hb pins s1 σ H1 D I1 q1
end
abbrev TG:=V->St->Hp->(St->Hp->Prop)->Prop
abbrev TGs:=List V->St->Hp->(St->Hp->Prop)->Prop
def PG(X:Cx)(target:Expr)(t:TG):Prop:=
 ∀(pins:List (Addr×Obj)) (s:Shared) (σ:St) (H:Hp) (v:V) (u:Value) (Q:St->Hp->Prop),Inv X pins σ H s->RelV v u->t v σ H Q->
  wpAny (model X.prog X.w) X.A (assign target X.env u) (fun _ s'=>∃σ' H',Inv X pins σ' H' s'/\Q σ' H') X.xe s
def PGs(X:Cx)(ts:List Expr)(t:TGs):Prop:=
 ∀(pins:List (Addr×Obj)) (s:Shared) (σ:St) (H:Hp) (vs:List V) (us:List Value) (Q:St->Hp->Prop),Inv X pins σ H s->Vals vs us->t vs σ H Q->
  wpAny (model X.prog X.w) X.A (assignInOrder ((assignEach ts X.env).map (·.2)) us) (fun _ s'=>∃σ' H',Inv X pins σ' H' s'/\Q σ' H') X.xe s
abbrev Ci:=V->V->V->Hp->(Hp->Prop)->Prop
def vt(X:Cx)(t:Ci):Prop:=
 ∀(pins:List (Addr×Obj)) (s:Shared) (σ:St) (H:Hp) (o i v:V) (ov iv u:Value) (Q:Hp->Prop),Inv X pins σ H s->RelV o ov->RelV i iv->RelV v u->t o i v H Q->
  wpAny (model X.prog X.w) X.A (setItem ov iv u) (fun _ s'=>∃H',Inv X pins σ H' s'/\Q H') X.xe s
section
variable{X:Cx}{pos:Pos}
def D2(i:Nat):TG:=fun v σ H Q=>Q (σ.set i (some v)) H
theorem um{i:Nat}{x:Str}(hN:X.N.Nodup)(hi:X.N[i]? =some x)(hx:Loc X.env.scope x)(hf:X.fn x=true\/X.env.scope.names.lookup x=some .local:=by first |exact .inl rfl |exact .inr rfl |assumption):PG X (.Name x pos) (D2 i):=by
 intro pins s σ H v u Q I r h
 exact wpAny_assign_Name (vd I hN hi hx r (fun s' I'=>⟨_,H,I',h⟩) hf)
def IQ:TGs:=fun vs σ H Q=>vs=[]/\Q σ H
def GX(t:TG)(u:TGs):TGs:=fun vs σ H Q=>∃v r,vs=v :: r/\t v σ H fun σ' H'=>u r σ' H' Q
theorem Dy:PGs X [] IQ:=by
 intro pins s σ H vs us Q I r h
 obtain⟨e,h⟩:=h
 subst e
 cases r
 exact assignInOrder_nil ⟨σ,H,I,h⟩
theorem BU{e:Expr}{es:List Expr}{t:TG}{u:TGs}(h1:PG X e t)(h2:PGs X es u)
 (hs:(assignEach (e :: es) X.env).map (·.2)=assign e X.env :: (assignEach es X.env).map (·.2):=by rfl):PGs X (e :: es) (GX t u):=by
 intro pins s σ H vs us Q I r h
 obtain⟨v,vr,e1,h⟩:=h
 subst e1
 cases r with
 |cons r rr=>
  rw[hs]
  refine assignInOrder_cons (thn (h1 pins s σ H _ _ _ I r h) fun _ s1 ⟨σ1,H1,I1,q1⟩=>?_)
  exact h2 pins s1 σ1 H1 _ _ Q I1 rr q1
def Io(K:PySem.W.Frag)(n:Nat)(t:TGs):TG:=fun v σ H Q=>∃a xs,v= .ref a/\SqT K H a xs/\xs.length=n/\t xs σ H Q
theorem EL{es:List Expr}{k:Nat}{t:TGs}{n:Nat}(hc:X.calm=true)(h:PGs X es t)
 (hn:(assignEach es X.env).length=n:=by rfl) (hst:(assignEach es X.env).findIdx? (·.1)=none:=by rfl):PG X (.Tuple es k pos) (Io X.K n t):=by
 intro pins s σ H v u Q I r hw
 obtain⟨a,xs,e1,hq,hl,hw⟩:=hw
 subst e1
 cases r
 obtain⟨its,rv,ht,hz⟩:=I.tuple hq
 refine assign_Tuple_tuple (I.ok.hd hc) ht (by simp [hn,<-hl,rv.length]) hst fun h' hx=>?_
 have I1:Inv X pins σ H {s with heap:=h'}:=I.kept (t':=s.toks) fun b o e=>hx b o (Nat.ne_of_lt (Heap.lt_size e)) e
 exact h pins _ σ H xs _ Q I1 (by simpa using rv) hw
def IG(to ti:TE)(t:Ci):TG:=fun v σ H Q=>to σ H fun o H1=>ti σ H1 fun i H2=>t o i v H2 fun H3=>Q σ H3
theorem Ei{o i:Expr}{to ti:TE}{t:Ci}(ho:PE X o to)(hi:PE X i ti)(hs:vt X t)
 (ha:∀v,assign (.Subscript o i pos) X.env v=(do
   let ov <-holding [v] (eval o X.env)
   let iv <-holding [v,ov] (eval i X.env)
   standAt pos
   holding [v,ov,iv] (setItem ov iv v)
   release [v,ov,iv] []):=by intro _;rfl):PG X (.Subscript o i pos) (IG to ti t):=by
 intro pins s σ H v u Q I r h
 rw[ha]
 refine wpAny_bind (wpAny_holding (thn (ho pins s σ H _ I h) fun ov s1 ⟨x,H1,I1,r1,q1⟩=>?_))
 refine wpAny_bind (wpAny_holding (thn (hi pins s1 σ H1 _ I1 q1) fun iv s2 ⟨y,H2,I2,r2,q2⟩=>?_))
 refine wpAny_bind (wpAny_standAt (wpAny_bind (wpAny_holding (thn (hs pins s2 σ H2 x y v ov iv u _ I2 r1 r2 r q2) fun _ s3 ⟨H3,I3,q3⟩=>?_))))
 exact wpAny_release ⟨σ,H3,I3,q3⟩
def Hj(te:TE)(g:TG):TS:=fun D σ H=>te σ H fun x H1=>g x σ H1 D.nx
theorem Ag{tg e:Expr}{te:TE}{g:TG}(he:PE X e te)(hg:PG X tg g)(hs:swapsWithSole [tg] e pos.line X.env=pure false:=by rfl)(hw:swappedStores [tg] e X.env=pure none:=by rfl)
 (h1:(assignEach [tg] X.env).map (·.2)=[assign tg X.env]:=by rfl):PS X (.Assign [tg] e pos) (Hj te g):=by
 intro pins s σ H D I h
 refine wpAny_Assign_stores (thn (he pins s σ H _ I h) fun v s1 ⟨x,H1,I1,r1,q1⟩=>?_) hs hw
 rw[h1]
 exact thn (hg pins s1 σ H1 x v _ I1 r1 q1) fun _ s2 q=>q
theorem Gg{i:Nat}{x:Str}{e:Expr}{te:TE}{pos':Pos}(hN:X.N.Nodup)(hi:X.N[i]? =some x)(hx:Loc X.env.scope x)(he:PE X e te)(hs:swapsWith e (some (.Name x pos')) pos.line X.env=pure false:=by rfl)(hf:X.fn x=true\/X.env.scope.names.lookup x=some .local:=by first |exact .inl rfl |exact .inr rfl |assumption):
 PS X (.Assign [.Name x pos'] e pos) (Hj te (D2 i)):=by
 intro pins s σ H D I h
 refine wpAny_Assign_Name (thn (he pins s σ H _ I h) fun v s1 ⟨y,H1,I1,r1,q1⟩=>?_) hs
 exact vd I1 hN hi hx r1 (fun s2 I2=>⟨_,H1,I2,q1⟩) hf
def EU(c:TT)(tb:TS):TS:=fun D σ H=>∃W:Nat->St->Hp->Prop,(∃m,W m σ H)/\∀m σ H,W m σ H->
 c σ H fun b H1=>if b=true then ∃N:St->Hp->Prop,(∀σ' H',N σ' H'->∃m',m' < m/\W m' σ' H')/\tb {D with nx:=N,ct:=N,bk:=D.nx} σ H1 else D.nx σ H1
theorem Av{c:Expr}{body:List Stmt}{tc:TT}{tb:TS}(hp:PassesOwn (model X.prog X.w) X.A X.env X.xe)(hc:PT X c tc)(hb:PSs X body tb):PS X (.While c body [] pos) (EU tc tb):=by
 intro pins s σ H D I h
 obtain⟨W,⟨m0,w0⟩,turn⟩:=h
 refine wpAny_While (codeAny_whileLoop (fun n s'=>∃σ' H',Inv X pins σ' H' s'/\W n σ' H') ?_ m0 ⟨σ,H,I,w0⟩)
 rintro n s1 ⟨σ1,H1,I1,w1⟩
 refine wpAny_passesOwn hp (thn (hc pins s1 σ1 H1 _ I1 (turn n σ1 H1 w1)) fun b s2 ⟨H2,I2,q2⟩=>?_)
 cases b with
 |true=>
  obtain⟨N,hN,q2⟩:=q2
  rw[if_pos rfl]
  refine wpAny_passesOwn hp (thn (hb pins s2 σ1 H2 _ I2 q2) fun f s3 q3=>?_)
  cases f with
  |next=>
   obtain⟨σ3,H3,I3,n3⟩:=q3
   obtain⟨m',hm,w3⟩:=hN σ3 H3 n3
   exact⟨m',hm,σ3,H3,I3,w3⟩
  |cont=>
   obtain⟨σ3,H3,I3,n3⟩:=q3
   obtain⟨m',hm,w3⟩:=hN σ3 H3 n3
   exact⟨m',hm,σ3,H3,I3,w3⟩
  |brk=>exact q3
  |ret v=>exact q3
 |false=>
  rw[if_neg qC_]
  exact wpAny_execs_nil ⟨σ1,H2,I2,q2⟩
end
structure It where
 go:Nat->Hp->Prop
 yld:Nat->Hp->V->Hp->Prop
 stop:Nat->Hp->Prop
def oW(X:Cx)(pins:List (Addr×Obj))(H:Hp)(b:Addr):Prop:=
 H b=none/\b≠X.env.locals/\b∉X.fs/\(b∈X.ex\/X.s₀.heap.objs.size<=b)/\(∀x c,X.env.cells.lookup x=some c->c≠b)/\∀p∈X.pn++pins,p.1≠b
theorem Inv.Ab{X:Cx}{pins:List (Addr×Obj)}{σ:St}{H H':Hp}{s:Shared}{b:Addr}(I:Inv X pins σ H s)(hb:s.heap.objs.size<=b)(hn:H' b=none):oW X pins H' b:=by
 refine⟨hn,Nat.ne_of_gt (qd_ I.lt hb),I.IT hb,.inr (Nat.le_trans I.sz hb),fun x c e z=>?_,fun p hp z=>?_⟩
 · obtain⟨v,q⟩:=I.cell x c e
   exact absurd (qd_ q.lt (by rw[z];exact hb)) (qe_ _)
 · exact absurd (qd_ (Heap.lt_size (I.pin p hp).1) (by rw[z];exact hb)) (qe_ _)
structure Turn (P:Program) (w:World) (K:PySem.W.Frag) (tg:Expr) (J:It) (fp:List Addr) (it:Addr) (tn:Nat->Heap->Prop):Prop where
 mem:it∈fp
 obj:∀i h,tn i h->∀b∈fp,∃o,h.get? b=some o/\∀v,o.data≠.cell v
 keep:∀i h h',tn i h->(∀b∈fp,∀o,h.get? b=some o->h'.get? b=some o)->tn i h'
 item:∀(X:Cx),X.prog=P->X.w=w->X.K=K->X.calm=true->∀(i:Nat) (pins:List (Addr×Obj)) (s:Shared) (σ:St) (H:Hp) (E:Value->Shared->Prop),Inv X pins σ H s->(∀b∈fp,oW X pins H b)->tn i s.heap->J.go i H->
  wpAny (model P w) X.A (pyNext (.ref it)) (fun r s1=>∃u,r=some u/\
   wpAny (model P w) X.A (letOwnedTupleGo tg (.ref it) u) (fun _ s2=>∃x H',Inv X pins σ H' s2/\RelV x u/\J.yld i H x H'/\tn (i+1) s2.heap/\∀b∈fp,H' b=none) E s1) E s
 done:∀(X:Cx),X.prog=P->X.w=w->X.K=K->X.calm=true->∀(i:Nat) (pins:List (Addr×Obj)) (s:Shared) (σ:St) (H:Hp) (E:Value->Shared->Prop),Inv X pins σ H s->(∀b∈fp,oW X pins H b)->tn i s.heap->J.stop i H->
  wpAny (model P w) X.A (pyNext (.ref it)) (fun r s1=>r=none/\Inv X pins σ H s1) E s
 self:∀(A:Around) (i:Nat) (s:Shared) (Q:Value->Shared->Prop) (E:Value->Shared->Prop),tn i s.heap->Q (.ref it) s->wpAny (model P w) A (pyIter (.ref it)) Q E s
abbrev TI:=St->Hp->(It->Hp->Prop)->Prop
def PIE(X:Cx)(pins:List (Addr×Obj))(σ:St)(tg:Expr)(R:It->Hp->Prop)(itv:Value)(s2:Shared):Prop:=
 ∃(it:Addr) (fp:List Addr) (tn:Nat->Heap->Prop) (J:It) (H':Hp),itv= .ref it/\Inv X pins σ H' s2/\Turn X.prog X.w X.K tg J fp it tn/\tn 0 s2.heap/\(∀b∈fp,oW X pins H' b)/\R J H'
def PI(X:Cx)(tg iter:Expr)(wi:TI):Prop:=
 ∀(pins:List (Addr×Obj)) (s:Shared) (σ:St) (H:Hp) (R:It->Hp->Prop),Inv X pins σ H s->wi σ H R->
  wpAny (model X.prog X.w) X.A (eval iter X.env) (fun v s1=>wpAny (model X.prog X.w) X.A (pyIter v) (PIE X pins σ tg R) X.xe s1) X.xe s
theorem Bo{M:Model}{A:Around}{E:Value->Shared->Prop}{s:Shared}{tg:Expr}{it:Addr}{u:Value}{o:Obj}{n:String}{vs:Array Value}{Q:Unit->Shared->Prop}(ho:s.heap.get? it=some o)(hc:o.cls= .type n)(hd:o.data= .fields vs)
 (hn:["enumerate","zip","dict_itemiterator","dict_reverseitemiterator","odict_iterator","itertools.zip_longest","itertools.pairwise"].contains n=false) (hQ:Q () s):wpAny M A (letOwnedTupleGo tg (.ref it) u) Q E s:=by
 unfold letOwnedTupleGo
 cases tg <;> first
  |exact wpAny_pure hQ
  |(cases u <;> first
     |exact wpAny_pure hQ
     |(refine wpAny_bind (wpAny_load ho ?_)
       rw[hc,hd]
       show wpAny M A (if (["enumerate","zip","dict_itemiterator","dict_reverseitemiterator","odict_iterator","itertools.zip_longest","itertools.pairwise"].contains n&&vs[0]? ==some (rawInt _))=true then _ else _) Q E s
       rw[if_neg (by intro h;rw[hn,Bool.false_and]at h;cases h)]
       exact wpAny_pure hQ))
def Itl(K:PySem.W.Frag)(a:Addr):It:=
 ⟨fun i H=>∃xs x,SqL K H a xs/\xs[i]? =some x,fun i H x H'=>H'=H/\∀xs,SqL K H a xs->xs[i]? =some x,fun i H=>∃xs,SqL K H a xs/\xs.length<=i⟩
def Itt(K:PySem.W.Frag)(a:Addr):It:=
 ⟨fun i H=>∃xs x,SqT K H a xs/\xs[i]? =some x,fun i H x H'=>H'=H/\∀xs,SqT K H a xs->xs[i]? =some x,fun i H=>∃xs,SqT K H a xs/\xs.length<=i⟩
def Itr(lo:Int)(n:Nat):It:=⟨fun i _=>i < n,fun i H x H'=>H'=H/\x= .int (lo+i),fun i _=>n<=i⟩
theorem zY{P:Program}{w:World}{K:PySem.W.Frag}{tg:Expr}(a it:Addr):Turn P w K tg (Itl K a) [it] it (fun i h=>h.IsListIter it a i) where
 mem:=by simp
 obj:=fun i h st b hb=>by
  have e:b=it:=by simpa using hb
  subst e
  obtain⟨o,e,c,d⟩:=st
  exact⟨o,e,fun v z=>by rw[d]at z;cases z⟩
 keep:=fun i h h' st k=>st.at fun o e=>k it (by simp) o e
 item:=by
  intro X hP hw hK hc i pins s σ H E I hf st hg
  subst hP hw hK
  obtain⟨xs,x,hq,hx⟩:=hg
  obtain⟨its,rv,p,hz⟩:=I.list hq
  obtain⟨u,hu,ru⟩:=rv.get hx
  obtain⟨f0,f1,f2,f3,f4,f5⟩:=hf it (by simp)
  refine wpAny_pyNext_list_item st p.isList (x:=u) (by simpa using hu) fun h' st' sb=>?_
  have I1:Inv X pins σ H {s with heap:=h'}:=I.turned (t':=s.toks) (fun b o hb e=>(sb.2 b hb).trans e) f0 f1 f3 f4 f5
  obtain⟨o,e,c,d⟩:=id st'
  exact⟨u,rfl,Bo (s:={s with heap:=h'}) e c d (by decide) ⟨x,H,I1,ru,⟨rfl,fun ys hy=>by rw[I.lH hy hq];exact hx⟩,st',fun b hb=>(hf b hb).1⟩⟩
 done:=by
  intro X hP hw hK hc i pins s σ H E I hf st hg
  subst hP hw hK
  obtain⟨xs,hq,hx⟩:=hg
  obtain⟨its,rv,p,hz⟩:=I.list hq
  obtain⟨f0,f1,f2,f3,f4,f5⟩:=hf it (by simp)
  have hl:=rv.length
  exact wpAny_pyNext_list_end (I.ok.hd hc) st p.isList (by simp;omega) fun h' eb=>⟨rfl,I.turned (t':=s.toks) (fun b o hb e=>eb b o hb e) f0 f1 f3 f4 f5⟩
 self:=fun _ _ _ _ _ st h=>wpAny_pyIter_listiter st h
theorem x6{P:Program}{w:World}{K:PySem.W.Frag}{tg:Expr}(a it:Addr):Turn P w K tg (Itt K a) [it] it (fun i h=>h.IsTupleIter it a i) where
 mem:=by simp
 obj:=fun i h st b hb=>by
  have e:b=it:=by simpa using hb
  subst e
  obtain⟨o,e,c,d⟩:=st
  exact⟨o,e,fun v z=>by rw[d]at z;cases z⟩
 keep:=fun i h h' st k=>st.at fun o e=>k it (by simp) o e
 item:=by
  intro X hP hw hK hc i pins s σ H E I hf st hg
  subst hP hw hK
  obtain⟨xs,x,hq,hx⟩:=hg
  obtain⟨its,rv,p,hz⟩:=I.tuple hq
  obtain⟨u,hu,ru⟩:=rv.get hx
  obtain⟨f0,f1,f2,f3,f4,f5⟩:=hf it (by simp)
  refine wpAny_pyNext_tuple_item st (show s.heap.IsTuple a its.toArray from p) (x:=u) (by simpa using hu) fun h' st' sb=>?_
  have I1:Inv X pins σ H {s with heap:=h'}:=I.turned (t':=s.toks) (fun b o hb e=>(sb.2 b hb).trans e) f0 f1 f3 f4 f5
  obtain⟨o,e,c,d⟩:=id st'
  exact⟨u,rfl,Bo (s:={s with heap:=h'}) e c d (by decide) ⟨x,H,I1,ru,⟨rfl,fun ys hy=>by rw[I.mx hy hq];exact hx⟩,st',fun b hb=>(hf b hb).1⟩⟩
 done:=by
  intro X hP hw hK hc i pins s σ H E I hf st hg
  subst hP hw hK
  obtain⟨xs,hq,hx⟩:=hg
  obtain⟨its,rv,p,hz⟩:=I.tuple hq
  obtain⟨f0,f1,f2,f3,f4,f5⟩:=hf it (by simp)
  have hl:=rv.length
  exact wpAny_pyNext_tuple_end (I.ok.hd hc) st (show s.heap.IsTuple a its.toArray from p) (by simp;omega) fun h' eb=>⟨rfl,I.turned (t':=s.toks) (fun b o hb e=>eb b o hb e) f0 f1 f3 f4 f5⟩
 self:=fun _ _ _ _ _ st h=>wpAny_pyIter_tupleiter st h
theorem xq{P:Program}{w:World}{K:PySem.W.Frag}{tg:Expr}(it:Addr)(lo:Int)(n:Nat):Turn P w K tg (Itr lo n) [it] it (fun i h=>IsRangeIter h it (lo+(i:Nat)*1) ((n:Int) - (i:Nat)) 1) where
 mem:=by simp
 obj:=fun i h st b hb=>by
  have e:b=it:=by simpa using hb
  subst e
  exact⟨_,st,fun v z=>by
   have z':Data.fields _=Data.cell v:=z
   cases z'⟩
 keep:=fun i h h' st k=>k it (by simp) _ st
 item:=by
  intro X hP hw hK hc i pins s σ H E I hf st hg
  subst hP hw hK
  obtain⟨f0,f1,f2,f3,f4,f5⟩:=hf it (by simp)
  have W:=Walks.range (prog:=X.prog) (w:=X.w) (I.ok.hd hc) it lo 1 n
  refine W.item i s _ _ hg st fun v h' tk hv st' kk=>?_
  obtain⟨t,rfl⟩:=hv
  have I1:Inv X pins σ H {s with heap:=h',toks:=tk}:=I.turned (fun b o hb e=>kk b o (by simpa using hb) e) f0 f1 f3 f4 f5
  refine⟨_,rfl,Bo (s:={s with heap:=h',toks:=tk}) (n:="range_iterator") st' rfl rfl (by decide) ⟨.int (lo+i),H,I1,⟨t,?_⟩,⟨rfl,rfl⟩,st',fun b hb=>(hf b hb).1⟩⟩
  rw[Int.mul_one]
 done:=by
  intro X hP hw hK hc i pins s σ H E I hf st hg
  subst hP hw hK
  obtain⟨f0,f1,f2,f3,f4,f5⟩:=hf it (by simp)
  exact wpAny_pyNext_range_end (I.ok.hd hc) st (by have:n<=i:=hg;omega) fun h' eb=>⟨rfl,I.turned (t':=s.toks) (fun b o hb e=>eb b o hb e) f0 f1 f3 f4 f5⟩
 self:=fun _ _ _ _ _ st h=>wpAny_pyIter_rangeiter st h
section
variable{X:Cx}{tg:Expr}
theorem Bj{pins:List (Addr×Obj)}{σ:St}{H:Hp}{s:Shared}{R:It->Hp->Prop}{E:Value->Shared->Prop}{lo hi:Int}{t u v:Tok}{tk:Nat}(I:Inv X pins σ H s)(h1:-(2 ^ 62)<=lo)(h2:lo < 2 ^ 62)(h3:-(2 ^ 62)<=hi)(h4:hi < 2 ^ 62)
 (q:R (Itr lo (hi - lo).toNat) H):wpAny (model X.prog X.w) X.A (pyIter (.ref s.heap.objs.size)) (PIE X pins σ tg R) E {s with heap:=s.heap.push {cls:= .type "range",data:= .fields #[.int lo t,.int hi u,.int 1 v]},toks:=tk}:=by
 refine wpAny_pyIter_range (IsRange.new ..) (small_one h1 h2 h3 h4) ?_
 have I1:Inv X pins σ H {s with heap:=s.heap.push {cls:= .type "range",data:= .fields #[.int lo t,.int hi u,.int 1 v]},toks:=tk}:=I.kept fun b o e=>Heap.get?_push_of_some _ e
 refine⟨(s.heap.push {cls:= .type "range",data:= .fields #[.int lo t,.int hi u,.int 1 v]}).objs.size,[(s.heap.push {cls:= .type "range",data:= .fields #[.int lo t,.int hi u,.int 1 v]}).objs.size],_,_,H,rfl,
  I1.kept (t':=tk) fun b o e=>Heap.get?_push_of_some _ e,xq _ lo (hi - lo).toNat,?_,fun b hb=>?_,q⟩
 · have e1:lo+((0:Nat):Int)*1=lo:=by simp
   have e2:(((hi - lo).toNat:Nat):Int) - ((0:Nat):Int)=Builtin.Range.rangeSize lo hi 1:=by rw[rangeSize_one];split <;> omega
   show IsRangeIter _ _ (lo+((0:Nat):Int)*1) ((((hi - lo).toNat:Nat):Int) - ((0:Nat):Int)) 1
   rw[e1,e2]
   exact Heap.get?_push_size _ rfl
 · have e:b=(s.heap.push {cls:= .type "range",data:= .fields #[.int lo t,.int hi u,.int 1 v]}).objs.size:=by simpa using hb
   subst e
   exact I1.Ab (qO_ _) (I1.hok.fresh (qO_ _))
def gI(ta:TA):TI:=fun σ H R=>ta σ H fun vs H1=>∃j:Int,vs=[.int j]/\-(2 ^ 62)<=j/\j < 2 ^ 62/\R (Itr 0 j.toNat) H1
theorem yY{a:Expr}{ta:TA}{p pos:Pos}(hg:Gl X "range")(hm:X.mg "range"=none)(ha:PA X [a] ta)(hs:starEach [a] X.env=[(false,eval a X.env)]:=by rfl):PI X tg (.Call (.Name "range" p) [a] [] pos) (gI ta):=by
 intro pins s σ H R I h
 refine Call_ (o9 I hg hm boot_range (PyProof.Rows.callWith_type1 (thn (ha pos pins s σ H _ I h) fun us s1 ⟨vs,H1,I1,r1,q1⟩=>?_) hs rfl))
 obtain⟨j,e,q1,q2,q⟩:=q1
 subst e
 cases r1 with
 |cons r rr=>
  cases rr
  obtain⟨t,rfl⟩:=r
  exact call_range_1 (Bj I1 (by omega) (by omega) q1 q2 (by simpa using q))
def Iq(wi:TI)(g:TG)(tb:TS):TS:=fun D σ H=>wi σ H fun J H1=>∃W:Nat->Nat->St->Hp->Prop,(∃m,W 0 m σ H1)/\∀i m σ H,W i m σ H->
 (J.stop i H/\D.nx σ H)\/(J.go i H/\∃N:St->Hp->Prop,(∀σ' H',N σ' H'->∃m',m' < m/\W (i+1) m' σ' H')/\∀x H',J.yld i H x H'->g x σ H' fun σ2 H2=>tb {D with nx:=N,ct:=N,bk:=D.nx} σ2 H2)
def qE(fp:List Addr)(h:Heap):List (Addr×Obj):=fp.filterMap fun b=>(h.get? b).map fun o=>(b,o)
theorem kb{fp:List Addr}{h:Heap}{b:Addr}{o:Obj}(hb:b∈fp)(e:h.get? b=some o):(b,o)∈qE fp h:=List.mem_filterMap.mpr ⟨b,hb,by rw[e];rfl⟩
theorem ze{fp:List Addr}{h:Heap}{p:Addr×Obj}(hp:p∈qE fp h):p.1∈fp/\h.get? p.1=some p.2:=by
 obtain⟨b,hb,e⟩:=List.mem_filterMap.mp hp
 cases q:h.get? b with
 |none=>rw[q]at e;cases e
 |some o=>
  rw[q]at e
  have e':(b,o)=p:=Option.some.inj e
  subst e'
  exact⟨hb,q⟩
theorem Inv.pinned{pins:List (Addr×Obj)}{σ:St}{H:Hp}{s:Shared}{fp:List Addr}(I:Inv X pins σ H s)(hf:∀b∈fp,oW X pins H b)(ho:∀b∈fp,∃o,s.heap.get? b=some o/\∀v,o.data≠.cell v):Inv X (pins++qE fp s.heap) σ H s:=
 I.qe fun p hp=>(qG_.mp hp).elim (fun z=>I.pin p (qE_ _ z)) fun z=>by
   obtain⟨hb,e⟩:=ze z
   obtain⟨f0,f1,f2,_⟩:=hf p.1 hb
   obtain⟨o,e',d⟩:=ho p.1 hb
   rw[e]at e';cases e'
   exact⟨e,f0,f1,f2,d⟩
theorem Inv.lx{pins pl:List (Addr×Obj)}{σ:St}{H:Hp}{s:Shared}(I:Inv X (pins++pl) σ H s):Inv X pins σ H s:=I.qe fun p hp=>I.pin p (qE_ _ (qF_ _ hp))
theorem AI{iter:Expr}{body:List Stmt}{wi:TI}{g:TG}{tb:TS}{pos:Pos}(hp:PassesOwn (model X.prog X.w) X.A X.env X.xe)(hc:X.calm=true)(hi:PI X tg iter wi)(hg:PG X tg g)(hb:PSs X body tb)
 (hs:∀x,foldedSetIterable iter X.env x=pure x:=by intro _;rfl):PS X (.For tg iter body [] pos) (Iq wi g tb):=by
 intro pins s σ H D I h
 refine wpAny_For (thn (hi pins s σ H _ I h) fun v s1 h1=>thn h1 fun itv s2 h2=>?_) hs
 obtain⟨it,fp,tn,J,H2,e,I2,T,st2,f2,W,⟨m0,w0⟩,turn⟩:=h2
 subst e
 have stat:∀{H':Hp},(∀b∈fp,H' b=none)->∀b∈fp,oW X pins H' b:=fun hn b hb=>⟨hn b hb,(f2 b hb).2⟩
 refine codeAny_forLoop_any (fun n s'=>∃i σ' H',Inv X pins σ' H' s'/\tn i s'.heap/\(∀b∈fp,H' b=none)/\W i n σ' H') ?_ m0 ⟨0,σ,H2,I2,st2,fun b hb=>(f2 b hb).1,w0⟩
 rintro n s3 ⟨i,σ3,H3,I3,st3,fr3,w3⟩
 rcases turn i n σ3 H3 w3 with ⟨stop,qn⟩ |⟨go,N,hN,step⟩
 · refine wpAny_passesOwn hp (thn (T.done X rfl rfl rfl hc i pins s3 σ3 H3 X.xe I3 (stat fr3) st3 stop) fun r s4 ⟨hr,I4⟩=>?_)
   subst hr
   exact wpAny_execs_nil ⟨σ3,H3,I4,qn⟩
 · refine wpAny_passesOwn hp (thn (T.item X rfl rfl rfl hc i pins s3 σ3 H3 X.xe I3 (stat fr3) st3 go) fun r s4 ⟨u,hr,h4⟩=>?_)
   subst hr
   refine wpAny_passesOwn hp (thn h4 fun _ s5 ⟨x,H5,I5,r5,y5,st5,fr5⟩=>?_)
   have I5':=I5.pinned (stat fr5) (T.obj _ _ st5)
   refine wpAny_passesOwn hp (thn (hg _ s5 σ3 H5 x u _ I5' r5 (step x H5 y5)) fun _ s6 ⟨σ6,H6,I6,q6⟩=>?_)
   refine wpAny_passesOwn hp (thn (hb _ s6 σ6 H6 _ I6 q6) fun f s7 q7=>?_)
   have again:∀{σ7:St} {H7:Hp},Inv X (pins++qE fp s5.heap) σ7 H7 s7->N σ7 H7->∃m,m < n/\∃i σ' H',Inv X pins σ' H' s7/\tn i s7.heap/\(∀b∈fp,H' b=none)/\W i m σ' H':=fun {σ7 H7} I7 n7=>by
    obtain⟨m',hm,w7⟩:=hN σ7 H7 n7
    refine⟨m',hm,i+1,σ7,H7,I7.lx,T.keep _ _ _ st5 fun b hb o e=>(I7.pin (b,o) (qE_ _ (qE_ _ (kb hb e)))).1,fun b hb=>?_,w7⟩
    obtain⟨o,e,d⟩:=T.obj _ _ st5 b hb
    exact(I7.pin (b,o) (qE_ _ (qE_ _ (kb hb e)))).2.1
   cases f with
   |next=>obtain⟨σ7,H7,I7,n7⟩:=q7;exact again I7 n7
   |cont=>obtain⟨σ7,H7,I7,n7⟩:=q7;exact again I7 n7
   |brk=>obtain⟨σ7,H7,I7,q7⟩:=q7;exact⟨σ7,H7,I7.lx,q7⟩
   |ret v=>obtain⟨x7,σ7,H7,I7,r7,q7⟩:=q7;exact⟨x7,σ7,H7,I7.lx,r7,q7⟩
end
abbrev R2:=V->V->Hp->VK->Prop
def OpR(X:Cx)(f:Value->Value->Sem Value)(r:R2):Prop:=
 ∀(pins:List (Addr×Obj)) (s:Shared) (σ:St) (H:Hp) (x y:V) (v u:Value) (Q:VK),Inv X pins σ H s->RelV x v->RelV y u->r x y H Q->
  wpAny (model X.prog X.w) X.A (f v u) (EP X pins σ Q) X.xe s
def iz(X:Cx)(f:Value)(r:List V->Hp->VK->Prop):Prop:=
 ∀(pins:List (Addr×Obj)) (s:Shared) (σ:St) (H:Hp) (xs:List V) (us:List Value) (Q:VK),Inv X pins σ H s->Vals xs us->r xs H Q->
  wpAny (model X.prog X.w) X.A (call f us) (EP X pins σ Q) X.xe s
def IW(X:Cx)(r:V->Hp->(Bool->Hp->Prop)->Prop):Prop:=
 ∀(pins:List (Addr×Obj)) (s:Shared) (σ:St) (H:Hp) (x:V) (v:Value) (Q:Bool->Hp->Prop),Inv X pins σ H s->RelV x v->r x H Q->
  wpAny (model X.prog X.w) X.A (truthy v) (TP X pins σ Q) X.xe s
def tOp(r:R2)(ta tb:TE):TE:=fun σ H Q=>ta σ H fun x H1=>tb σ H1 fun y H2=>r x y H2 Q
def rI(C:Int->Int->Prop)(g:Int->Int->V):R2:=fun x y H Q=>∃i j,x= .int i/\y= .int j/\C i j/\Q (g i j) H
def rI0(g:Int->Int->V):R2:=fun x y H Q=>∃i j,x= .int i/\y= .int j/\Q (g i j) H
section
variable{X:Cx}{a b c:Expr}{ta tb tc:TE}{pos:Pos}
theorem GG(ha:PE X a ta)(hb:PE X b tb){pins:List (Addr×Obj)}{s:Shared}{σ:St}{H:Hp}{R:V->V->Hp->Prop}(I:Inv X pins σ H s)
 (h:ta σ H fun x H1=>tb σ H1 fun y H2=>R x y H2) {Q:Value->Shared->Prop} {f:Value->Value->Sem Value}
 (hf:∀v u s2 x y H2,Inv X pins σ H2 s2->RelV x v->RelV y u->R x y H2->wpAny (model X.prog X.w) X.A (f v u) Q X.xe s2):
 wpAny (model X.prog X.w) X.A (eval a X.env) (fun v s₁=>wpAny (model X.prog X.w) X.A (eval b X.env) (fun u s₂=>wpAny (model X.prog X.w) X.A (f v u) Q X.xe s₂) X.xe s₁) X.xe s:=by
 refine thn (ha pins s σ H _ I h) fun v s1 ⟨x,H1,I1,r1,q1⟩=>?_
 refine thn (hb pins s1 σ H1 _ I1 q1) fun u s2 ⟨y,H2,I2,r2,q2⟩=>?_
 exact hf v u s2 x y H2 I2 r1 r2 q2
theorem HC{op:Operator}{r:R2}(ho:OpR X (binaryOp op) r)(ha:PE X a ta)(hb:PE X b tb):PE X (.BinOp a op b pos) (tOp r ta tb):=by
 intro pins s σ H Q I h
 exact wpAny_BinOp (GG ha hb I h fun v u s2 x y H2 I2 rx ry q=>ho pins s2 σ H2 x y v u Q I2 rx ry q)
theorem opI{f:Value->Value->Sem Value}{C:Int->Int->Prop}{g:Int->Int->Int}
 (rule:∀(i j:Int) (t u:Tok) (s:Shared) (Q:Value->Shared->Prop) (E:Value->Shared->Prop),C i j->Q (.int (g i j) s.toks) {s with toks:=s.toks+1}->wpAny (model X.prog X.w) X.A (f (.int i t) (.int j u)) Q E s):
 OpR X f (rI C fun i j=>.int (g i j)):=by
 intro pins s σ H x y v u Q I rx ry h
 obtain⟨i,j,rfl,rfl,hc,q⟩:=h
 obtain⟨t,rfl⟩:=rx
 obtain⟨t',rfl⟩:=ry
 exact rule i j t t' s _ _ hc ⟨.int (g i j),H,I.tok _,⟨_,rfl⟩,q⟩
theorem Hk{f:Value->Value->Sem Value}{g:Int->Int->Int}
 (rule:∀(i j:Int) (t u:Tok) (s:Shared) (Q:Value->Shared->Prop) (E:Value->Shared->Prop),Q (.int (g i j) s.toks) {s with toks:=s.toks+1}->wpAny (model X.prog X.w) X.A (f (.int i t) (.int j u)) Q E s):
 OpR X f (rI0 fun i j=>.int (g i j)):=by
 intro pins s σ H x y v u Q I rx ry h
 obtain⟨i,j,rfl,rfl,q⟩:=h
 obtain⟨t,rfl⟩:=rx
 obtain⟨t',rfl⟩:=ry
 exact rule i j t t' s _ _ ⟨.int (g i j),H,I.tok _,⟨_,rfl⟩,q⟩
theorem Fn{f:Value->Value->Sem Value}{g:Int->Int->Bool}
 (rule:∀(i j:Int) (t u:Tok) (s:Shared) (Q:Value->Shared->Prop) (E:Value->Shared->Prop),Q (.bool (g i j)) s->wpAny (model X.prog X.w) X.A (f (.int i t) (.int j u)) Q E s):
 OpR X f (rI0 fun i j=>.bl (g i j)):=by
 intro pins s σ H x y v u Q I rx ry h
 obtain⟨i,j,rfl,rfl,q⟩:=h
 obtain⟨t,rfl⟩:=rx
 obtain⟨t',rfl⟩:=ry
 exact rule i j t t' s _ _ ⟨.bl (g i j),H,I,rfl,q⟩
def EY(i j:Int):Prop:=0 < j/\j < 1073741824
def Cr(i j:Int):Prop:=(-(2 ^ 64) < i/\i < 2 ^ 64)\/(-(2 ^ 64) < j/\j < 2 ^ 64)
theorem Cr.ok{i j:Int}(h:Cr i j):IntMulOk i j:=by
 rcases h with ⟨h1,h2⟩ |⟨h1,h2⟩
 · exact .of_left (intBits_le_64 h1 h2)
 · exact .of_right (intBits_le_64 h1 h2)
theorem FP:OpR X (binaryOp .Add) (rI0 fun i j=>.int (i+j)):=Hk fun _ _ _ _ _ _ _ q=>add_int q
theorem Gu:OpR X (binaryOp .Sub) (rI0 fun i j=>.int (i - j)):=Hk fun _ _ _ _ _ _ _ q=>sub_int q
theorem FV:OpR X (binaryOp .Mult) (rI Cr fun i j=>.int (i*j)):=opI fun _ _ _ _ _ _ _ hc q=>mul_int q hc.ok
theorem Dq:OpR X (binaryOp .FloorDiv) (rI EY fun i j=>.int (i / j)):=opI fun i j _ _ _ _ _ hc q=>by
 have h1:(0:Int) < j:=hc.1
 have h2:j < 1073741824:=hc.2
 exact floordiv_int (by omega) (by rw[Int.fdiv_eq_ediv_of_nonneg i (by omega)];exact q) (.inl (PyProof.noPylong_small (by omega)))
theorem Fb:OpR X (binaryOp .Mod) (rI (fun _ j=>0 < j) fun i j=>.int (i % j)):=opI fun i j _ _ _ _ _ hc q=>by
 have h1:(0:Int) < j:=hc
 exact mod_int' (by omega) (by rw[Int.fmod_eq_emod_of_nonneg i (by omega)];exact q)
theorem GK:OpR X (compareOp .Lt) (rI0 fun i j=>.bl (decide (i < j))):=Fn fun _ _ _ _ _ _ _ q=>lt_int q
theorem HG:OpR X (compareOp .Gt) (rI0 fun i j=>.bl (decide (j < i))):=Fn fun _ _ _ _ _ _ _ q=>gt_int q
theorem Hb:OpR X (compareOp .GtE) (rI0 fun i j=>.bl (decide (j<=i))):=Fn fun _ _ _ _ _ _ _ q=>ge_int q
theorem OpR.or{f:Value->Value->Sem Value}{r r':R2}(h:OpR X f r)(h':OpR X f r'):OpR X f (fun x y H Q=>r x y H Q\/r' x y H Q):=by
 intro pins s σ H x y v u Q I rx ry q
 rcases q with q |q
 · exact h pins s σ H x y v u Q I rx ry q
 · exact h' pins s σ H x y v u Q I rx ry q
theorem bh(b:Expr){op:CmpOp}(h:op≠.In:=by decide)(h2:op≠.NotIn:=by decide):behindInMarks op b=false:=by
 have e1:(op==CmpOp.In)=false:=by cases op <;> first |rfl |exact absurd rfl h
 have e2:(op==CmpOp.NotIn)=false:=by cases op <;> first |rfl |exact absurd rfl h2
 cases b <;> simp [behindInMarks,e1,e2]
theorem Dm{op:CmpOp}{r:R2}(ho:OpR X (compareOp op) r)(ha:PE X a ta)(hb:PE X b tb)(hm:behindInMarks op b=false):PE X (.Compare a [op] [b] pos) (tOp r ta tb):=by
 intro pins s σ H Q I h
 exact wpAny_Compare1 (GG ha hb I h fun v u s2 x y H2 I2 rx ry q=>ho pins s2 σ H2 x y v u Q I2 rx ry q) hm
def D4(t:TE):TT:=fun σ H Q=>t σ H fun x H'=>∃k,x= .bl k/\Q k H'
theorem DB{op:CmpOp}{r:R2}(ho:OpR X (compareOp op) r)(ha:PE X a ta)(hb:PE X b tb)(hm:behindInMarks op b=false):PT X (.Compare a [op] [b] pos) (D4 (tOp r ta tb)):=by
 intro pins s σ H Q I h
 refine wpAny_isTrue_Compare1 (thn (ha pins s σ H _ I h) fun v s1 ⟨x,H1,I1,r1,q1⟩=>thn (hb pins s1 σ H1 _ I1 q1) fun u s2 ⟨y,H2,I2,r2,q2⟩=>
  thn (ho pins s2 σ H2 x y v u _ I2 r1 r2 q2) fun c s3 ⟨z,H3,I3,r3,k,e,q3⟩=>?_) hm
 subst e
 cases r3
 exact wpAny_truthy_bool ⟨H3,I3,q3⟩
def FE(K:PySem.W.Frag)(x:V)(H:Hp)(k:Bool):Prop:=
 match x with
 | .non=>k=false
 | .bl b=>k=b
 | .int i=>k=(i !=0)
 | .str y=>y.length<=sizeLine/\k=((y.length:Int)!=0)
 | .byt y=>y.size<=sizeLine/\k=((y.size:Int)!=0)
 | .ref p=>(∃xs,SqL K H p xs/\k= !xs.isEmpty)\/(∃xs,SqT K H p xs/\k= !xs.isEmpty)\/∃kvs,H p=some (.dK kvs)/\k= !kvs.isEmpty
 |_=>False
theorem w9{κ:Type}{kvs:List (κ×V)}{vs:List (κ×Value)}(r:KV kvs vs):(!vs.isEmpty)= !kvs.isEmpty:=by
 cases r <;> rfl
theorem qD{xs:List V}{its:List Value}(r:Vals xs its):(!its.toArray.isEmpty)= !xs.isEmpty:=by
 cases r <;> simp
theorem rm:(sizeLine:Nat) < 2 ^ 63:=by rw[sizeLine_eq];decide
theorem E0:IW X (fun x H Q=>∃k,FE X.K x H k/\Q k H):=by
 intro pins s σ H x v Q I rx h
 obtain⟨k,e,q⟩:=h
 have hl:=rm
 have hs:sizeLine=16777216:=sizeLine_eq
 cases x with
 |non=>
  cases rx
  have e':k=false:=e
  subst e'
  exact truthy_none ⟨H,I,q⟩
 |bl b=>
  cases rx
  have e':k=b:=e
  subst e'
  exact wpAny_truthy_bool ⟨H,I,q⟩
 |int i=>
  obtain⟨t,rfl⟩:=rx
  have e':k=(i !=0):=e
  subst e'
  exact PySem.P.truthy_int ⟨H,I,q⟩
 |str y=>
  obtain⟨t,rfl⟩:=rx
  obtain⟨hy,e'⟩:y.length<=sizeLine/\k=((y.length:Int)!=0):=e
  subst e'
  exact PySem.P.truthy_str (by omega) ⟨H,I.tok _,q⟩
 |byt y=>
  obtain⟨t,rfl⟩:=rx
  obtain⟨hy,e'⟩:y.size<=sizeLine/\k=((y.size:Int)!=0):=e
  subst e'
  exact PySem.W.truthy_bytes (by omega) ⟨H,I.tok _,q⟩
 |ref p=>
  cases rx
  have e':(∃xs,SqL X.K H p xs/\k= !xs.isEmpty)\/(∃xs,SqT X.K H p xs/\k= !xs.isEmpty)\/∃kvs,H p=some (.dK kvs)/\k= !kvs.isEmpty:=e
  rcases e' with ⟨xs,hx,e'⟩ |⟨xs,hx,e'⟩ |⟨kvs,hx,e'⟩
  · subst e'
    obtain⟨its,r,pl,hz⟩:=I.list hx
    have hlen:=r.length
    exact wpAny_truthy_list pl.isList (by simp only[qW_];omega) ⟨H,I.tok _,by rw[qD r];exact q⟩
  · subst e'
    obtain⟨its,r,pl,hz⟩:=I.tuple hx
    have hlen:=r.length
    exact truthy_tuple pl (by simp only[qW_];omega) ⟨H,I.tok _,by rw[qD r];exact q⟩
  · subst e'
    obtain⟨hz,hS,vs,r,m⟩:kvs.length<=sizeLine/\(p==sysModules)=false/\∃vs,KV kvs vs/\s.heap.DictOf (du X.prog X.w) p vs:=I.hok p _ hx
    have hlen:kvs.length=vs.length:=Paired.length r
    exact wpAny_truthy_dict hS m (by omega) ⟨H,I.tok _,by rw[w9 r];exact q⟩
 |_=>exact(show False from e).elim
theorem BC(ha:PE X a ta)(he:∀whole,isTrue a X.env whole=(do let v <-whole;standAt a.pos;holding [v] (truthy v))):
 PT X a (fun σ H Q=>ta σ H fun x H'=>∃k,FE X.K x H' k/\Q k H'):=by
 intro pins s σ H Q I h
 exact isTrue_plain (thn (ha pins s σ H _ I h) fun v s1 ⟨x,H1,I1,r1,q1⟩=>E0 pins s1 σ H1 x v Q I1 r1 q1) (he _)
theorem xx:OpR X (binaryOp .Add) (fun x y H Q=>∃i j,x= .str i/\y= .str j/\i.length+j.length<=sizeLine/\Q (.str (i++j)) H):=by
 intro pins s σ H x y v u Q I rx ry h
 obtain⟨i,j,rfl,rfl,hz,q⟩:=h
 obtain⟨t,rfl⟩:=rx
 obtain⟨t',rfl⟩:=ry
 exact add_str (fun t' tk=>⟨.str (i++j),H,I.tok _,⟨_,rfl⟩,q⟩) hz
theorem vals1{x:V}{us:List Value}(r:Vals [x] us):∃u,us=[u]/\RelV x u:=by
 cases r with
 |cons r1 r2=>cases r2;exact⟨_,rfl,r1⟩
theorem vals2{x y:V}{us:List Value}(r:Vals [x,y] us):∃u w',us=[u,w']/\RelV x u/\RelV y w':=by
 cases r with
 |cons r1 r2=>
  cases r2 with
  |cons r3 r4=>cases r4;exact⟨_,_,rfl,r1,r3⟩
theorem zQ(hc:X.calm=true):iz X (.builtin "max") (fun xs H Q=>∃i j,xs=[.int i,.int j]/\Q (.int (if j > i then j else i)) H):=by
 intro pins s σ H xs us Q I r h
 obtain⟨i,j,rfl,q⟩:=h
 obtain⟨u,w',rfl,⟨t,rfl⟩,⟨t',rfl⟩⟩:=vals2 r
 refine max_two_ints (I.ok.hd hc) fun h' tk k=>⟨_,H,I.kept k,?_,q⟩
 by_cases hj:j > i
 · rw[if_pos hj,if_pos hj];exact⟨_,rfl⟩
 · rw[if_neg hj,if_neg hj];exact⟨_,rfl⟩
theorem zD:iz X (.type "int") (fun xs H Q=>(∃i,xs=[.int i]/\Q (.int i) H)\/∃k,xs=[.bl k]/\Q (.int (if k then 1 else 0)) H):=by
 intro pins s σ H xs us Q I r h
 rcases h with ⟨i,rfl,q⟩ |⟨k,rfl,q⟩
 · obtain⟨u,rfl,t,rfl⟩:=vals1 r
   exact call_int_int ⟨.int i,H,I,⟨_,rfl⟩,q⟩
 · obtain⟨u,rfl,r1⟩:=vals1 r
   cases r1
   exact call_int_bool ⟨.int (if k then 1 else 0),H,I.tok _,⟨_,rfl⟩,q⟩
def GU(K:PySem.W.Frag)(x:V)(H:Hp)(n:Nat):Prop:=
 match x with
 | .str y=>y.length<=sizeLine/\n=y.length
 | .byt y=>y.size<=sizeLine/\n=y.size
 | .ref p=>(∃xs,SqL K H p xs/\n=xs.length)\/∃xs,SqT K H p xs/\n=xs.length
 |_=>False
theorem Br:iz X (.builtin "len") (fun xs H Q=>∃x n,xs=[x]/\GU X.K x H n/\Q (.int n) H):=by
 intro pins s σ H xs us Q I r h
 obtain⟨x,n,rfl,e,q⟩:=h
 obtain⟨u,rfl,rx⟩:=vals1 r
 have hl:=rm
 have hs:sizeLine=16777216:=sizeLine_eq
 cases x with
 |str y=>
  obtain⟨t,rfl⟩:=rx
  obtain⟨hy,e'⟩:y.length<=sizeLine/\n=y.length:=e
  subst e'
  exact len_str (by omega) ⟨.int _,H,I.tok _,⟨_,rfl⟩,q⟩
 |byt y=>
  obtain⟨t,rfl⟩:=rx
  obtain⟨hy,e'⟩:y.size<=sizeLine/\n=y.size:=e
  subst e'
  exact PySem.W.len_bytes (by omega) ⟨.int _,H,I.tok _,⟨_,rfl⟩,q⟩
 |ref p=>
  cases rx
  have e':(∃xs,SqL X.K H p xs/\n=xs.length)\/∃xs,SqT X.K H p xs/\n=xs.length:=e
  rcases e' with ⟨xs,hx,e'⟩ |⟨xs,hx,e'⟩
  · subst e'
    obtain⟨its,r',pl,hz⟩:=I.list hx
    have hlen:=r'.length
    exact Calls.call_len_list pl.isList (by simp only[qW_];omega) ⟨.int xs.length,H,I.tok _,⟨_,by simp only[qW_];rw[hlen]⟩,q⟩
  · subst e'
    obtain⟨its,r',pl,hz⟩:=I.tuple hx
    have hlen:=r'.length
    exact len_tuple pl (by simp only[qW_];omega) ⟨.int xs.length,H,I.tok _,⟨_,by simp only[qW_];rw[hlen]⟩,q⟩
 |_=>exact(show False from e).elim
end
structure xa (h:Heap) (x dx C:Addr) (mA:Str->Option Value):Prop where
 obj:h.get? x=some (PySem.W.instObj C dx)
 ns:h.Ns1 dx mA
 ne:dx≠x
theorem zF{h:Heap}{dx:Addr}{mA:Str->Option Value}(n:h.Ns1 dx mA):∃od,h.get? dx=some od/\∀name,PySem.W.lookIn name od=some (mA name):=by
 obtain⟨o,es,ep,ho,hd,hk,_,hm⟩:=n
 refine⟨o,ho,fun name=>?_⟩
 have e:=hm name
 unfold nsFind findBy at e
 rw[<-Array.find?_toList]at e
 unfold PySem.W.lookIn
 rw[hd]
 dsimp only
 split
 · rename_i y q
   rw[q]at e
   exact congrArg some e
 · rename_i q
   rw[q]at e
   have a:es.toList.any (·.refKey)=false:=by
    rw[List.any_eq_false]
    intro y hy
    obtain⟨z,t,hkey⟩:=hk y (Array.mem_toList_iff.mp hy)
    simp [DictEntry.refKey,hkey]
   have a':¬es.toList.any (·.refKey)=true:=by rw[a];exact qC_
   rw[if_neg a']
   exact congrArg some e
theorem xa.look{h:Heap}{x dx C:Addr}{mA:Str->Option Value}(I:xa h x dx C mA):∃od,PySem.W.InstAt h x (PySem.W.instObj C dx) C (some od)/\∀name,PySem.W.lookIn name od=some (mA name):=
 let ⟨od,ho,hl⟩:=zF I.ns
 ⟨od,⟨I.obj,rfl,rfl,ho⟩,hl⟩
section
variable{prog:Program}{w:World}{A:Around}{E:Value->Shared->Prop}{s:Shared}{K:PySem.W.Frag}{x dx C f:Addr}{mA:Str->Option Value}{name:Str}{v:Value}
theorem get_map{expr:Bool}{Q:Value->Shared->Prop}(X:K.In s.heap)(I:xa s.heap x dx C mA)(hg:PySem.W.plainGet K C name=true)(hh:PySem.W.hasDictIn K C=true)
 (ha:PySem.W.findIn K (.ref C) name=some none) (hv:mA name=some v) (hv':PySem.W.handedIn v=true) (h:Q v {s with toks:=s.toks+1}):
 wpAny (model prog w) A (getAttr (.ref x) name expr) Q E s:=by
 obtain⟨od,J,hl⟩:=I.look
 exact PySem.W.get_value X J (PySem.W.plainGet_of hg).1 (PySem.W.findObj_own hh ha rfl (by rw[hl,hv])) hv' h
theorem BQ{pl:Sem Bool}{Q:Value×List Value->Shared->Prop}(X:K.In s.heap)(I:xa s.heap x dx C mA)(hg:PySem.W.plainGet K C name=true)
 (hf:PySem.W.findIn K (.ref C) name=some (some (.ref f))) (ht:PySem.W.isFn K (.ref f)=true) (hv:mA name=none) (h:Q (.ref f,[.ref x]) s):
 wpAny (model prog w) A (getMethod (.ref x) name pl) Q E s:=by
 obtain⟨od,J,hl⟩:=I.look
 exact PySem.W.method_fn X J (PySem.W.plainGet_of hg).1 (PySem.W.plainGet_of hg).2 hf (beq_iff_eq.mp ht) (by show (PySem.W.lookIn name od).map (·.isSome)=some false;rw[hl,hv];rfl) h
theorem CZ{ns:List Str}{Q:Unit->Shared->Prop}(X:K.In s.heap)(I:xa s.heap x dx C mA)
 (hs:PySem.W.findIn K (.ref C) "__setattr__"=some (some (.builtin "object.__setattr__"))) (hp:PySem.W.plainOver K C=true) (ht:PySem.W.takerIn K C name=some none) (hh:PySem.W.hasDictIn K C=true)
 (hw:PySem.Within mA ns) (hsz:ns.length<=sizeLine)
 (h:∀h',xa h' x dx C (fun y=>if y=name then some v else mA y)->Heap.SameBut dx s.heap h'->Q () {s with heap:=h',toks:=s.toks+2}):
 wpAny (model prog w) A (setAttr (.ref x) name v) Q E s:=by
 obtain⟨od,J,hl⟩:=I.look
 refine PySem.W.set_plain X J hs (PySem.W.osa_open (s:={s with toks:=s.toks+1}) (r:=none) X J hp ht fun b=>?_)
 obtain⟨cd,hc,hd'⟩:=PySem.W.any_some hh
 have hx:s.heap.get? x=some ⟨.ref C,some dx,.plain,#[]⟩:=I.obj
 refine wpAny_bind (wpAny_pure (wpAny_bind (wpAny_bind (wpAny_loadPart hx (wpAny_bind (PySem.W.Looks.here (s:={s with toks:=s.toks+1}) (PySem.W.looks_clsIn X hc) ?_))))))
 rw[hd']
 refine wpAny_pure (a:=some dx) (wpAny_bind (wpAny_pure (wpAny_bind ?_)))
 refine wpAny_nsSet1 (s:={s with toks:=s.toks+1}) I.ns fun h' hn2 hs2=>?_
 obtain⟨oD,esD,epD,hoD,hdD,hcD⟩:=hn2.count (PySem.Within.cons name v hw)
 refine wpAny_bind (wpAny_lookBehind hoD (by rw[hdD];exact pastItsLine_dict (Nat.le_trans hcD (by rw[List.length_cons];omega))) ?_)
 exact wpAny_pure (h _ ⟨(hs2.2 _ (Ne.symm I.ne)).trans I.obj,hn2,I.ne⟩ hs2)
theorem AA{R:Result->Shared->Prop}{vs:List Value}{kw:List (Str×Value)}(X:K.In s.heap)(hm:PySem.W.makesIn K C=true)
 (hi:PySem.W.findIn K (.ref C) "__init__"=some (some (.ref f))) (hf:PySem.W.typeIn K (.ref f)=some (.type "function"))
 (h:codeAny (model prog w) (A.under (.builtin "type.__call__" ⟨.ref C :: vs,kw⟩)) (.call (.ref f) ⟨.ref (s.heap.objs.size+1) :: vs,kw⟩) (PySem.W.InitBack (s.heap.objs.size+1) R)
   {s with heap:=(s.heap.push PySem.W.emptyDict).push (PySem.W.instObj C s.heap.objs.size)}):
 codeAny (model prog w) A (.call (.ref C) ⟨vs,kw⟩) R s:=by
 obtain⟨hh,g,d,t,os⟩:=s
 exact PySem.W.make_core (PySem.W.makes_of X hm) (PySem.W.looks_findIn X hi) (fun self=>PySem.W.bind_fn X self hf) (.inl rfl) h
end
def jQ(f:Str)(v:V):List (Str×V)->List (Str×V)
 | []=>[(f,v)]
 |(g,x) :: r=>if g=f then (g,v) :: r else (g,x) :: jQ f v r
theorem pB(f g:Str)(v:V):∀fs:List (Str×V),(jQ f v fs).lookup g=if g=f then some v else fs.lookup g
 | []=>by
   show List.lookup g [(f,v)]=_
   by_cases h:g=f
   · have hb:(g==f)=true:=beq_iff_eq.mpr h
     simp only[List.lookup,hb,if_pos h]
   · have hb:(g==f)=false:=beq_eq_false_iff_ne.mpr h
     simp only[List.lookup,hb,if_neg h]
 |(k,x) :: r=>by
  have ih:=pB f g v r
  rw[show jQ f v ((k,x) :: r)=(if k=f then (k,v) :: r else (k,x) :: jQ f v r)from rfl]
  by_cases hk:k=f
  · rw[if_pos hk]
    by_cases h:g=k
    · have hb:(g==k)=true:=beq_iff_eq.mpr h
      simp only[List.lookup,hb,if_pos (h.trans hk)]
    · have hb:(g==k)=false:=beq_eq_false_iff_ne.mpr h
      simp only[List.lookup,hb,if_neg (fun e:g=f=>h (e.trans hk.symm))]
  · rw[if_neg hk]
    by_cases h:g=k
    · have hb:(g==k)=true:=beq_iff_eq.mpr h
      simp only[List.lookup,hb,if_neg (fun e:g=f=>hk (h.symm.trans e))]
    · have hb:(g==k)=false:=beq_eq_false_iff_ne.mpr h
      simp only[List.lookup,hb]
      exact ih
theorem o8(f:Str)(v:V):∀fs:List (Str×V),f∈(jQ f v fs).map (·.1)/\∀g,g∈fs.map (·.1)->g∈(jQ f v fs).map (·.1)
 | []=>⟨by simp [jQ],fun g h=>by simp at h⟩
 |(k,x) :: r=>by
  obtain⟨i1,i2⟩:=o8 f v r
  rw[show jQ f v ((k,x) :: r)=(if k=f then (k,v) :: r else (k,x) :: jQ f v r)from rfl]
  by_cases hk:k=f
  · rw[if_pos hk]
    subst hk
    exact⟨by simp,fun g h=>by simpa using h⟩
  · rw[if_neg hk]
    refine⟨?_,fun g h=>?_⟩
    · rw[List.map_cons]
      exact qR_ _ i1
    · rw[List.map_cons]at h ⊢
      rcases qS_.mp h with e |e
      · exact qS_.mpr (.inl e)
      · exact qR_ _ (i2 g e)
theorem pq(f:Str)(v:V):∀fs:List (Str×V),(jQ f v fs).length<=fs.length+1
 | []=>by simp [jQ]
 |(k,x) :: r=>by
  have ih:=pq f v r
  rw[show jQ f v ((k,x) :: r)=(if k=f then (k,v) :: r else (k,x) :: jQ f v r)from rfl]
  by_cases hk:k=f
  · rw[if_pos hk,List.length_cons,List.length_cons];omega
  · rw[if_neg hk,List.length_cons,List.length_cons];omega
theorem mI.some_of{v:V}{o:Option Value}(r:mI (some v) o):∃u,o=some u/\RelV v u:=by
 cases o with
 |none=>exact(show False from r).elim
 |some u=>exact⟨u,rfl,r⟩
theorem mI.none_of{o:Option Value}(r:mI none o):o=none:=by
 cases o with
 |none=>rfl
 |some u=>exact(show False from r).elim
theorem zW{v:V}{u:Value}(r:RelV v u):PySem.W.handedIn u=true:=by
 cases v with
 |non=>cases (show u=Value.none from r);rfl
 |bl b=>cases (show u=Value.bool b from r);rfl
 |int i=>obtain⟨t,e⟩:=(show ∃t,u=Value.int i t from r);cases e;rfl
 |str x=>obtain⟨t,e⟩:=(show ∃t,u=Value.str x t from r);cases e;rfl
 |byt b=>obtain⟨t,e⟩:=(show ∃t,u=Value.bytes b t from r);cases e;rfl
 |flt b=>obtain⟨t,e⟩:=(show ∃t,u=Value.float b t from r);cases e;rfl
 |ref a=>cases (show u=Value.ref a from r);rfl
 |ty n=>cases (show u=Value.type n from r);rfl
section
variable{P:Program}{w:World}{H H':Hp}{h h':Heap}{a C dx:Addr}{fs fs':List (Str×V)}
theorem uf(hok:HOk P w H h)(e:H a=some (.ins C dx fs)):∃mA,xa h a dx C mA/\(∀f,mI (fs.lookup f) (mA f))/\PySem.Within mA (fs.map (·.1))/\fs.length<=1000/\H dx=some (.own a):=by
 obtain⟨d,z,ne,ob,mA,n,r,q⟩:=(show dO P w H h a (.ins C dx fs)from hok a _ e)
 exact⟨mA,⟨ob,n,ne⟩,r,q,z,d⟩
end
structure Cls (K:PySem.W.Frag) (C:Addr):Prop where
 pg:PySem.W.plainGet K C Str.empty=true
 hd:PySem.W.hasDictIn K C=true
 po:PySem.W.plainOver K C=true
 sa:PySem.W.findIn K (.ref C) "__setattr__"=some (some (.builtin "object.__setattr__"))
theorem Cls.get{K:PySem.W.Frag}{C:Addr}(c:Cls K C)(f:Str):PySem.W.plainGet K C f=true:=c.pg
def kC(K:PySem.W.Frag)(C:Addr)(f:Str):Prop:=PySem.W.findIn K (.ref C) f=some none
theorem kC.GV{K:PySem.W.Frag}{C:Addr}{f:Str}(n:kC K C f):PySem.W.takerIn K C f=some none:=by
 unfold PySem.W.takerIn
 rw[show PySem.W.findIn K (.ref C) f=some none from n]
 rfl
structure Meth (K:PySem.W.Frag) (C:Addr) (m:Str) (f:Addr):Prop where
 at_:PySem.W.findIn K (.ref C) m=some (some (.ref f))
 fn:PySem.W.isFn K (.ref f)=true
 kp:PySem.W.keepIn K (.ref f)=true
section
variable{X:Cx}{pins:List (Addr×Obj)}{σ:St}{H:Hp}{s:Shared}{a C dx:Addr}{fs:List (Str×V)}{f:Str}{v:V}{A:Around}{E:Value->Shared->Prop}
theorem xy{b:Bool}{Q:Value->Shared->Prop}(I:Inv X pins σ H s)(e:H a=some (.ins C dx fs))(c:Cls X.K C)(n:kC X.K C f)(l:fs.lookup f=some v)
 (h:∀u s',Inv X pins σ H s'->RelV v u->Q u s'):wpAny (model X.prog X.w) A (getAttr (.ref a) f b) Q E s:=by
 obtain⟨mA,O,r,_,_,_⟩:=uf I.hok e
 obtain⟨u,hu,ru⟩:=mI.some_of (v:=v) (o:=mA f) (by rw[<-l];exact r f)
 exact get_map I.kIn O (c.get f) c.hd n hu (zW ru) (h u _ (I.tok _) ru)
theorem nN{m:Str}{g:Addr}{pl:Sem Bool}{Q:Value×List Value->Shared->Prop}(I:Inv X pins σ H s)(e:H a=some (.ins C dx fs))(c:Cls X.K C)(k:Meth X.K C m g)(l:fs.lookup m=none)
 (h:Q (.ref g,[.ref a]) s):wpAny (model X.prog X.w) A (getMethod (.ref a) m pl) Q E s:=by
 obtain⟨mA,O,r,_,_,_⟩:=uf I.hok e
 have hn:mA m=none:=mI.none_of (by rw[<-l];exact r m)
 exact BQ I.kIn O (c.get m) k.at_ k.fn hn h
theorem wW{y:V}{u:Value}{Q:Unit->Shared->Prop}(I:Inv X pins σ H s)(e:H a=some (.ins C dx fs))(c:Cls X.K C)(n:kC X.K C f)(hl:fs.length < 1000)(ry:RelV y u)
 (h:∀s',Inv X pins σ (upd H a (.ins C dx (jQ f y fs))) s'->Q () s'):wpAny (model X.prog X.w) A (setAttr (.ref a) f u) Q E s:=by
 obtain⟨mA,O,r,wi,_,ho⟩:=uf I.hok e
 have hz:(fs.map (·.1)).length<=sizeLine:=by rw[qM_,sizeLine_eq];omega
 refine CZ I.kIn O c.sa c.po n.GV c.hd wi hz fun h' O' sb=>h _ ?_
 have hd:∃o,h'.get? dx=some o:=let ⟨o,_,_,e',_⟩:=O'.ns;⟨o,e'⟩
 refine I.write (x:=a) (e:=dx) (by rw[e];exact True.intro) (.inr ho) (fun b q hb z=>(sb.2 b hb).trans z) hd ?_
 refine⟨by rw[aT O.ne];exact ho,?_,O.ne,O'.obj,_,O'.ns,fun g=>?_,fun g hg=>?_⟩
 · have:=pq f y fs;omega
 · show mI ((jQ f y fs).lookup g) (if g=f then some u else mA g)
   rw[pB]
   by_cases q:g=f
   · rw[if_pos q,if_pos q];exact ry
   · rw[if_neg q,if_neg q];exact r g
 · by_cases q:g=f
   · rw[q];exact(o8 f y fs).1
   · refine(o8 f y fs).2 g (wi g fun z=>hg ?_)
     show (if g=f then some u else mA g)=none
     rw[if_neg q];exact z
theorem Inv.made(I:Inv X pins σ H s):Inv X pins σ (upd (upd H s.heap.objs.size (.own (s.heap.objs.size+1))) (s.heap.objs.size+1) (.ins C s.heap.objs.size []))
 {s with heap:=(s.heap.push PySem.W.emptyDict).push (PySem.W.instObj C s.heap.objs.size)}:=by
 have e1:(s.heap.push PySem.W.emptyDict).get? s.heap.objs.size=some PySem.W.emptyDict:=Heap.get?_push_size s.heap rfl
 have e2:((s.heap.push PySem.W.emptyDict).push (PySem.W.instObj C s.heap.objs.size)).get? (s.heap.objs.size+1)=some (PySem.W.instObj C s.heap.objs.size):=by
  have:=Heap.get?_push_size (s.heap.push PySem.W.emptyDict) (o:=PySem.W.instObj C s.heap.objs.size) rfl
  rwa [Heap.size_push]at this
 have e3:(s.heap.push PySem.W.emptyDict).Ns s.heap.objs.size (fun _=>none):=⟨PySem.W.emptyDict,#[],_,e1,rfl,(fun e he=>absurd he (by simp)),fun _=>rfl⟩
 have I1:=I.laid (a:=s.heap.objs.size) (o:= .own (s.heap.objs.size+1)) (h':=s.heap.push PySem.W.emptyDict) (t':=s.toks) (fun b u q=>Heap.get?_push_of_some _ q) (qO_ _) ⟨_,e1⟩
 refine I1.laid (a:=s.heap.objs.size+1) (o:= .ins C s.heap.objs.size []) (t':=s.toks) (fun b u q=>Heap.get?_push_of_some _ q) (Nat.le_of_eq (Heap.size_push _ _)) ?_
 have ne:s.heap.objs.size≠s.heap.objs.size+1:=Nat.ne_of_lt (Nat.lt_succ_self _)
 refine⟨by rw[aT ne,bi],qf_ _,ne,e2,fun _=>none,(Heap.Ns1.of_empty e3).at fun o q=>Heap.get?_push_of_some _ q,fun _=>True.intro,fun y hy=>absurd rfl hy⟩
theorem B4{prog:Program}{w:World}{env:Env}{e:Expr}{f:Str}{pos:Pos}{s:Shared}{Q:Value->Shared->Prop}(hb:attributeBase e f env (eval e env)=eval e env)
 (h:wpAny (model prog w) A (eval e env) (fun o s₁=>wpAny (model prog w) A (getAttr o f true) Q E s₁) E s):wpAny (model prog w) A (eval (.Attribute e f pos) env) Q E s:=
 Attribute_any_ h (by rw[arm_eval_Attribute,hb])
end
def IB(K:PySem.W.Frag)(ta:TE)(f:Str):TE:=fun σ H Q=>ta σ H fun x H1=>∃a C dx fs v,x= .ref a/\H1 a=some (.ins C dx fs)/\Cls K C/\kC K C f/\fs.lookup f=some v/\Q v H1
def IM(K:PySem.W.Frag)(ta tv:TE)(f:Str):TS:=fun D σ H=>tv σ H fun y H1=>ta σ H1 fun x H2=>∃a C dx fs,x= .ref a/\H2 a=some (.ins C dx fs)/\Cls K C/\kC K C f/\fs.length < 1000/\
 D.nx σ (upd H2 a (.ins C dx (jQ f y fs)))
section
variable{X:Cx}{o e value:Expr}{f:Str}{pos pos' tpos:Pos}{ta tv:TE}
theorem E7(he:PE X e ta)(hb:attributeBase e f X.env (eval e X.env)=eval e X.env):PE X (.Attribute e f pos) (IB X.K ta f):=by
 intro pins s σ H Q I h
 refine B4 hb (thn (he pins s σ H _ I h) fun u s1 ⟨x,H1,I1,rx,a,C,dx,fs,v,ex,ea,c,n,l,q⟩=>?_)
 subst ex
 obtain rfl:u=Value.ref a:=rx
 exact xy I1 ea c n l fun u' s2 I2 ru=>⟨v,H1,I2,ru,q⟩
theorem Er(ha:PE X o ta)(hv:PE X value tv)(hs:swapsWith value (some (.Attribute o f pos')) pos.line X.env=pure false):PS X (.Assign [.Attribute o f pos'] value pos) (IM X.K ta tv f):=by
 intro pins s σ H D I h
 refine plainObj_wpAny_Assign_Attribute (thn (hv pins s σ H _ I h) fun u s1 ⟨y,H1,I1,ry,q⟩=>thn (ha pins s1 σ H1 _ I1 q) fun ov s2 ⟨x,H2,I2,rx,a,C,dx,fs,ex,ea,c,n,l,q2⟩=>?_) hs
 subst ex
 obtain rfl:ov=Value.ref a:=rx
 exact wW I2 ea c n l ry fun s3 I3=>⟨σ,_,I3,q2⟩
end
structure fM (k:Nat) (A:Around):Prop where
 hd:A.handled=none
 dp:A.depth+3*k+5 < recursionLimit
 un:A.units+16*k+200 < cLine
theorem fM.mono{j k:Nat}{A:Around}(r:fM k A)(h:j<=k):fM j A:=⟨r.hd,by have:=r.dp;omega,by have:=r.un;omega⟩
theorem fM.deeper{k:Nat}{A:Around}(r:fM (k+1) A)(env:Env):fM k (A.deeper env):=
 ⟨r.hd,by have:=r.dp;show A.depth+1+3*k+5 < _;omega,by have:=r.un;show A.units+3+16*k+200 < _;omega⟩
theorem xT{A:Around}{C:Addr}{us:List Value}{kw:List (Str×Value)}:(A.under (.builtin "type.__call__" ⟨.ref C :: us,kw⟩)).depth=A.depth+1:=by
 first |rfl |simp [Around.under,Code.weight,Code.isCreation,Code.isGuard,Code.isCaller,Code.frames,Code.isFrame,guardIds]
theorem xG{A:Around}{C:Addr}{us:List Value}{kw:List (Str×Value)}:(A.under (.builtin "type.__call__" ⟨.ref C :: us,kw⟩)).units=A.units+1:=by
 first |rfl |simp [Around.under,Code.cUnits,Code.frames,Code.isFrame]
theorem fM.make{k:Nat}{A:Around}(r:fM (k+1) A)(C:Addr)(us:List Value)(kw:List (Str×Value)):fM k (A.under (.builtin "type.__call__" ⟨.ref C :: us,kw⟩)):=
 ⟨r.hd,by have:=r.dp;rw[xT];omega,by have:=r.un;rw[xG];omega⟩
theorem fM.depth{k:Nat}{A:Around}(r:fM k A):A.depth < recursionLimit:=by have:=r.dp;omega
theorem fM.units{k:Nat}{A:Around}(r:fM k A):A.units+64 < cLine:=by have:=r.un;omega
def Fd:TA:=fun _ H Q=>Q [] H
def GY(ta:TE)(tr:TA):TA:=fun σ H Q=>ta σ H fun x H1=>tr σ H1 fun xs H2=>Q (x :: xs) H2
section
variable{X:Cx}{e:Expr}{es:List Expr}{te:TE}{t:TA}{pos:Pos}
theorem nI:PA X [] Fd:=fun _ _ _ _ H Q I h=>Calls.spliced_nil ⟨[],H,I,.nil,h⟩
theorem jw(ha:PE X e te)(hr:PA X es t)(hs:starEach (e :: es) X.env=(false,eval e X.env) :: starEach es X.env:=by rfl):PA X (e :: es) (GY te t):=by
 intro pos pins s σ H Q I h
 rw[hs]
 show wpAny _ _ (spliced ((false,eval e X.env) :: backTo pos (starEach es X.env))) _ _ s
 refine Calls.spliced_cons (thn (ha pins s σ H _ I h) fun u s1 ⟨x,H1,I1,r1,q1⟩=>?_)
 exact thn (hr pos pins s1 σ H1 _ I1 q1) fun us s2 ⟨xs,H2,I2,r2,q2⟩=>⟨x :: xs,H2,I2,.cons r1 r2,q2⟩
def IP(t:TA):TE:=fun σ H Q=>t σ H fun xs H1=>xs.length<=sizeLine/\∀p,H1 p=none->Q (.ref p) (upd H1 p (.tup xs))
def IU(t:TA):TE:=fun σ H Q=>t σ H fun xs H1=>xs.length<=sizeLine/\∀p,H1 p=none->Q (.ref p) (upd H1 p (.lst xs))
theorem Ee{x1}(h:PA X es t):PE X (.Tuple es x1 pos) (IP t):=by
 intro pins s σ H Q I hq
 refine wpAny_Tuple_spliced (thn (h pos pins s σ H _ I hq) fun us s1 ⟨xs,H1,I1,r,z,q⟩=>⟨by rw[<-r.length];exact z,?_⟩)
 have hf:H1 s1.heap.objs.size=none:=I1.hok.fresh (qO_ _)
 refine⟨.ref s1.heap.objs.size,upd H1 s1.heap.objs.size (.tup xs),I1.laid (t':=s1.toks) (fun b u e=>Heap.get?_push_of_some _ e) (qO_ _) ?_,rfl,q _ hf⟩
 exact⟨z,us,r,⟨_,Heap.get?_push_size _ rfl,rfl,_,rfl⟩⟩
theorem EN(h:PA X es t):PE X (.List es pos) (IU t):=by
 intro pins s σ H Q I hq
 refine wpAny_List_spliced (thn (h pos pins s σ H _ I hq) fun us s1 ⟨xs,H1,I1,r,z,q⟩=>⟨by rw[<-r.length];exact z,?_⟩)
 have hf:H1 s1.heap.objs.size=none:=I1.hok.fresh (qO_ _)
 refine⟨.ref s1.heap.objs.size,upd H1 s1.heap.objs.size (.lst xs),I1.laid (t':=s1.toks) (fun b u e=>Heap.get?_push_of_some _ e) (qO_ _) ?_,rfl,q _ hf⟩
 exact⟨z,us,0,r,Heap.get?_push_size _ rfl⟩
end
abbrev Sp:=List V->Hp->VK->XK->Prop
abbrev CXT:=List Env->Hp->Shared->XK->Value->Shared->Prop
structure xW (P:Program) (w:World) (K:PySem.W.Frag) (mg:Str->Option Value) (base:Heap) (A:Around) (outer:List Env) (s:Shared) (H:Hp):Prop where
 frames:A.frames=some outer
 mod:Mod K mg base
 bs:∀b o,base.get? b=some o->s.heap.get? b=some o/\H b=none
 bsz:base.objs.size<=s.heap.objs.size
 nU:s.heap.FunFrames base outer
 frf:∀b∈frs outer,H b=none
 hok:HOk P w H s.heap
 bare:AllBare s.gens
def CE(outer:List Env)(P:Program)(w:World)(H:Hp)(s:Shared)(Q:VK)(u:Value)(s':Shared):Prop:=
 ∃v H',s'.os=s.os/\AllBare s'.gens/\Un (frs outer) [] H H' s.heap s'.heap/\HOk P w H' s'.heap/\RelV v u/\Q v H'
def CR(CX:CXT)(outer:List Env)(P:Program)(w:World)(H:Hp)(s:Shared)(Q:VK)(E:XK)(r:Result)(s':Shared):Prop:=
 match r with
 | .ok (.ret u)=>CE outer P w H s Q u s'
 | .ok _=>False
 | .error e=>CX outer H s E e s'
structure bo (P:Program) (w:World) (K:PySem.W.Frag) (mg:Str->Option Value) (base:Heap) (CX:CXT) (k:Nat) (f:Addr) (fd:FuncData) (ps:List Str) (sp:Sp):Prop where
 len:∀vs H Q E,sp vs H Q E->vs.length=ps.length
 run:∀(A:Around) (outer:List Env) (s:Shared) (H:Hp) (args:Args) (us:List Value) (vs:List V) (Q:VK) (E:XK),fM k A->xW P w K mg base A outer s H->BindsTo s fd args (ps.zip us)->Vals vs us->sp vs H Q E->
  codeAny (model P w) A (.call (.ref f) args) (CR CX outer P w H s Q E) s
theorem bo.imp{P:Program}{w:World}{K:PySem.W.Frag}{mg:Str->Option Value}{base:Heap}{CX:CXT}{k:Nat}{f:Addr}{fd:FuncData}{ps:List Str}{sp sp':Sp}(F:bo P w K mg base CX k f fd ps sp)
 (h:∀vs H Q E,sp' vs H Q E->sp vs H Q E):bo P w K mg base CX k f fd ps sp':=
 ⟨fun vs H Q E q=>F.len vs H Q E (h _ _ _ _ q),fun A outer s H args us vs Q E hr he hb hv hs=>F.run A outer s H args us vs Q E hr he hb hv (h _ _ _ _ hs)⟩
theorem xW.make{P:Program}{w:World}{K:PySem.W.Frag}{mg:Str->Option Value}{base:Heap}{A:Around}{outer:List Env}{s:Shared}{H:Hp}(e:xW P w K mg base A outer s H)(C:Addr)(us:List Value)(kw:List (Str×Value)):
 xW P w K mg base (A.under (.builtin "type.__call__" ⟨.ref C :: us,kw⟩)) outer s H:=⟨by first |exact e.frames |(simpa [Around.under,Code.envs,Code.isFrame,pushEnvs] using e.frames),e.mod,e.bs,e.bsz,e.nU,e.frf,e.hok,e.bare⟩
section
variable{X:Cx}{pins:List (Addr×Obj)}{σ:St}{H:Hp}{s s':Shared}
theorem Inv.FZ(I:Inv X pins σ H s):xW X.prog X.w X.K X.mg X.base X.A X.stack s H:=
 ⟨I.ok.frames,I.ok.mod,I.bs,Nat.le_trans I.ok.bsz I.sz,I.stack,I.qc,I.hok,I.bare⟩
theorem Inv.after{Q:VK}{u:Value}(I:Inv X pins σ H s)(h:CE X.stack X.prog X.w H s Q u s'):EP X pins σ Q u s':=by
 obtain⟨v,H',os,bare,un,hok,r,q⟩:=h
 obtain⟨hh,g,d,t,os'⟩:=s'
 obtain rfl:os'=s.os:=os
 exact⟨v,H',I.call (h':=hh) (g':=g) (d':=d) (t':=t) (ch:=[]) un hok bare (fun b z=>absurd z (by simp)),r,q⟩
end
def Ia(sp:Sp)(dvs:List V)(E:XK)(t:TA):TE:=fun σ H Q=>t σ H fun vs H1=>sp (vs++dvs) H1 Q E
def BS(C:Addr)(m:Str)(sp:Sp)(dvs:List V)(E:XK)(ta:TE)(t:TA):TE:=fun σ H Q=>ta σ H fun x H1=>∃a dx fs,x= .ref a/\H1 a=some (.ins C dx fs)/\fs.lookup m=none/\
 t σ H1 fun vs H2=>sp (x :: (vs++dvs)) H2 Q E
def DZ(C:Addr)(sp:Sp)(dvs:List V)(E:XK)(t:TA):TE:=fun σ H Q=>t σ H fun vs H1=>∀x dx,H1 x=none->H1 dx=none->dx≠x->
 sp (.ref x :: (vs++dvs)) (upd (upd H1 dx (.own x)) x (.ins C dx [])) (fun v H2=>v= .non/\Q (.ref x) H2) E
def Binds(K:PySem.W.Frag)(fd:FuncData)(ps:List Str)(ds:List Value):Prop:=
 ∀(s:Shared) (us:List Value),K.In s.heap->(us++ds).length=ps.length->BindsTo s fd ⟨us,[]⟩ (ps.zip (us++ds))
theorem Binds.all{K:PySem.W.Frag}{fd:FuncData}{ps:List Str}(h:∀us:List Value,us.length=ps.length->bindArgs fd ⟨us,[]⟩=pure (ps.zip us)):Binds K fd ps []:=fun s us _ hl=>by
 rw[qY_]at hl ⊢
 exact .of_eq (h us hl)
def gu(CX:CXT)(X:Cx)(E:XK):Prop:=∀(pins:List (Addr×Obj)) (σ:St) (H:Hp) (s:Shared) (e:Value) (s':Shared),Inv X pins σ H s->CX X.stack H s E e s'->X.xe e s'
section
variable{X:Cx}{CX:CXT}{k:Nat}{f C:Addr}{fd:FuncData}{ps:List Str}{sp:Sp}{dvs:List V}{ds:List Value}{E:XK}{x m:Str}{p pos apos:Pos}{e o:Expr}{es:List Expr}{ta:TE}{t:TA}
theorem xE{pins:List (Addr×Obj)}{σ:St}{H:Hp}{s:Shared}{Q:VK}{us:List Value}{vs:List V}(F:bo X.prog X.w X.K X.mg X.base CX k f fd ps sp)(hr:fM k X.A)(hb:Binds X.K fd ps ds)(hd:Vals dvs ds)(hx:gu CX X E)
 (I:Inv X pins σ H s) (r:Vals vs us) (h:sp (vs++dvs) H Q E):wpAny (model X.prog X.w) X.A (call (.ref f) us) (EP X pins σ Q) X.xe s:=by
 have r2:Vals (vs++dvs) (us++ds):=r.append hd
 have hl:(us++ds).length=ps.length:=by rw[<-r2.length];exact F.len _ _ _ _ h
 refine wpAny_call (codeAny_mono (F.run X.A X.stack s H ⟨us,[]⟩ (us++ds) (vs++dvs) Q E hr I.FZ (hb s us I.kIn hl) r2 h) fun r s' hq=>?_)
 cases r with
 |error e=>exact hx pins σ H s e s' I hq
 |ok fl=>
  cases fl with
  |ret u=>exact I.after hq
  |next=>exact False.elim hq
  |brk=>exact False.elim hq
  |cont=>exact False.elim hq
theorem Du(F:bo X.prog X.w X.K X.mg X.base CX k f fd ps sp)(hr:fM k X.A)(hg:Gl X x)(hm:X.mg x=some (.ref f))(hk:PySem.W.keepIn X.K (.ref f)=true)(hb:Binds X.K fd ps ds)(hd:Vals dvs ds)(hx:gu CX X E)
 (ha:PA X (e :: es) t) (hdb:(x==("__debug__":Str))=false:=by decide) (he:starEach (e :: es) X.env=(false,eval e X.env) :: starEach es X.env:=by rfl) (hpl:(backTo pos (starEach es X.env)).any (·.1)=false:=by rfl):
 PE X (.Call (.Name x p) (e :: es) [] pos) (Ia sp dvs E t):=by
 intro pins s σ H Q I h
 refine wpAny_Call_Name_kw (mr I hg hm ?_ hdb)
 refine PySem.W.callWith_K (h₀:=X.base) I.ok.mod.kin hk (thn (ha pos pins s σ H _ I h) fun us s1 ⟨vs,H1,I1,r,q⟩=>⟨I1.kIn,?_⟩) he hpl
 exact xE F hr hb hd hx I1 r q
theorem Dg{pl:Sem Bool}(he:PE X o ta)(c:Cls X.K C)(hm:Meth X.K C m f)(F:bo X.prog X.w X.K X.mg X.base CX k f fd ps sp)(hr:fM k X.A)(hb:Binds X.K fd ps ds)(hd:Vals dvs ds)(hx:gu CX X E)(ha:PA X (e :: es) t)
 (hst:starEach (e :: es) X.env=(false,eval e X.env) :: starEach es X.env:=by rfl) (hpl:(backTo pos (starEach es X.env)).any (·.1)=false:=by rfl)
 (ht:eval (.Call (.Attribute o m apos) (e :: es) [] pos) X.env=(do
   let ov <-eval o X.env
   standAt apos.atName
   let (f,first) <-holding [ov] (getMethod ov m pl)
   callWith pos f first (backTo pos (starEach (e :: es) X.env)) (backToKw pos (keywordEach [] X.env))):=by rfl):
 PE X (.Call (.Attribute o m apos) (e :: es) [] pos) (BS C m sp dvs E ta t):=by
 intro pins s σ H Q I h
 refine PySem.W.methodCall_KW (pl:=pl) (thn (he pins s σ H _ I h) fun u s1 ⟨x,H1,I1,rx,a,dx,fs,ex,ea,l,q⟩=>?_) ht
 subst ex
 obtain rfl:u=Value.ref a:=rx
 refine nN I1 ea c hm l ?_
 refine PySem.W.callWith_K (first:=[.ref a]) (h₀:=X.base) I.ok.mod.kin hm.kp (thn (ha pos pins s1 σ H1 _ I1 q) fun us s2 ⟨vs,H2,I2,r,q2⟩=>⟨I2.kIn,?_⟩) hst hpl
 exact xE (us:= .ref a :: us) (vs:= .ref a :: vs) F hr hb hd hx I2 (.cons rfl r) q2
theorem Al{pl:Sem Bool}(he:PE X o ta)(c:Cls X.K C)(hm:Meth X.K C m f)(F:bo X.prog X.w X.K X.mg X.base CX k f fd ps sp)(hr:fM k X.A)(hb:Binds X.K fd ps ds)(hd:Vals dvs ds)(hx:gu CX X E)
 (ht:eval (.Call (.Attribute o m apos) [] [] pos) X.env=(do
   let ov <-eval o X.env
   standAt apos.atName
   let (f,first) <-holding [ov] (getMethod ov m pl)
   callWith pos f first (backTo pos (starEach [] X.env)) (backToKw pos (keywordEach [] X.env))):=by rfl):
 PE X (.Call (.Attribute o m apos) [] [] pos) (BS C m sp dvs E ta Fd):=by
 intro pins s σ H Q I h
 refine PySem.W.methodCall_KW (pl:=pl) (thn (he pins s σ H _ I h) fun u s1 ⟨x,H1,I1,rx,a,dx,fs,ex,ea,l,q⟩=>?_) ht
 subst ex
 obtain rfl:u=Value.ref a:=rx
 refine nN I1 ea c hm l ?_
 exact PySem.W.callWith_K0 (first:=[.ref a]) I1.kIn hm.kp (xE (us:=[.ref a]) (vs:=[.ref a]) F hr hb hd hx I1 (.cons rfl .nil) q)
structure Mk (K:PySem.W.Frag) (C f:Addr):Prop where
 makes:PySem.W.makesIn K C=true
 init:PySem.W.findIn K (.ref C) "__init__"=some (some (.ref f))
 fn:PySem.W.isFn K (.ref f)=true
 kp:PySem.W.keepIn K (.ref C)=true
theorem wm{pins:List (Addr×Obj)}{σ:St}{H:Hp}{s:Shared}{Q:VK}{us:List Value}{vs:List V}(M:Mk X.K C f)(F:bo X.prog X.w X.K X.mg X.base CX k f fd ps sp)(hr:fM (k+1) X.A)(hb:Binds X.K fd ps ds)(hd:Vals dvs ds)
 (hx:gu CX X E) (I:Inv X pins σ H s) (r:Vals vs us)
 (h:∀x dx,H x=none->H dx=none->dx≠x->sp (.ref x :: (vs++dvs)) (upd (upd H dx (.own x)) x (.ins C dx [])) (fun v H2=>v= .non/\Q (.ref x) H2) E):
 wpAny (model X.prog X.w) X.A (call (.ref C) us) (EP X pins σ Q) X.xe s:=by
 have hq:=h (s.heap.objs.size+1) s.heap.objs.size (I.hok.fresh (Nat.le_succ _)) (I.hok.fresh (qO_ _)) (Nat.ne_of_lt (Nat.lt_succ_self _))
 have I2:=Inv.made (C:=C) I
 have r2:Vals (V.ref (s.heap.objs.size+1) :: (vs++dvs)) (Value.ref (s.heap.objs.size+1) :: (us++ds)):= .cons rfl (r.append hd)
 have hl:(Value.ref (s.heap.objs.size+1) :: us++ds).length=ps.length:=by
  have e:=r2.length
  rw[F.len _ _ _ _ hq]at e
  exact e.symm
 refine wpAny_call (AA (f:=f) I.kIn M.makes M.init (beq_iff_eq.mp M.fn) (codeAny_mono (F.run _ X.stack _ _ ⟨Value.ref (s.heap.objs.size+1) :: us,[]⟩ (Value.ref (s.heap.objs.size+1) :: (us++ds)) _ _ E (hr.make C us [])
  (I2.FZ.make C us []) (hb _ (Value.ref (s.heap.objs.size+1) :: us) I2.kIn hl) r2 hq) fun r s' hq'=>?_))
 cases r with
 |error e=>exact hx pins σ _ _ e s' I2 hq'
 |ok fl=>
  cases fl with
  |ret u=>
   obtain⟨v,H',I3,rv,ev,q3⟩:=I2.after hq'
   subst ev
   exact⟨rv,⟨V.ref (s.heap.objs.size+1),H',I3,rfl,q3⟩⟩
  |next=>exact False.elim hq'
  |brk=>exact False.elim hq'
  |cont=>exact False.elim hq'
theorem Dn(M:Mk X.K C f)(F:bo X.prog X.w X.K X.mg X.base CX k f fd ps sp)(hr:fM (k+1) X.A)(hg:Gl X x)(hm:X.mg x=some (.ref C))(hb:Binds X.K fd ps ds)(hd:Vals dvs ds)(hx:gu CX X E)
 (ha:PA X (e :: es) t) (hdb:(x==("__debug__":Str))=false:=by decide) (he:starEach (e :: es) X.env=(false,eval e X.env) :: starEach es X.env:=by rfl) (hpl:(backTo pos (starEach es X.env)).any (·.1)=false:=by rfl):
 PE X (.Call (.Name x p) (e :: es) [] pos) (DZ C sp dvs E t):=by
 intro pins s σ H Q I h
 refine wpAny_Call_Name_kw (mr I hg hm ?_ hdb)
 refine PySem.W.callWith_K (h₀:=X.base) I.ok.mod.kin M.kp (thn (ha pos pins s σ H _ I h) fun us s1 ⟨vs,H1,I1,r,q⟩=>⟨I1.kIn,?_⟩) he hpl
 exact wm M F hr hb hd hx I1 r q
theorem Bn(M:Mk X.K C f)(F:bo X.prog X.w X.K X.mg X.base CX k f fd ps sp)(hr:fM (k+1) X.A)(hg:Gl X x)(hm:X.mg x=some (.ref C))(hb:Binds X.K fd ps ds)(hd:Vals dvs ds)(hx:gu CX X E)
 (hdb:(x==("__debug__":Str))=false:=by decide):PE X (.Call (.Name x p) [] [] pos) (DZ C sp dvs E Fd):=by
 intro pins s σ H Q I h
 refine wpAny_Call_Name_kw (mr I hg hm ?_ hdb)
 exact PySem.W.callWith_K0 I.kIn M.kp (wm (us:=[]) M F hr hb hd hx I .nil h)
end
structure aE (N P:List Str) (sc:Scope):Prop where
 kind:sc.kind= .function
 co:sc.isCoroutine=false
 gen:sc.isGenerator=false
 nd:N.Nodup
 pre:N.take P.length=P
 par:∀x∈P,sc.names.lookup x=some .local\/sc.names.lookup x=some .cell
 EB:∀y∈sc.names,y.2≠.free
theorem s9{kindOf:Str->Option NameKind}{x:Str}:∀{binds:List (Str×Value)} {m:Str->Option Value},(∀v,(x,v)∉binds)->bindL kindOf binds m x=m x
 | [],_,_=>rfl
 |(n,v) :: r,m,h=>by
  unfold bindL
  rw[s9 fun w hw=>h w (qR_ _ hw)]
  split
  · have:x≠n:=by rintro rfl;exact h v qI_
    simp [this]
  · rfl
theorem tp{kindOf:Str->Option NameKind}{x:Str}:∀{binds:List (Str×Value)} {m:Str->Option Value},(∀v,(x,v)∉binds)->bindC kindOf binds m x=m x
 | [],_,_=>rfl
 |(n,v) :: r,m,h=>by
  unfold bindC
  rw[tp fun w hw=>h w (qR_ _ hw)]
  split
  · rfl
  · have:x≠n:=by rintro rfl;exact h v qI_
    simp [this]
theorem tj{kindOf:Str->Option NameKind}{x:Str}{v:Value}:∀{P:List Str} {vs:List Value} {i:Nat} {m:Str->Option Value},P.Nodup->P[i]? =some x->vs[i]? =some v->kindOf x=some .local->
 bindL kindOf (P.zip vs) m x=some v
 | [],_,_,_,_,h,_,_=>by simp at h
 |_ :: _,[],_,_,_,_,h,_=>by simp at h
 |p :: P,w :: vs,0,m,nd,h1,h2,hk=>by
  simp at h1 h2;subst h1;subst h2
  show bindL kindOf ((p,w) :: P.zip vs) m p=_
  unfold bindL
  rw[s9 fun v hv=>(List.nodup_cons.mp nd).1 (List.of_mem_zip hv).1,if_pos hk]
  simp
 |p :: P,w :: vs,i+1,m,nd,h1,h2,hk=>by
  show bindL kindOf ((p,w) :: P.zip vs) m x=_
  unfold bindL
  exact tj (i:=i) (List.nodup_cons.mp nd).2 (by simpa using h1) (by simpa using h2) hk
theorem tx{kindOf:Str->Option NameKind}{x:Str}{v:Value}:∀{P:List Str} {vs:List Value} {i:Nat} {m:Str->Option Value},P.Nodup->P[i]? =some x->vs[i]? =some v->kindOf x≠some .local->
 bindC kindOf (P.zip vs) m x=some v
 | [],_,_,_,_,h,_,_=>by simp at h
 |_ :: _,[],_,_,_,_,h,_=>by simp at h
 |p :: P,w :: vs,0,m,nd,h1,h2,hk=>by
  simp at h1 h2;subst h1;subst h2
  show bindC kindOf ((p,w) :: P.zip vs) m p=_
  unfold bindC
  rw[tp fun v hv=>(List.nodup_cons.mp nd).1 (List.of_mem_zip hv).1,if_neg hk]
  simp
 |p :: P,w :: vs,i+1,m,nd,h1,h2,hk=>by
  show bindC kindOf ((p,w) :: P.zip vs) m x=_
  unfold bindC
  exact tx (i:=i) (List.nodup_cons.mp nd).2 (by simpa using h1) (by simpa using h2) hk
def start(N:List Str)(vs:List V):St:=vs.map some++List.replicate (N.length - vs.length) none
def nu(CX:CXT)(P:Program)(w:World)(K:PySem.W.Frag)(mg:Str->Option Value)(base:Heap)(N:List Str)(qual:Str)(scope:Scope)(f:Addr)(cd:Value)(A:Around)(outer:List Env)(s:Shared)(H:Hp)(E:XK):Cx where
 prog:=P
 w:=w
 K:=K
 mg:=mg
 base:=base
 A:=A.deeper (envOfC qual scope s.heap.objs.size f cd)
 N:=N
 s₀:=s
 H₀:=H
 env:=envOfC qual scope s.heap.objs.size f cd
 outer:=outer
 stack:=envOfC qual scope s.heap.objs.size f cd :: outer
 ex:=[]
 calm:=true
 fn:=fun _=>true
 pn:=[]
 xe:=fun e s'=>wpAny (model P w) (A.deeper (envOfC qual scope s.heap.objs.size f cd)) (leaving (envOfC qual scope s.heap.objs.size f cd) e) (fun _ s''=>CX outer H s E e s'') (fun e' s''=>CX outer H s E e' s'') s'
theorem vG{sc:Scope}{n:Nat}{x:Str}(h:sc.names.lookup x=some .cell):∃c,(cellsFrom n sc.names []).lookup x=some c:=by
 have q:=PySem.W.cellsFrom_some sc.names n [] (.inl h)
 exact Option.isSome_iff_exists.mp q
theorem zr{CX:CXT}{P:Program}{w:World}{K:PySem.W.Frag}{mg:Str->Option Value}{base:Heap}{N ps:List Str}{qual:Str}{scope:Scope}{f:Addr}{cd:Value}{A:Around}{outer:List Env}{s s1:Shared}{H:Hp}{E:XK}{us:List Value}{vs:List V}
 (S:aE N ps scope) (hd:A.handled=none) (e0:xW P w K mg base A outer s H) (hl:vs.length=ps.length) (r:Vals vs us)
 (x:InCallC s s.heap.objs.size (bindL (envOfC qual scope s.heap.objs.size f cd).kindOf (ps.zip us) fun _=>none) (cellsFrom (s.heap.objs.size+1) scope.names []) (bindC (envOfC qual scope s.heap.objs.size f cd).kindOf (ps.zip us) fun _=>none) s1):
 Inv (nu CX P w K mg base N qual scope f cd A outer s H E) [] (start N vs) H s1:=by
 have hpl:ps.length<=N.length:=by have:=congrArg List.length S.pre;rw[List.length_take]at this;omega
 obtain⟨h1,tk,rfl,hk⟩:=x.done
 have noA:∀b:Addr,b∉(nu CX P w K mg base N qual scope f cd A outer s H E).ex:=fun b z=>absurd (show b∈([]:List Addr)from z) (by simp)
 refine⟨⟨e0.mod,S.kind,rfl,rfl,qO_ _,fun y z c h1 h2=>?_,fun y hy=>?_,fun y c _ h=>?_,fun _=>hd,Around.frames_deeper e0.frames,.inr ⟨rfl,rfl⟩,fun b z=>absurd z (noA b),e0.bs,e0.bsz,fun b _ _=>noA b,fun b z=>absurd z (noA b),e0.nU,e0.frf⟩,
  rfl,e0.bare,Un.kept hk,⟨_,x.toInCall.ns,fun i y v h1 h2 h3=>?_⟩,fun y c h=>⟨_,x.cell y c h⟩,e0.hok.fresh (qO_ _),fun y c h=>?_,fun p hp=>absurd (show p∈([]:List (Addr×Obj))from hp) (by simp),e0.hok.kept hk,?_⟩
 · exact name_of_addr x.apart (PySem.mem_of_lookup h1) (PySem.mem_of_lookup h2)
 · have hy:scope.names.lookup y=some .cell\/scope.names.lookup y=some .free:=hy
   rcases hy with hy |hy
   · exact vG hy
   · exact absurd rfl (S.EB _ (PySem.mem_of_lookup hy))
 · exact Nat.le_of_lt (x.above y c (PySem.mem_of_lookup h))
 · have hi:i < vs.length:=by
    unfold start at h2
    by_cases hi:i < vs.length
    · exact hi
    · rw[List.getElem?_append_right (by simpa using hi)]at h2
      rw[List.getElem?_replicate]at h2
      split at h2 <;> cases h2
   have ha:vs[i]? =some v:=by
    unfold start at h2
    rw[qK_ (by simpa using hi),qQ_]at h2
    cases e:vs[i]? with
    |none=>rw[e]at h2;cases h2
    |some a=>rw[e]at h2;cases h2;rfl
   obtain⟨u,hu,rv⟩:=r.get ha
   have hp:ps[i]? =some y:=by
    rw[<-S.pre,List.getElem?_take_of_lt (by omega)];exact h1
   have ndP:ps.Nodup:=by rw[<-S.pre];exact S.nd.sublist (List.take_sublist _ _)
   refine⟨u,rv,?_⟩
   rcases S.par y (qD_ hp)with k |k
   · exact .inl ⟨k,tj ndP hp hu k⟩
   · obtain⟨c,e⟩:=vG (n:=s.heap.objs.size+1) k
     refine .inr ⟨.inl k,c,e,?_⟩
     have q:=x.cell y c e
     rw[tx ndP hp hu (by show scope.names.lookup y≠_;rw[k];decide)]at q
     exact q
 · exact e0.hok.fresh (Nat.le_of_lt (x.above y c (PySem.mem_of_lookup h)))
 · unfold start
   show _=N.length
   rw[qN_,qM_,List.length_replicate]
   omega
theorem DL{CX:CXT}{P:Program}{w:World}{K:PySem.W.Frag}{mg:Str->Option Value}{base:Heap}{k:Nat}{f:Addr}{name qual:Str}{params:Arguments}{body:List Stmt}{scope:Scope}{dV kV doc pm cdv ct oc:Value}{an od:Option Addr}
 {osl:Array (Option Value)} {N ps:List Str} {sp:Sp} (lk:K.lookup f=some ⟨oc,od,.func (PySem.W.fnOf name qual params body scope dV kV doc pm an cdv ct),osl⟩) (hcd:PySem.W.codeIn K cdv qual=true) (S:aE N ps scope)
 (len:∀vs H Q E,sp vs H Q E->vs.length=ps.length)
 (hbody:∀(A:Around) (outer:List Env) (s:Shared) (H:Hp) (vs:List V) (Q:VK) (E:XK),fM k (A.deeper (envOfC qual scope s.heap.objs.size f cdv))->sp vs H Q E->
   ∃t,PSs (nu CX P w K mg base N qual scope f cdv A outer s H E) body t/\t {nx:=fun _ H'=>Q .non H',rt:=Q} (start N vs) H):
 bo P w K mg base CX (k+1) f (PySem.W.fnOf name qual params body scope dV kV doc pm an cdv ct) ps sp:=by
 refine⟨len,fun A outer s H args us vs Q E hr e0 hb r hsp=>?_⟩
 have hl:=len _ _ _ _ hsp
 have KX:K.In s.heap:=e0.mod.kin.keeps fun b o e=>(e0.bs b o e).1
 have lim:s.heap.NoLimit:=e0.mod.nolimit.keeps fun b o e=>(e0.bs b o e).1
 have hkind:∀y∈ps.zip us,scope.names.lookup y.1=some .local\/(scope.names.lookup y.1=some .cell/\((cellsFrom (s.heap.objs.size+1) scope.names []).lookup y.1).isSome=true):=fun⟨n,v⟩ hy=>by
  rcases S.par n (List.of_mem_zip hy).1 with q |q
  · exact .inl q
  · exact .inr ⟨q,PySem.W.cellsFrom_some _ _ _ (.inl q)⟩
 refine codeAny_call_function hr.depth (KX _ _ lk) rfl S.co S.gen rfl (PySem.W.codeRec_of KX hcd) (hb _ _ _ _ ?_)
 refine wpAny_newFunctionEnv_cells S.kind hkind fun env he s1 x=>?_
 subst he
 refine⟨lim.keeps x.toInCall.keep,codeAny_func ?_⟩
 obtain⟨t,ht,hq⟩:=hbody A outer s H vs Q E (hr.deeper _) hsp
 have I:Inv (nu CX P w K mg base N qual scope f cdv A outer s H E) [] (start N vs) H s1:=zr S hr.hd e0 hl r x
 refine wpAny_mono (ht [] s1 (start N vs) H _ I hq) (fun fl s' hs=>?_) fun e s' hs=>hs
 have fin:∀{σ':St} {H':Hp} {v:V} {u:Value},Inv (nu CX P w K mg base N qual scope f cdv A outer s H E) [] σ' H' s'->RelV v u->Q v H'->CE outer P w H s Q u s':=
  fun {σ' H' v u} J rv q=>⟨v,H',J.os,J.bare,J.base,J.hok,rv,q⟩
 cases fl with
 |ret u=>
  obtain⟨v,σ',H',J,rv,q⟩:=hs
  exact fin J rv q
 |next=>
  obtain⟨σ',H',J,q⟩:=hs
  exact fin (v:=V.non) (u:=Value.none) J rfl q
 |brk=>
  obtain⟨_,_,_,q⟩:=hs
  exact False.elim q
 |cont=>
  obtain⟨_,_,_,q⟩:=hs
  exact False.elim q
section
variable{X:Cx}{x:Str}{p pos:Pos}{e:Expr}{es:List Expr}{t:TA}{id T:String}{r:List V->Hp->VK->Prop}
def tCB(r:List V->Hp->VK->Prop)(t:TA):TE:=fun σ H Q=>t σ H fun vs H1=>r vs H1 Q
theorem vD(hc:iz X (.builtin id) r)(hg:Gl X x)(hm:X.mg x=none)(hv:bootBuiltins x=some (.builtin id))(ha:PA X (e :: es) t)(hn:x≠"__name__":=by decide)(hdb:(x==("__debug__":Str))=false:=by decide)
 (he:starEach (e :: es) X.env=(false,eval e X.env) :: starEach es X.env:=by rfl) (hpl:(backTo pos (starEach es X.env)).any (·.1)=false:=by rfl):PE X (.Call (.Name x p) (e :: es) [] pos) (tCB r t):=by
 intro pins s σ H Q I h
 refine wpAny_Call_Name_kw (o9 I hg hm hv ?_ hn hdb)
 exact PyProof.Rows.callWith_builtin1 (thn (ha pos pins s σ H _ I h) fun us s1 ⟨vs,H1,I1,r1,q1⟩=>hc pins s1 σ H1 vs us Q I1 r1 q1) he hpl
theorem yZ(hc:iz X (.type T) r)(hg:Gl X x)(hm:X.mg x=none)(hv:bootBuiltins x=some (.type T))(ha:PA X (e :: es) t)(hn:x≠"__name__":=by decide)(hdb:(x==("__debug__":Str))=false:=by decide)
 (he:starEach (e :: es) X.env=(false,eval e X.env) :: starEach es X.env:=by rfl) (hpl:(backTo pos (starEach es X.env)).any (·.1)=false:=by rfl):PE X (.Call (.Name x p) (e :: es) [] pos) (tCB r t):=by
 intro pins s σ H Q I h
 refine wpAny_Call_Name_kw (o9 I hg hm hv ?_ hn hdb)
 exact PyProof.Rows.callWith_type1 (thn (ha pos pins s σ H _ I h) fun us s1 ⟨vs,H1,I1,r1,q1⟩=>hc pins s1 σ H1 vs us Q I1 r1 q1) he hpl
end
end L2
namespace HT
open PySem PyProof.Rows
def lexLt:List Int->List Int->Bool
 | [],[]=>false
 | [],_ :: _=>true
 |_ :: _,[]=>false
 |x :: xs,y :: ys=>if x=y then lexLt xs ys else decide (x < y)
theorem rC(x y:Int)(xs ys:List Int):lexLt (x :: xs) (y :: ys)=if x=y then lexLt xs ys else decide (x < y):=rfl
theorem m5:lexLt [] []=false:=rfl
theorem kW(y:Int)(ys:List Int):lexLt [] (y :: ys)=true:=rfl
theorem kQ(x:Int)(xs:List Int):lexLt (x :: xs) []=false:=rfl
theorem wJ(A:Around)(s:Shared)(a:Int)(t:Tok)(c:Int)(u:Tok):∃e,SeqAt.EqAt A s (.int a t) (.int c u) e/\(e=true↔a=c):=
 ⟨(a==c),SeqAt.EqAt.int_int a t c u,by simp⟩
theorem Bv(A:Around)(s:Shared)(a:Int)(t:Tok)(c:Int)(u:Tok)(prog:Program)(w:World)(E:Value->Shared->Prop)(Q:Value->Shared->Prop)(h:Q (.bool (decide (a < c))) s):
 wpAny (model prog w) A (richCompare .Lt (.int a t) (.int c u)) Q E s:=
 (PyProof.Rows.lt_int h:wpAny (model prog w) A (compareOp .Lt (.int a t) (.int c u)) Q E s)
section
open PySem.SeqAt
open PySem.AutoSeq1 (wpAny_loadPart')
open PySem.MeetsSeq PySem.MeetsSeq2 PySem.MeetsSeq3
theorem se(l b:Addr)(items items2:Array Value)(n n2:Nat)(dd dd2:Option Addr)(sl sl2:Array (Option Value))(ns ms:List Int)(hi:IntsAre items.toList ns)(hj:IntsAre items2.toList ms):
 Meets (Builtin.«tuple.__lt__» ⟨[.ref l,.ref b],[]⟩)
  (fun _ R s=>s.heap.get? l=some {cls:= .type "tuple",dict:=dd,data:= .seq items n,slots:=sl}/\s.heap.get? b=some {cls:= .type "tuple",dict:=dd2,data:= .seq items2 n2,slots:=sl2}/\
    R (.ok (.ret (.bool (lexLt ns ms)))) s):=
 .of_wp fun prog w A R s h=>by
  obtain⟨hp,g,d,tk,os⟩:=s;obtain⟨hl,hb,h⟩:=h
  have f2:=AutoSeq1.sub_tuple_tuple
  have z1:items.size=ns.length:=by rw[<-hi.length];simp
  have z2:items2.size=ms.length:=by rw[<-hj.length];simp
  wp_walk using wpAny_loadPart' hl,wpAny_loadPart' hb,wpAny_forIn_list _ (fun rest b s'=>b.1=none/\s'=⟨hp,g,d,tk,os⟩/\∃(vs ws:List Value) (ns' ms':List Int),rest=vs.zip ws/\
   IntsAre vs ns'/\IntsAre ws ms'/\ns'.length+items2.size=ms'.length+items.size/\R (.ok (.ret (.bool (lexLt ns' ms')))) ⟨hp,g,d,tk,os⟩) _
  case turn=>
   rintro⟨y,x⟩ rest b s' ⟨hb',rfl,vs,ws,ns',ms',hz,hvi,hwi,hlen,hR⟩
   cases hvi with
   |nil=>rw[List.zip_nil_left]at hz;cases hz
   |cons a t hvi'=>
    cases hwi with
    |nil=>rw[List.zip_nil_right]at hz;cases hz
    |cons c u hwi'=>
     rw[List.zip_cons_cons]at hz
     injection hz with hyx hrest
     injection hyx with hy hx
     subst hy hx
     rw[rC]at hR
     simp only[List.length_cons]at hlen
     obtain⟨e,he,hiff⟩:=wJ A.in1 ⟨hp,g,d,tk,os⟩ a t c u
     refine wpAny_bind (he prog w _ _ ?_)
     cases e with
     |true=>
      rw[if_pos (hiff.mp rfl)]at hR
      wp_walk
      exact⟨rfl,rfl,_,_,_,_,hrest,hvi',hwi',by omega,hR⟩
     |false=>
      rw[if_neg (fun q=>absurd (hiff.mpr q) qC_)]at hR
      have hri:=Bv A.in1 ⟨hp,g,d,tk,os⟩ a t c u prog w
      wp_walk using hri
      exact⟨_,rfl,by simpa using hR⟩
  case fin=>
   rintro⟨b1,b2⟩ s' ⟨hb',rfl,vs,ws,ns',ms',hz,hvi,hwi,hlen,hR⟩
   simp only at hb'
   subst hb'
   have hv:lexLt ns' ms'=decide (items.size < items2.size):=by
    cases hvi with
    |nil=>
     cases hwi with
     |nil=>
      simp only[List.length_nil]at hlen
      rw[m5]
      exact(qa_ (by omega)).symm
     |cons c u hw=>
      simp only[List.length_nil,List.length_cons]at hlen
      rw[kW]
      exact(qZ_ (by omega)).symm
    |cons a t hv=>
     cases hwi with
     |nil=>
      simp only[List.length_nil,List.length_cons]at hlen
      rw[kQ]
      exact(qa_ (by omega)).symm
     |cons c u hw=>
      rw[List.zip_cons_cons]at hz
      cases hz
   rw[hv]at hR
   wp_walk
   exact⟨_,rfl,by simpa [Builtin.Tuple.tupleCompareSizes] using hR⟩
  case h=>
   exact⟨rfl,rfl,items.toList,items2.toList,ns,ms,rfl,hi,hj,by omega,h⟩
end
section
variable{prog:Program}{w:World}{A:Around}{E:Value->Shared->Prop}{s:Shared}
theorem xh{l b:Addr}{items items2:Array Value}{ns ms:List Int}{Q:Value->Shared->Prop}(hl:IsTup s.heap l items)(hb:IsTup s.heap b items2)(hi:IntsAre items.toList ns)(hj:IntsAre items2.toList ms)
 (hu:A.units < cLine) (h:Q (.bool (lexLt ns ms)) s):wpAny (model prog w) A (compareOp .Lt (.ref l) (.ref b)) Q E s:=by
 obtain⟨⟨cls,dd,data,sl⟩,ho,hc,n,hd⟩:=id hl
 obtain⟨⟨cls2,dd2,data2,sl2⟩,ho2,hc2,n2,hd2⟩:=id hb
 simp only at hc hd hc2 hd2
 subst hc hd hc2 hd2
 exact richCompare_meets_room (op:= .Lt) ⟨_,ho,rfl⟩ ⟨_,ho2,rfl⟩ PySem.F.slot_tuple_lt PySem.F.entry_tuple_lt (PySem.F.args_tuple_lt_2 _ _) (se l b items items2 n n2 dd dd2 sl sl2 ns ms hi hj)
  ⟨ho,ho2,show Value.bool (lexLt ns ms)≠Value.notImplemented/\Q (.bool (lexLt ns ms)) s from⟨(fun x=>nomatch x),h⟩⟩ hu
theorem CI{t b:Addr}{vs ws:List Value}{Q:Value->Shared->Prop}(ht:IsTup s.heap t vs.toArray)(hb:IsTup s.heap b ws.toArray)(hv:vs≠ [])
 (h1:ws=[]->Q (.ref t) s) (h2:ws≠ []->Q (.ref s.heap.objs.size) {s with heap:=s.heap.push {cls:= .type "tuple",data:= .seq (vs++ws).toArray}})
 (hsz:vs.length+ws.length<=sizeLine):wpAny (model prog w) A (binaryOp .Add (.ref t) (.ref b)) Q E s:=by
 obtain⟨⟨cls,dd,data,sl⟩,ho,hc,n,hd⟩:=id ht
 obtain⟨⟨cls2,dd2,data2,sl2⟩,ho2,hc2,n2,hd2⟩:=id hb
 simp only at hc hd hc2 hd2
 subst hc hd hc2 hd2
 have e:vs.toArray++ws.toArray=(vs++ws).toArray:=by simp
 by_cases hw:ws=[]
 · exact concat_meets ⟨_,ho,rfl⟩ ⟨_,ho2,rfl⟩ noFill_tuple_add seq_tuple_add PySem.F.slot_tuple_add PySem.F.entry_tuple_add (PySem.F.args_tuple_add_2 _ _)
    (tuple_addW1 t b vs.toArray ws.toArray n n2 dd dd2 sl sl2 (by simpa using hv) (by simp [hw])) ⟨ho,ho2,h1 hw⟩
 · refine concat_meets ⟨_,ho,rfl⟩ ⟨_,ho2,rfl⟩ noFill_tuple_add seq_tuple_add PySem.F.slot_tuple_add PySem.F.entry_tuple_add (PySem.F.args_tuple_add_2 _ _)
    (tuple_addW2 t b vs.toArray ws.toArray n n2 dd dd2 sl sl2 (by simpa using hv) (by simpa using hw) (by rw[qW_,qW_];exact hsz)) ⟨ho,ho2,?_⟩
   rw[e]
   exact h2 hw
def sIx(n d:Nat):Option Int->Nat
 |none=>d
 |some v=>if v < 0 then (v+(n:Int)).toNat else min v.toNat n
theorem Fo(n d:Nat)(hd:d<=n)(o:Option Int):sIx n d o<=n:=by
 cases o with
 |none=>exact hd
 |some v=>
  show (if v < 0 then (v+(n:Int)).toNat else min v.toNat n)<=n
  by_cases hv:v < 0
  · rw[if_pos hv];omega
  · rw[if_neg hv];exact Nat.min_le_right _ _
theorem yu(v:Int)(n d:Nat):(if v < 0 then max (v+(n:Int)) 0 else min v (n:Int))=((sIx n d (some v):Nat):Int):=by
 show (if v < 0 then max (v+(n:Int)) 0 else min v (n:Int))=(((if v < 0 then (v+(n:Int)).toNat else min v.toNat n):Nat):Int)
 by_cases hv:v < 0
 · simp only[if_pos hv];omega
 · simp only[if_neg hv];omega
theorem wZ(lo hi:Option Int)(n:Nat):Builtin.Slice.sliceAdjust lo hi 1 (n:Int)=(((sIx n 0 lo:Nat):Int),((sIx n n hi:Nat):Int)):=by
 have h1:¬((1:Int) < 0):=by omega
 unfold Builtin.Slice.sliceAdjust
 simp only[h1,if_false]
 refine Prod.ext ?_ ?_
 · cases lo with
   |none=>rfl
   |some v=>exact yu v n 0
 · cases hi with
   |none=>rfl
   |some v=>exact yu v n n
theorem xg(i j:Nat):Builtin.Slice.slicePlaces (i:Int) (j:Int) 1=j - i:=by
 unfold Builtin.Slice.slicePlaces
 have h1:(1:Int) > 0:=by omega
 simp only[h1,if_true,Int.ediv_one]
 split <;> omega
theorem q9{v:Value}{o:Option Int}{Q:Option Int->Shared->Prop}(p:IsPart v o)(h:Q o s):wpAny (model prog w) A (Builtin.Slice.slicePartIndex v) Q E s:=by
 cases p with
 |none=>exact slicePart_none h
 |int i t=>exact slicePart_int h
theorem oZ{sl:Addr}{vl vu:Value}{lo hi:Option Int}{n:Nat}{Q:Int×Int×Nat->Shared->Prop}(hs:s.heap.IsSliceOf sl vl vu .none)(pl:IsPart vl lo)(pu:IsPart vu hi)
 (h:Q (((sIx n 0 lo:Nat):Int),1,sIx n n hi - sIx n 0 lo) s):wpAny (model prog w) A (Builtin.Slice.sliceApplied (.ref sl) (pure (n:Int))) Q E s:=by
 obtain⟨os,hos,hcs,hds⟩:=id hs
 unfold Builtin.Slice.sliceApplied Builtin.Slice.sliceFields
 refine wpAny_bind (wpAny_bind (wpAny_field hos hds (x:=vl) rfl (wpAny_bind (wpAny_field hos hds (x:=vu) rfl (wpAny_bind (wpAny_field hos hds (x:= .none) rfl (wpAny_pure ?_)))))))
 refine wpAny_bind (slicePart_none ?_)
 show wpAny _ _ (if ((1:Int)==0)=true then _ else _) _ _ s
 rw[if_neg (by decide)]
 refine wpAny_bind (q9 pl (wpAny_bind (q9 pu (wpAny_bind (wpAny_pure ?_)))))
 show wpAny _ _ (match Builtin.Slice.sliceAdjust lo hi 1 (n:Int)with |(lo,hi)=>pure (lo,(1:Int),Builtin.Slice.slicePlaces lo hi 1)) _ _ s
 rw[wZ lo hi n]
 show wpAny _ _ (pure (((sIx n 0 lo:Nat):Int),(1:Int),Builtin.Slice.slicePlaces ((sIx n 0 lo:Nat):Int) ((sIx n n hi:Nat):Int) 1)) _ _ s
 rw[xg]
 exact wpAny_pure h
theorem BN(xs:Array Value)(i k:Nat):((List.range k).filterMap fun(m:Nat)=>xs[((i:Int)+(m:Int)*1).toNat]?).toArray=((xs.toList.drop i).take k).toArray:=by
 have e:(fun(m:Nat)=>xs[((i:Int)+(m:Int)*1).toNat]?)=fun m=>xs[i+m]?:=by
  funext m
  have:((i:Int)+(m:Int)*1).toNat=i+m:=by omega
  rw[this]
 rw[e]
 have:=pick_run xs i k
 rw[List.filterMap_map]at this
 have e2:((fun x=>xs[x]?) ∘ fun x=>i+x)=fun m=>xs[i+m]?:=rfl
 rw[e2]at this
 rw[this]
theorem nO{t sl:Addr}{items:Array Value}{vl vu:Value}{lo hi:Option Int}{Q:Value->Shared->Prop}(ht:IsTup s.heap t items)(hs:s.heap.IsSliceOf sl vl vu .none)(pl:IsPart vl lo)(pu:IsPart vu hi)
 (hw:¬(sIx items.size 0 lo=0/\sIx items.size items.size hi=items.size))
 (h:Q (.ref s.heap.objs.size) {s with heap:=s.heap.push {cls:= .type "tuple",data:= .seq ((items.toList.drop (sIx items.size 0 lo)).take (sIx items.size items.size hi - sIx items.size 0 lo)).toArray}})
 (hsz:items.size<=sizeLine):wpAny (model prog w) A (getItem (.ref t) (.ref sl)) Q E s:=by
 have htake:sizeOk (.seq ((items.toList.drop (sIx items.size 0 lo)).take (sIx items.size items.size hi - sIx items.size 0 lo)).toArray):=by
  show ((items.toList.drop (sIx items.size 0 lo)).take (sIx items.size items.size hi - sIx items.size 0 lo)).toArray.size<=sizeLine
  rw[qW_,List.length_take,List.length_drop,Array.length_toList]
  omega
 have hj:sIx items.size items.size hi<=items.size:=Fo _ _ (qO_ _) hi
 obtain⟨os,hos,hcs,hds⟩:=id hs
 have hTs:s.TypeIs (.ref sl) "slice":=⟨os,hos,hcs⟩
 unfold getItem
 try with_reducible refine wpAny_holding ?_
 first |refine wpAny_bind (wpAny_pure ?_) |skip
 refine wpAny_bind (wpAny_sequenceKey ht.typeIs (by decide) ?_)
 refine wpAny_bind (wpAny_callSpecial?_slot (name:=Str.ofString "__getitem__") ht.typeIs PyProof.Rows.slot_tuple_getitem
  (wpAny_call_entry PyProof.Rows.slot_tuple_getitem ht.typeIs entry_tuple_getitem ?_ (args_tuple_getitem _ _)))
 show wpAny _ _ (Builtin.Tuple.tupleItemsOf (.ref t) >>= _) _ _ s
 refine wpAny_bind (tupleItemsOf_ ht ?_)
 refine wpAny_bind (wpAny_typeOf hTs ?_)
 rw[if_pos (by decide)]
 refine wpAny_bind (oZ hs pl pu ?_)
 have hno:¬((((sIx items.size 0 lo:Nat):Int)==0&&(1:Int)==1&&(sIx items.size items.size hi - sIx items.size 0 lo)==items.size)=true):=by
  intro q
  rw[Bool.and_eq_true,Bool.and_eq_true]at q
  have q1:((sIx items.size 0 lo:Nat):Int)=0:=eq_of_beq q.1.1
  have q2:sIx items.size items.size hi - sIx items.size 0 lo=items.size:=eq_of_beq q.2
  exact hw ⟨by omega,by omega⟩
 show wpAny _ _ (if (((sIx items.size 0 lo:Nat):Int)==0&&(1:Int)==1&&(sIx items.size items.size hi - sIx items.size 0 lo)==items.size)=true then _ else _) _ _ s
 rw[if_neg hno,BN]
 first
  |exact wpAny_bind (m:=Builtin.Tuple.tupleExact _) (wpAny_newObj_type (wpAny_pure ⟨_,rfl,wpAny_pure h⟩) htake)
  |exact wpAny_bind (m:=Builtin.Tuple.tupleExact _) (wpAny_newObj_type (wpAny_bind (wpAny_pure (wpAny_pure ⟨_,rfl,wpAny_pure h⟩))) htake)
  |exact wpAny_bind (wpAny_bind (m:=Builtin.Tuple.tupleExact _) (wpAny_newObj_type (wpAny_pure (wpAny_pure ⟨_,rfl,wpAny_pure h⟩)) htake))
  |exact wpAny_bind (wpAny_bind (m:=Builtin.Tuple.tupleExact _) (wpAny_newObj_type (wpAny_pure ⟨_,rfl,wpAny_pure h⟩) htake))
end
end HT
namespace L2
open PySem PySem.Spec PyProof.Rows
abbrev TO:=St->Hp->(Option Int->Hp->Prop)->Prop
def PO(X:Cx)(e:Option Expr)(t:TO):Prop:=
 ∀(pins:List (Addr×Obj)) (s:Shared) (σ:St) (H:Hp) (Q:Option Int->Hp->Prop),Inv X pins σ H s->t σ H Q->
  wpAny (model X.prog X.w) X.A (evalPart e X.env) (fun u s'=>∃o H',Inv X pins σ H' s'/\IsPart u o/\Q o H') X.xe s
def Dk:TO:=fun _ H Q=>Q none H
def Ie(t:TE):TO:=fun σ H Q=>t σ H fun x H1=>∃i,x= .int i/\Q (some i) H1
theorem intsAre_of{ns:List Int}:∀{us:List Value},Vals (ns.map V.int) us->IntsAre us ns:=by
 induction ns with
 |nil=>intro us r;rw[List.map_nil]at r;cases r;exact .nil
 |cons n ns ih=>
  intro us r
  rw[List.map_cons]at r
  cases r with
  |cons r1 r2=>
   obtain⟨t,e⟩:=r1
   subst e
   exact .cons n t (ih r2)
section
variable{X:Cx}{e:Expr}{te:TE}{lo hi:Option Expr}{tl th:TO}{pos p2:Pos}
theorem C8:PO X none Dk:=by
 intro pins s σ H Q I h
 rw[evalPart_none]
 exact wpAny_pure ⟨none,H,I,.none,h⟩
theorem Cn(h:PE X e te):PO X (some e) (Ie te):=by
 intro pins s σ H Q I hw
 rw[evalPart_some]
 refine thn (h pins s σ H _ I hw) fun u s1 ⟨x,H1,I1,r1,q1⟩=>?_
 obtain⟨i,rfl,q⟩:=q1
 obtain⟨t,rfl⟩:=r1
 exact⟨some i,H1,I1,.int i t,q⟩
def SlR(X:Cx)(r:V->Option Int->Option Int->Hp->VK->Prop):Prop:=
 ∀(pins:List (Addr×Obj)) (s:Shared) (σ:St) (H:Hp) (x:V) (v vl vu:Value) (lo hi:Option Int) (sl:Addr) (Q:VK),Inv X pins σ H s->RelV x v->s.heap.IsSliceOf sl vl vu .none->IsPart vl lo->IsPart vu hi->r x lo hi H Q->
  ∃T id,typeLookup (.type T) "__getitem__"=pure (some (.builtin id))/\s.TypeIs v T/\wpAny (model X.prog X.w) X.A (getItem v (.ref sl)) (EP X pins σ Q) X.xe s
theorem SlR.or{r r':V->Option Int->Option Int->Hp->VK->Prop}(h:SlR X r)(h':SlR X r'):SlR X (fun x lo hi H Q=>r x lo hi H Q\/r' x lo hi H Q):=by
 intro pins s σ H x v vl vu lo hi sl Q I rx hs pl pu q
 rcases q with q |q
 · exact h pins s σ H x v vl vu lo hi sl Q I rx hs pl pu q
 · exact h' pins s σ H x v vl vu lo hi sl Q I rx hs pl pu q
def tSl(r:V->Option Int->Option Int->Hp->VK->Prop)(te:TE)(tl th:TO):TE:=fun σ H Q=>te σ H fun x H1=>tl σ H1 fun l H2=>th σ H2 fun u H3=>r x l u H3 Q
theorem BR{r:V->Option Int->Option Int->Hp->VK->Prop}(hr:SlR X r)(he:PE X e te)(hl:PO X lo tl)(hu:PO X hi th):PE X (.Subscript e (.Slice lo hi none p2) pos) (tSl r te tl th):=by
 intro pins s σ H Q I h
 refine Subscript_ (thn (he pins s σ H _ I h) fun v s1 ⟨x,H1,I1,r1,q1⟩=>?_)
 refine wpAny_Slice (thn (hl pins s1 σ H1 _ I1 q1) fun vl s2 ⟨l,H2,I2,pl,q2⟩=>thn (hu pins s2 σ H2 _ I2 q2) fun vu s3 ⟨u,H3,I3,pu,q3⟩=>?_)
 rw[evalPart_none]
 refine wpAny_pure ?_
 have I4:Inv X pins σ H3 {s3 with heap:=s3.heap.push {cls:= .type "slice",data:= .fields #[vl,vu,.none]}}:=I3.kept (t':=s3.toks) fun b ob q=>Heap.get?_push_of_some _ q
 obtain⟨T,id,hT,ht,hg⟩:=hr pins {s3 with heap:=s3.heap.push {cls:= .type "slice",data:= .fields #[vl,vu,.none]}} σ H3 x v vl vu l u s3.heap.objs.size Q I4 r1 (Heap.IsSliceOf.new ..) pl pu q3
 show wpAny (model X.prog X.w) X.A (subscriptTail e (.Slice lo hi none p2) v (.ref s3.heap.objs.size)) (EP X pins σ Q) X.xe {s3 with heap:=s3.heap.push {cls:= .type "slice",data:= .fields #[vl,vu,.none]}}
 exact tail_any (ops:=[.ref s3.heap.objs.size,v]) ht hT hg (by with_unfolding_all rfl)
def sk(xs:List V)(lo hi:Option Int):List V:=(xs.drop (HT.sIx xs.length 0 lo)).take (HT.sIx xs.length xs.length hi - HT.sIx xs.length 0 lo)
theorem pO(xs:List V)(lo hi:Option Int):(sk xs lo hi).length<=xs.length:=by
 unfold sk
 rw[List.length_take,List.length_drop]
 omega
def ID(K:PySem.W.Frag):V->Option Int->Option Int->Hp->VK->Prop:=fun x lo hi H Q=>∃a xs,x= .ref a/\SqT K H a xs/\
 ¬(HT.sIx xs.length 0 lo=0/\HT.sIx xs.length xs.length hi=xs.length)/\∀p,H p=none->Q (.ref p) (upd H p (.tup (sk xs lo hi)))
theorem Fz:SlR X (ID X.K):=by
 intro pins s σ H x v vl vu lo hi sl Q I rx hs pl pu h
 obtain⟨a,xs,rfl,hx,hw,q⟩:=h
 cases rx
 obtain⟨its,r,ht,hz⟩:=I.tuple hx
 have hlen:its.toArray.size=xs.length:=by rw[qW_];exact r.length.symm
 refine⟨"tuple",_,PyProof.Rows.slot_tuple_getitem.lookup,ht.typeIs,?_⟩
 refine HT.nO ht hs pl pu (by rw[hlen];exact hw) ?_ (by rw[hlen];exact hz)
 rw[hlen]
 refine⟨.ref s.heap.objs.size,_,I.laid (t':=s.toks) (o:= .tup (sk xs lo hi)) (fun b ob q=>Heap.get?_push_of_some _ q) (qO_ _) ?_,rfl,q _ (I.hok.fresh (qO_ _))⟩
 exact⟨Nat.le_trans (pO xs lo hi) hz,_,(r.drop (HT.sIx xs.length 0 lo)).take (HT.sIx xs.length xs.length hi - HT.sIx xs.length 0 lo),IsTup.new _ _⟩
def HL(K:PySem.W.Frag):R2:=fun x y H Q=>∃a b ns ms,x= .ref a/\y= .ref b/\SqT K H a (ns.map V.int)/\SqT K H b (ms.map V.int)/\Q (.bl (HT.lexLt ns ms)) H
theorem E4(hu:X.A.units < cLine):OpR X (compareOp .Lt) (HL X.K):=by
 intro pins s σ H x y v u Q I rx ry h
 obtain⟨a,b,ns,ms,rfl,rfl,ha,hb,q⟩:=h
 cases rx
 cases ry
 obtain⟨its,r1,p1,_⟩:=I.tuple ha
 obtain⟨its2,r2,p2,_⟩:=I.tuple hb
 have i1:IntsAre its.toArray.toList ns:=intsAre_of r1
 have i2:IntsAre its2.toArray.toList ms:=intsAre_of r2
 exact HT.xh p1 p2 i1 i2 hu ⟨.bl (HT.lexLt ns ms),H,I,rfl,q⟩
def DT(K:PySem.W.Frag):R2:=fun x y H Q=>∃a b xs ys,x= .ref a/\y= .ref b/\SqT K H a xs/\SqT K H b ys/\xs≠ []/\xs.length+ys.length<=sizeLine/\
 (ys=[]->Q (.ref a) H)/\(ys≠ []->∀p,H p=none->Q (.ref p) (upd H p (.tup (xs++ys))))
theorem Vals.vb{xs:List V}{us:List Value}(r:Vals xs us):us=[]↔xs=[]:=by
 cases r with
 |nil=>simp
 |cons _ _=>simp
theorem Di:OpR X (binaryOp .Add) (DT X.K):=by
 intro pins s σ H x y v u Q I rx ry h
 obtain⟨a,b,xs,ys,rfl,rfl,ha,hb,hx,hz,q1,q2⟩:=h
 cases rx
 cases ry
 obtain⟨its,r1,p1,_⟩:=I.tuple ha
 obtain⟨its2,r2,p2,_⟩:=I.tuple hb
 refine HT.CI p1 p2 (fun z=>hx (r1.vb.mp z)) (fun z=>⟨.ref a,H,I,rfl,q1 (r2.vb.mp z)⟩) (fun z=>?_) (by rw[<-r1.length,<-r2.length];exact hz)
 refine⟨.ref s.heap.objs.size,_,I.laid (t':=s.toks) (o:= .tup (xs++ys)) (fun b ob q=>Heap.get?_push_of_some _ q) (qO_ _) ?_,rfl,q2 (fun w=>z (r2.vb.mpr w)) _ (I.hok.fresh (qO_ _))⟩
 exact⟨by rw[qN_];exact hz,_,r1.append r2,IsTup.new _ _⟩
end
def ixN(n:Nat)(i:Int):Option Nat:=if 0<=i then (if i < n then some i.toNat else none)else if -(n:Int)<=i then some (i+n).toNat else none
def atI{α:Type}(xs:List α)(i:Int):Option α:=(ixN xs.length i).bind fun j=>xs[j]?
theorem uU{n:Nat}{i:Int}{j:Nat}(h:ixN n i=some j):seqIndex? i n=some j/\j < n/\-(n:Int)<=i/\i < n:=by
 unfold ixN at h
 by_cases h0:0<=i
 · rw[if_pos h0]at h
   by_cases h1:i < n
   · rw[if_pos h1]at h
     have e:i.toNat=j:=Option.some.inj h
     exact⟨by rw[seqIndex_of h0 h1,e],by omega,by omega,h1⟩
   · rw[if_neg h1]at h;cases h
 · rw[if_neg h0]at h
   by_cases h1:-(n:Int)<=i
   · rw[if_pos h1]at h
     have e:(i+n).toNat=j:=Option.some.inj h
     exact⟨by rw[seqIndex_neg (by omega) h1,e],by omega,h1,by omega⟩
   · rw[if_neg h1]at h;cases h
theorem yA{α:Type}{xs:List α}{i:Int}{v:α}(h:atI xs i=some v):∃j,seqIndex? i xs.length=some j/\xs[j]? =some v/\j < xs.length/\-(xs.length:Int)<=i/\i < xs.length:=by
 unfold atI at h
 cases e:ixN xs.length i with
 |none=>rw[e]at h;cases h
 |some j=>
  rw[e]at h
  obtain⟨h1,h2,h3,h4⟩:=uU e
  exact⟨j,h1,h,h2,h3,h4⟩
def uX(b:Expr):Prop:=∀o i,subscripted b false o i=operate [o,i] (getItem o i)
def IxR(X:Cx)(r:R2):Prop:=
 ∀(value slice:Expr) (pins:List (Addr×Obj)) (s:Shared) (σ:St) (H:Hp) (x y:V) (v u:Value) (Q:VK),Inv X pins σ H s->RelV x v->RelV y u->r x y H Q->
  subscripted slice false v u=operate [v,u] (getItem v u)->wpAny (model X.prog X.w) X.A (subscriptTail value slice v u) (EP X pins σ Q) X.xe s
def MtR(X:Cx)(id:String)(r:V->List V->Hp->VK->Prop):Prop:=
 ∀(pins:List (Addr×Obj)) (s:Shared) (σ:St) (H:Hp) (x:V) (xs:List V) (v:Value) (us:List Value) (Q:VK),Inv X pins σ H s->RelV x v->Vals xs us->r x xs H Q->
  wpAny (model X.prog X.w) X.A (call (.builtin id) (v :: us)) (EP X pins σ Q) X.xe s
section
variable{X:Cx}{a b:Expr}{ta tb:TE}{pos:Pos}
theorem IxR.or{r r':R2}(h:IxR X r)(h':IxR X r'):IxR X (fun x y H Q=>r x y H Q\/r' x y H Q):=by
 intro value slice pins s σ H x y v u Q I rx ry q hs
 rcases q with q |q
 · exact h value slice pins s σ H x y v u Q I rx ry q hs
 · exact h' value slice pins s σ H x y v u Q I rx ry q hs
theorem Hg{r:R2}(hr:IxR X r)(ha:PE X a ta)(hb:PE X b tb)(hs:uX b):PE X (.Subscript a b pos) (tOp r ta tb):=by
 intro pins s σ H Q I h
 exact Subscript_ (GG ha hb I h fun v u s2 x y H2 I2 rx ry q=>hr a b pins s2 σ H2 x y v u Q I2 rx ry q (hs _ _))
def GH(K:PySem.W.Frag):R2:=fun x y H Q=>∃p xs i v,x= .ref p/\y= .int i/\SqL K H p xs/\atI xs i=some v/\Q v H
def Hn(K:PySem.W.Frag):R2:=fun x y H Q=>∃p xs i v,x= .ref p/\y= .int i/\SqT K H p xs/\atI xs i=some v/\Q v H
theorem Cd:IxR X (GH X.K):=by
 intro value slice pins s σ H x y v u Q I rx ry h hs
 obtain⟨p,xs,i,z,rfl,rfl,hq,he,q⟩:=h
 cases rx
 obtain⟨t,rfl⟩:=ry
 obtain⟨its,r,pl,hz⟩:=I.list hq
 obtain⟨j,h1,h2,h3,h4,h5⟩:=yA he
 obtain⟨w,ew,rw'⟩:=r.get h2
 have hl:=r.length
 have hn:=rm
 have fin:EP X pins σ Q w s:=⟨z,H,I,rw',q⟩
 by_cases h0:0<=i
 · have hj:i.toNat=j:=by
    rw[seqIndex_of h0 h5]at h1
    exact Option.some.inj h1
   exact item_listR pl.isList h0 (by omega) (by rw[hj];simpa using ew) fin hs
 · have hj:(i+(its.toArray.size:Int)).toNat=j:=by
    rw[seqIndex_neg (by omega) h4]at h1
    rw[qW_,<-hl]
    exact Option.some.inj h1
   exact subscriptTail_builtinR (x:=w) pl.isList.typeIs slot_list_getitem.lookup
    (wpAny_getItem_list_neg (Q:=fun r s'=>r=w/\EP X pins σ Q r s') pl.isList (by omega) (by rw[qW_] <;> omega) (by omega) (by rw[hj];simpa using ew) ⟨rfl,fin⟩) hs
theorem E8:IxR X (Hn X.K):=by
 intro value slice pins s σ H x y v u Q I rx ry h hs
 obtain⟨p,xs,i,z,rfl,rfl,hq,he,q⟩:=h
 cases rx
 obtain⟨t,rfl⟩:=ry
 obtain⟨its,r,pl,hz⟩:=I.tuple hq
 obtain⟨j,h1,h2,h3,h4,h5⟩:=yA he
 obtain⟨w,ew,rw'⟩:=r.get h2
 have hl:=r.length
 have hn:=rm
 have fin:EP X pins σ Q w s:=⟨z,H,I,rw',q⟩
 exact subscriptTail_builtinR (x:=w) pl.typeIs slot_tuple_getitem.lookup
  (getItem_tuple (j:=j) (Q:=fun r s'=>r=w/\EP X pins σ Q r s') pl (by omega) (by omega) (by rw[qW_,<-hl];exact h1) (by simpa using ew) ⟨rfl,fin⟩) hs
theorem wV(its:List Value)(n j:Nat)(u:Value):Obj.mapSeq (·.setIfInBounds j u) {cls:= .type "list",data:= .seq its.toArray n}={cls:= .type "list",data:= .seq (its.set j u).toArray n}:=by
 simp [Obj.mapSeq]
theorem Inv.lst{pins:List (Addr×Obj)}{σ:St}{H:Hp}{s:Shared}{p:Addr}{xs:List V}(I:Inv X pins σ H s)(h:H p=some (.lst xs)):
 ∃(its:List Value) (n:Nat),Vals xs its/\s.heap.get? p=some {cls:= .type "list",data:= .seq its.toArray n}/\xs.length<=sizeLine:=by
 obtain⟨z,its,n,r,e⟩:=I.hok p _ h
 exact⟨its,n,r,e,z⟩
theorem Inv.Fy{pins:List (Addr×Obj)}{σ:St}{H:Hp}{s:Shared}{p:Addr}{xs ys:List V}{its its':List Value}{n n':Nat}{f:Obj->Obj}(I:Inv X pins σ H s)(h:H p=some (.lst xs))
 (ho:s.heap.get? p=some {cls:= .type "list",data:= .seq its.toArray n}) (hf:f {cls:= .type "list",data:= .seq its.toArray n}={cls:= .type "list",data:= .seq its'.toArray n'}) (r:Vals ys its') (hz:ys.length<=sizeLine) (t:Nat):
 Inv X pins σ (upd H p (.lst ys)) {s with heap:=s.heap.update p f,toks:=t}:=by
 have e:(s.heap.update p f).get? p=some {cls:= .type "list",data:= .seq its'.toArray n'}:=by
  rw[Heap.get?_update_self f ho (by rw[hf] <;> rfl),hf]
 refine I.write (x:=p) (e:=p) (by rw[h];trivial) (.inl rfl) (fun b u hb q=>(Heap.get?_update_other _ _ (Ne.symm hb)).trans q) ⟨_,e⟩ ?_
 exact⟨hz,its',n',r,e⟩
def HU:V->V->V->Hp->(Hp->Prop)->Prop:=fun o i v H Q=>∃p xs k j,o= .ref p/\i= .int k/\H p=some (.lst xs)/\ixN xs.length k=some j/\Q (upd H p (.lst (xs.set j v)))
theorem set_list:vt X HU:=by
 intro pins s σ H o i v ov iv u Q I ro ri rv h
 obtain⟨p,xs,k,j,rfl,rfl,hp,hj,q⟩:=h
 cases ro
 obtain⟨t,rfl⟩:=ri
 obtain⟨its,n,r,ho,hz⟩:=I.lst hp
 obtain⟨h1,h2,h3,h4⟩:=uU hj
 have hl:=r.length
 have hn:=rm
 have I':Inv X pins σ (upd H p (.lst (xs.set j v))) {s with heap:=s.heap.update p (Obj.mapSeq (·.setIfInBounds j u))}:=
  I.Fy hp ho (wV its n j u) (r.set rv j) (by rw[qX_];exact hz) s.toks
 by_cases h0:0<=k
 · have hk:k.toNat=j:=by
    rw[seqIndex_of h0 h4]at h1
    exact Option.some.inj h1
   exact PySem.W.ki_setAt ho h0 (by omega) (by rw[qW_,<-hl];exact h4) (by rw[hk];exact⟨_,I',q⟩)
 · have hk:(k+(its.toArray.size:Int)).toNat=j:=by
    rw[seqIndex_neg (by omega) h3]at h1
    rw[qW_,<-hl]
    exact Option.some.inj h1
   exact PySem.W.ki_setBack ho (by omega) (by rw[qW_,<-hl];exact h3) (by omega) (by rw[hk];exact⟨_,I',q⟩)
theorem tX(lo hi:Option Int)(n:Nat):(sliceBounds lo hi none n).1=((HT.sIx n 0 lo:Nat):Int)/\(sliceBounds lo hi none n).2.1=((HT.sIx n n hi:Nat):Int)/\(sliceBounds lo hi none n).2.2=1:=by
 refine⟨?_,?_,rfl⟩
 · cases lo with
   |none=>simp [sliceBounds,HT.sIx]
   |some i=>
    simp only[sliceBounds,HT.sIx,Option.getD_none,show (1:Int) > 0 by decide,if_true]
    by_cases h:i < 0
    · simp only[h,if_true] <;> omega
    · simp only[h,if_false] <;> omega
 · cases hi with
   |none=>simp [sliceBounds,HT.sIx]
   |some i=>
    simp only[sliceBounds,HT.sIx,Option.getD_none,show (1:Int) > 0 by decide,if_true]
    by_cases h:i < 0
    · simp only[h,if_true] <;> omega
    · simp only[h,if_false] <;> omega
theorem sE(its:List Value)(lo hi:Option Int):slicePick its.toArray lo hi none=((its.drop (HT.sIx its.length 0 lo)).take (HT.sIx its.length its.length hi - HT.sIx its.length 0 lo)).toArray:=by
 obtain⟨h1,h2,h3⟩:=tX lo hi its.toArray.size
 unfold slicePick
 rw[h1,h2,h3]
 simp only[sliceRange_one,pick_run,qW_] <;> rfl
def GI(K:PySem.W.Frag):V->Option Int->Option Int->Hp->VK->Prop:=fun x lo hi H Q=>∃a xs,x= .ref a/\SqL K H a xs/\∀p,H p=none->Q (.ref p) (upd H p (.lst (sk xs lo hi)))
theorem CO:SlR X (GI X.K):=by
 intro pins s σ H x v vl vu lo hi sl Q I rx hs pl pu h
 obtain⟨a,xs,rfl,hx,q⟩:=h
 cases rx
 obtain⟨its,r,ht,hz⟩:=I.list hx
 have hlen:=r.length
 refine⟨"list",_,slot_list_getitem.lookup,ht.isList.typeIs,?_⟩
 refine wpAny_getItem_list_slice ht.isList hs pl pu .none (by simp) ?_ (by rw[qW_] <;> omega)
 rw[sE,<-hlen]
 refine⟨.ref s.heap.objs.size,_,I.laid (t':=s.toks) (o:= .lst (sk xs lo hi)) (fun b ob q=>Heap.get?_push_of_some _ q) (qO_ _) ?_,rfl,q _ (I.hok.fresh (qO_ _))⟩
 exact⟨Nat.le_trans (pO xs lo hi) hz,_,0,(r.drop (HT.sIx xs.length 0 lo)).take (HT.sIx xs.length xs.length hi - HT.sIx xs.length 0 lo),Heap.get?_push_size _ rfl⟩
theorem iz.or{f:Value}{r r':List V->Hp->VK->Prop}(h:iz X f r)(h':iz X f r'):iz X f (fun xs H Q=>r xs H Q\/r' xs H Q):=by
 intro pins s σ H xs us Q I rs q
 rcases q with q |q
 · exact h pins s σ H xs us Q I rs q
 · exact h' pins s σ H xs us Q I rs q
theorem t9:iz X (.type "list") (fun xs H Q=>∃p ys,xs=[.ref p]/\(SqL X.K H p ys\/SqT X.K H p ys)/\∀l,H l=none->Q (.ref l) (upd H l (.lst ys))):=by
 intro pins s σ H xs us Q I r h
 obtain⟨p,ys,rfl,hq,q⟩:=h
 obtain⟨u,rfl,rx⟩:=vals1 r
 cases rx
 have fin:∀(its:List Value),Vals ys its->ys.length<=sizeLine->∀(h':Heap) (c':Nat),(∀b o',s.heap.get? b=some o'->h'.get? b=some o')->
  h'.get? s.heap.objs.size=some {cls:= .type "list",dict:=none,data:= .seq its.toArray c',slots:=#[]}->EP X pins σ Q (.ref s.heap.objs.size) {s with heap:=h'}:=fun its r' hz h' c' kp e=>
  ⟨.ref s.heap.objs.size,_,I.laid (t':=s.toks) kp (qO_ _) (show dO X.prog X.w _ h' _ (.lst ys)from⟨hz,its,c',r',e⟩),rfl,q _ (I.hok.fresh (qO_ _))⟩
 rcases hq with hq |hq
 · obtain⟨its,r',pl,hz⟩:=I.list hq
   have hlen:=r'.length
   obtain⟨o,ho,hc,n,hd⟩:=pl.isList
   exact call_list_seq p (.inl rfl) ho hc hd (fun h' c' kp e=>fin its r' hz h' c' kp e) (by simp only[qW_] <;> omega)
 · obtain⟨its,r',pl,hz⟩:=I.tuple hq
   have hlen:=r'.length
   obtain⟨o,ho,hc,n,hd⟩:=pl
   exact call_list_seq p (.inr rfl) ho hc hd (fun h' c' kp e=>fin its r' hz h' c' kp e) (by simp only[qW_] <;> omega)
def tyV(K:PySem.W.Frag)(T:String)(x:V)(H:Hp):Prop:=match x with
 | .str _=>T="str"
 | .int _=>T="int"
 | .ref p=>(T="list"/\∃xs,SqL K H p xs)\/(T="tuple"/\∃o,K.lookup p=some o/\o.cls= .type "tuple"/\o.dict=none)\/
    (T="dict"/\((∃kvs,H p=some (.dK kvs))\/∃kvs,H p=some (.dT kvs)))\/(T="set"/\∃S n,H p=some (.set S n))
 |_=>False
theorem w4{pins:List (Addr×Obj)}{σ:St}{H:Hp}{s:Shared}{T:String}{x:V}{v:Value}(I:Inv X pins σ H s)(r:RelV x v)(ty:tyV X.K T x H):
 s.TypeIs v T/\∀a,v= .ref a->∃ob,s.heap.get? a=some ob/\ob.dict=none:=by
 cases x with
 |str z=>
  obtain⟨t,rfl⟩:=r
  cases (show T="str" from ty)
  exact⟨typeIs_str s z t,fun _ e=>nomatch e⟩
 |int i=>
  obtain⟨t,rfl⟩:=r
  cases (show T="int" from ty)
  exact⟨typeIs_int s i t,fun _ e=>nomatch e⟩
 |ref p=>
  cases r
  rcases ty with ⟨rfl,xs,hq⟩ |⟨rfl,o,hk,hc,hd⟩ |⟨rfl,hk⟩ |⟨rfl,S,n,hk⟩
  · obtain⟨its,_,pl,_⟩:=I.list hq
    refine⟨pl.isList.typeIs,fun a e=>?_⟩
    cases e
    obtain⟨o,n,e,c,hd,_⟩:=pl
    exact⟨o,e,hd⟩
  · refine⟨⟨o,I.kIn p o hk,hc⟩,fun a e=>?_⟩
    cases e
    exact⟨o,I.kIn _ o hk,hd⟩
  · have z:∃o,s.heap.get? p=some o/\o.ExactDict:=by
     rcases hk with ⟨kvs,hk⟩ |⟨kvs,hk⟩
     · obtain⟨_,_,_,_,o,_,_,e,ex,_⟩:=I.hok p _ hk
       exact⟨o,e,ex⟩
     · obtain⟨_,_,_,_,o,_,_,e,ex,_⟩:=I.hok p _ hk
       exact⟨o,e,ex⟩
    obtain⟨o,e,ex⟩:=z
    refine⟨⟨o,e,ex.1⟩,fun a e2=>?_⟩
    cases e2
    exact⟨o,e,ex.2.1⟩
  · obtain⟨o,_,_,_,e,ex,_⟩:=I.hok p _ hk
    refine⟨⟨o,e,ex.1⟩,fun a e2=>?_⟩
    cases e2
    exact⟨o,e,ex.2.1⟩
 |_=>exact False.elim ty
def tBM(K:PySem.W.Frag)(T:String)(r:V->List V->Hp->VK->Prop)(to:TE)(t:TA):TE:=fun σ H Q=>to σ H fun x H1=>tyV K T x H1/\t σ H1 fun xs H2=>r x xs H2 Q
variable{o e:Expr}{es:List Expr}{to:TE}{t:TA}{name:Str}{apos cpos:Pos}{T id:String}{r:V->List V->Hp->VK->Prop}
theorem AG(pa:PlainAttrs T)(slot:Slot T name id)(hty:typeOf (.builtin id)=pure (.type "method_descriptor"))(hm:MtR X id r)(ho:PE X o to)(ha:PA X (e :: es) t)
 (hbase:attributeBase o name X.env (eval o X.env)=eval o X.env:=by rfl)
 (hfew:((backTo cpos (starEach (e :: es) X.env)).all (fun x=>!x.1)&&(backToKw cpos (keywordEach [] X.env)).all (fun x=>x.1.isSome)
   &&decide ((e :: es).length+([]:List Keyword).length+(if ([]:List Keyword).isEmpty then 0 else 1) < 30))=true:=by rfl)
 (hline:(apos.endLine==cpos.line)=true:=by rfl) (hs:starEach (e :: es) X.env=(false,eval e X.env) :: starEach es X.env:=by rfl) (hplain:(backTo cpos (starEach es X.env)).any (·.1)=false:=by rfl):
 PE X (.Call (.Attribute o name apos) (e :: es) [] cpos) (tBM X.K T r to t):=by
 intro pins s σ H Q I h
 refine wpAny_Call_method_late hbase hfew hline rfl (thn (ho pins s σ H _ I h) fun v s1 ⟨x,H1,I1,r1,ty,q1⟩=>?_)
 obtain⟨h1,h2⟩:=w4 I1 r1 ty
 refine⟨T,id,pa,slot,hty,h1,h2,?_⟩
 have hA:=ha cpos pins s1 σ H1 _ I1 q1
 rw[hs]at hA ⊢
 refine Calls.callWith_builtin (by show (false||(backTo cpos (starEach es X.env)).any (·.1))=false;rw[hplain] <;> rfl) (Calls.evalArgs_plain ?_)
 exact thn hA fun us s2 ⟨vs,H2,I2,r2,q2⟩=>hm pins s2 σ H2 x vs v us Q I2 r1 r2 q2
end
def MtM(X:Cx)(id:String)(r:V->List V->Hp->VK->Prop):Prop:=
 ∀(pins:List (Addr×Obj)) (s:Shared) (σ:St) (H:Hp) (x:V) (xs:List V) (v:Value) (us:List Value) (Q:VK),Inv X pins σ H s->RelV x v->Vals xs us->r x xs H Q->
  wpAny (model X.prog X.w) X.A (call (.builtin id) (v :: us)) (EP X pins σ Q) X.xe s
theorem Vals.one:∀{x:V} {us:List Value},Vals [x] us->∃u,us=[u]/\RelV x u
 |_,_,.cons r .nil=>⟨_,rfl,r⟩
theorem Vals.eraseIdx:∀{xs:List V} {us:List Value} (i:Nat),Vals xs us->Vals (xs.eraseIdx i) (us.eraseIdx i)
 |_,_,_,.nil=>.nil
 |_,_,0,.cons _ t=>t
 |_,_,i+1,.cons r t=>.cons r (Vals.eraseIdx i t)
theorem Vals.rep{xs:List V}{us:List Value}(h:Vals xs us):∀k:Nat,Vals (List.replicate k xs).flatten (List.replicate k us).flatten
 |0=>.nil
 |k+1=>by
  rw[List.replicate_succ,List.replicate_succ,List.flatten_cons,List.flatten_cons]
  exact Vals.append h (Vals.rep h k)
theorem sV{α:Type}:∀(l:List α) (i:Nat),(l.eraseIdx i).length<=l.length
 | [],_=>qO_ _
 |_ :: _,0=>Nat.le_succ _
 |_ :: r,i+1=>Nat.succ_le_succ (sV r i)
theorem foldl_rep(its:List Value):∀(k:Nat) (acc:List Value),
 List.foldl (fun x1 x2=>x1++x2) acc.toArray (List.replicate k its.toArray)=(acc++(List.replicate k its).flatten).toArray
 |0,acc=>by simp
 |k+1,acc=>by
  have e:acc.toArray++its.toArray=(acc++its).toArray:=by simp
  have e2:(acc++its)++(List.replicate k its).flatten=acc++(List.replicate (k+1) its).flatten:=by
   rw[List.replicate_succ,List.flatten_cons,List.append_assoc]
  rw[<-e2,<-foldl_rep its k (acc++its),<-e,List.replicate_succ,List.foldl_cons]
section
variable{X:Cx}{pins:List (Addr×Obj)}{σ:St}{H:Hp}{s:Shared}{l b:Addr}{xs ys zs:List V}
theorem Inv.FX{its its':List Value}{n:Nat}{f:Array Value->Array Value}{t':Nat}(I:Inv X pins σ H s)(hH:H l=some (.lst xs))
 (e:s.heap.get? l=some {cls:= .type "list",data:= .seq its.toArray n}) (hf:f its.toArray=its'.toArray) (hv:Vals ys its') (hz:ys.length<=sizeLine):
 Inv X pins σ (upd H l (.lst ys)) {s with heap:=s.heap.update l (Obj.mapSeq f),toks:=t'}:=by
 have q:=PySem.IsL.update e f
 rw[hf]at q
 refine I.write (x:=l) (e:=l) (by rw[hH];exact trivial) (.inl rfl) (fun b' u hb hu=>(Heap.get?_update_other s.heap (Obj.mapSeq f) (Ne.symm hb)).trans hu) ⟨_,q⟩ ?_
 exact⟨hz,its',_,hv,q⟩
theorem Inv.Ho{its:List Value}{t':Nat}(I:Inv X pins σ H s)(hv:Vals ys its)(hz:ys.length<=sizeLine):
 Inv X pins σ (upd H s.heap.objs.size (.lst ys)) {s with heap:=s.heap.push {cls:= .type "list",data:= .seq its.toArray},toks:=t'}:=
 I.laid (fun _ _ q=>Heap.get?_push_of_some _ q) (qO_ _) ⟨hz,its,0,hv,Heap.get?_push_size _ rfl⟩
theorem Inv.fresh(I:Inv X pins σ H s):H s.heap.objs.size=none:=I.hok.fresh (qO_ _)
theorem Inv.xb(I:Inv X pins σ H s)(hH:H l=some (.lst xs)):xs.length<=sizeLine/\∃(its:List Value) (n:Nat),Vals xs its/\xs.length=its.length/\s.heap.get? l=some {cls:= .type "list",data:= .seq its.toArray n}:=by
 obtain⟨z,its,n,r,e⟩:=I.hok l _ hH
 exact⟨z,its,n,r,r.length,e⟩
theorem vj{n:Nat}(h:n<=sizeLine):Builtin.List.listTooLong n=false:=by
 unfold Builtin.List.listTooLong
 exact qa_ (by omega)
end
section
variable{X:Cx}
def Dx:V->List V->Hp->VK->Prop:=fun x vs H Q=>∃l xs y,x= .ref l/\vs=[y]/\H l=some (.lst xs)/\xs.length < sizeLine/\Q .non (upd H l (.lst (xs++[y])))
theorem sH:MtM X "list.append" Dx:=by
 intro pins s σ H x vs v us Q I rx rv h
 obtain⟨l,xs,y,rfl,rfl,hH,hz,q⟩:=h
 cases rx
 obtain⟨u,rfl,ru⟩:=rv.one
 obtain⟨z,its,n,r,hl,e⟩:=I.xb hH
 refine call_meets F.slot_list_append ⟨_,e,rfl⟩ F.entry_list_append (F.args_list_append_2 _ _) (PySem.list_append l its.toArray n u (by rw[qW_];omega)) ⟨e,?_⟩
 refine⟨.non,_,I.FX (its':=its++[u]) hH e (by simp) (r.append (.cons ru .nil)) ?_,rfl,q⟩
 rw[qN_,List.length_singleton]
 omega
def Dl:V->List V->Hp->VK->Prop:=fun x vs H Q=>∃l b xs zs,x= .ref l/\vs=[.ref b]/\H l=some (.lst xs)/\H b=some (.lst zs)/\xs.length+zs.length<=sizeLine/\Q .non (upd H l (.lst (xs++zs)))
theorem y0:MtM X "list.extend" Dl:=by
 intro pins s σ H x vs v us Q I rx rv h
 obtain⟨l,b,xs,zs,rfl,rfl,hH,hB,hz,q⟩:=h
 cases rx
 obtain⟨u,rfl,ru⟩:=rv.one
 cases ru
 obtain⟨z,its,n,r,hl,e⟩:=I.xb hH
 obtain⟨z2,its2,n2,r2,hl2,e2⟩:=I.xb hB
 have hsz:its.toArray.size+its2.toArray.size<=sizeLine:=by rw[qW_,qW_];omega
 have hlong:¬(!its.toArray.isEmpty&&Builtin.List.listTooLong (its.toArray.size+its2.toArray.size))=true:=by
  rw[vj hsz,Bool.and_false]
  exact qC_
 refine call_meets F.slot_list_extend ⟨_,e,rfl⟩ F.entry_list_extend (F.args_list_extend_2 _ _)
  (AutoSeq1.list_extend_list_list_0 l its.toArray n b its2.toArray n2 hlong (by rw[qW_];omega) (by omega)) ⟨e,e2,?_⟩
 refine⟨.non,_,I.FX (its':=its++its2) hH e (by simp) (r.append r2) ?_,rfl,q⟩
 rw[qN_]
 omega
def Ec:V->List V->Hp->VK->Prop:=fun x vs H Q=>∃l xs i k y,x= .ref l/\vs=[.int i]/\H l=some (.lst xs)/\-(2 ^ 63)<=i/\i < 2 ^ 63/\seqIndex? i xs.length=some k/\xs[k]? =some y/\Q y (upd H l (.lst (xs.eraseIdx k)))
theorem Bm:MtM X "list.pop" Ec:=by
 intro pins s σ H x vs v us Q I rx rv h
 obtain⟨l,xs,i,k,y,rfl,rfl,hH,h1,h2,hk,hy,q⟩:=h
 cases rx
 obtain⟨u,rfl,ru⟩:=rv.one
 obtain⟨t,rfl⟩:=ru
 obtain⟨z,its,n,r,hl,e⟩:=I.xb hH
 obtain⟨w,hw,rw'⟩:=r.get hy
 refine call_meets F.slot_list_pop ⟨_,e,rfl⟩ F.entry_list_pop (F.args_list_pop_2 _ _)
  (MeetsSeq.list_pop_at l its.toArray n i t k w (fitsIndex_both h1 h2) (by rw[qW_,<-hl];exact hk) (by rw[<-Array.getElem?_toList];exact hw) (by rw[qW_];omega)) ⟨e,?_⟩
 refine⟨y,_,I.FX (its':=its.eraseIdx k) hH e ?_ (r.eraseIdx k) ?_,rw',q⟩
 · show its.toArray.eraseIdxIfInBounds k=(its.eraseIdx k).toArray
   rw[List.eraseIdxIfInBounds_toArray]
 · have:=sV xs k
   omega
def H4:R2:=fun x y H Q=>∃l b xs zs,x= .ref l/\y= .ref b/\H l=some (.lst xs)/\H b=some (.lst zs)/\xs.length+zs.length<=sizeLine/\∀p,H p=none->Q (.ref p) (upd H p (.lst (xs++zs)))
theorem Fq:OpR X (binaryOp .Add) H4:=by
 intro pins s σ H x y v u Q I rx ry h
 obtain⟨l,b,xs,zs,rfl,rfl,hH,hB,hz,q⟩:=h
 cases rx
 cases ry
 obtain⟨z,its,n,r,hl,e⟩:=I.xb hH
 obtain⟨z2,its2,n2,r2,hl2,e2⟩:=I.xb hB
 refine PySem.P.add_list e e2 ?_ (by rw[qW_,qW_];omega)
 have ea:its.toArray++its2.toArray=(its++its2).toArray:=by simp
 rw[ea]
 exact⟨.ref _,_,I.Ho (t':=s.toks) (r.append r2) (by rw[qN_];omega),rfl,q _ I.fresh⟩
def GS:R2:=fun x y H Q=>∃l k xs,x= .ref l/\y= .int k/\H l=some (.lst xs)/\-(2 ^ 63)<=k/\k < 2 ^ 63/\xs.length*k.toNat<=sizeLine/\
 ∀p,H p=none->Q (.ref p) (upd H p (.lst (List.replicate k.toNat xs).flatten))
theorem len_rep{α:Type}(xs:List α)(k:Nat):(List.replicate k xs).flatten.length=k*xs.length:=by
 induction k with
 |zero=>simp
 |succ k ih=>rw[List.replicate_succ,List.flatten_cons,qN_,ih,Nat.succ_mul,Nat.add_comm]
theorem Ep:OpR X (binaryOp .Mult) GS:=by
 intro pins s σ H x y v u Q I rx ry h
 obtain⟨l,k,xs,rfl,rfl,hH,h1,h2,hz,q⟩:=h
 cases rx
 obtain⟨t,rfl⟩:=ry
 obtain⟨z,its,n,r,hl,e⟩:=I.xb hH
 have hlen:its.toArray.size*k.toNat<=sizeLine:=by rw[qW_,<-hl];exact hz
 have hcap:¬its.toArray.size*k.toNat > (2 ^ 63 - 1) / 8:=by
  have:(sizeLine:Nat)<=(2 ^ 63 - 1) / 8:=by decide
  omega
 have hfit:¬(!Builtin.List.listFitsIndex k)=true:=by
  rw[fitsIndex_both h1 h2]
  exact qC_
 have hlong:¬Builtin.List.listTooLong (its.toArray.size*k.toNat)=true:=by
  rw[vj hlen]
  exact qC_
 have hnew:List.foldl (fun x1 x2=>x1++x2) #[] (List.replicate (if its.toArray.isEmpty=true then 0 else k.toNat) its.toArray)=(List.replicate k.toNat its).flatten.toArray:=by
  have f0:∀m:Nat,List.foldl (fun x1 x2=>x1++x2) #[] (List.replicate m its.toArray)=(List.replicate m its).flatten.toArray:=fun m=>by
   have:=foldl_rep its m []
   rw[qc_]at this
   exact this
  rw[f0]
  cases its with
  |nil=>simp
  |cons a r'=>rw[if_neg (by simp)]
 refine wpAny_binaryOp_repeat_ref (T:="list") (U:="int") (by decide) ⟨_,e,rfl⟩ (fun s'=>typeIs_int s' k t) noFill_list_mul F.fills_int_mul F.slot_int_rmul repeat_list F.slot_int_index.lookup
  (call_meets F.slot_int_rmul (typeIs_int s k t) F.entry_int_rmul (F.args_int_rmul_2 _ _) (int___rmul___int_list k t l its.toArray n)
    ⟨e,rfl,⟨_,e,rfl⟩,call_meets F.slot_list_mul ⟨_,e,rfl⟩ F.entry_list_mul (F.args_list_mul_2 _ _) (AutoListH.list___mul___list_int_3 l its.toArray n k t hfit hcap hlong) ⟨e,?_⟩⟩)
 rw[hnew]
 exact⟨.ref _,_,I.Ho (t':=s.toks) (r.rep k.toNat) (by rw[len_rep,Nat.mul_comm];exact hz),rfl,q _ I.fresh⟩
end
section
variable{κ:Type} [DecidableEq κ]
def kM(kvs:List (κ×V))(k:κ):Option V:=(kvs.find? fun kv=>decide (kv.1=k)).map (·.2)
def putK(kvs:List (κ×V))(k:κ)(v:V):List (κ×V):=
 if (kvs.any fun kv=>decide (kv.1=k))=true then kvs.map (fun kv=>if kv.1=k then (kv.1,v)else kv)else kvs++[(k,v)]
theorem rF{p:κ×V}{r:List (κ×V)}{k:κ}(e:p.1=k):kM (p :: r) k=some p.2:=by simp [kM,List.find?_cons,e]
theorem qy{p:κ×V}{r:List (κ×V)}{k:κ}(e:¬p.1=k):kM (p :: r) k=kM r k:=by simp [kM,List.find?_cons,e]
theorem wL(k:κ):∀kvs:List (κ×V),(kvs.any fun kv=>decide (kv.1=k))=(kM kvs k).isSome
 | []=>rfl
 |p :: r=>by
  rw[List.any_cons]
  by_cases e:p.1=k
  · simp only[rF e,qZ_ e,Bool.true_or,Option.isSome_some]
  · rw[qy e,qa_ e,Bool.false_or];exact wL k r
theorem pH(kvs:List (κ×V))(k:κ)(v:V):(putK kvs k v).length<=kvs.length+1:=by
 unfold putK
 split
 · rw[qM_];omega
 · rw[qN_,List.length_cons,List.length_nil];omega
theorem mI.j0{o:Option V}{u:Option Value}(r:mI o u):o.isSome=u.isSome:=by
 cases o with
 |none=>cases u with
  |none=>rfl
  |some _=>exact(show False from r).elim
 |some _=>cases u with
  |none=>exact(show False from r).elim
  |some _=>rfl
theorem KV.val{kvs:List (κ×V)}{vs:List (κ×Value)}(r:KV kvs vs)(k:κ):mI (kM kvs k) (valueAt vs k):=by
 unfold KV at r
 induction r with
 |nil=>exact True.intro
 |@cons p q ps qs h t ih=>
  obtain⟨h1,h2⟩:=h
  by_cases e:p.1=k
  · have e':q.1=k:=h1.symm.trans e
    have b:valueAt (q :: qs) k=some q.2:=by simp [valueAt,List.find?_cons,e']
    rw[rF e,b];exact h2
  · have e':¬q.1=k:=fun z=>e (h1.trans z)
    have b:valueAt (q :: qs) k=valueAt qs k:=by simp [valueAt,List.find?_cons,e']
    rw[qy e,b];exact ih
theorem KV.any{kvs:List (κ×V)}{vs:List (κ×Value)}(r:KV kvs vs)(k:κ):(kvs.any fun kv=>decide (kv.1=k))=vs.any fun kv=>decide (kv.1=k):=by
 unfold KV at r
 induction r with
 |nil=>rfl
 |cons h t ih=>rw[List.any_cons,List.any_cons,ih,h.1]
theorem KV.Ef{kvs:List (κ×V)}{vs:List (κ×Value)}(r:KV kvs vs)(k:κ){y:V}{u:Value}(ry:RelV y u):
 KV (kvs.map fun kv=>if kv.1=k then (kv.1,y)else kv) (vs.map fun kv=>if kv.1=k then (kv.1,u)else kv):=by
 unfold KV at r ⊢
 induction r with
 |nil=>exact .nil
 |@cons p q ps qs h t ih=>
  rw[List.map_cons,List.map_cons]
  refine .cons ?_ ih
  obtain⟨h1,h2⟩:=h
  by_cases e:p.1=k
  · rw[if_pos e,if_pos (h1.symm.trans e)];exact⟨h1,ry⟩
  · rw[if_neg e,if_neg (fun z=>e (h1.trans z))];exact⟨h1,h2⟩
theorem KV.put{kvs:List (κ×V)}{vs:List (κ×Value)}(r:KV kvs vs)(k:κ){y:V}{u:Value}(ry:RelV y u):KV (putK kvs k y) (stored vs k u):=by
 unfold putK stored
 rw[r.any k]
 by_cases e:(vs.any fun kv=>decide (kv.1=k))=true
 · rw[if_pos e,if_pos e];exact r.Ef k ry
 · rw[if_neg e,if_neg e];exact Paired.snoc r ⟨rfl,ry⟩
theorem KV.length{kvs:List (κ×V)}{vs:List (κ×Value)}(r:KV kvs vs):kvs.length=vs.length:=Paired.length r
end
theorem vO{P:Program}{w:World}{k:Key}{u:Value}(r:RelV (kV k) u):(du P w).is k u=true:=by
 cases k with
 |inl i=>obtain⟨t,e⟩:=(show ∃t,u=Value.int i t from r);subst e;exact vS P w i t
 |inr x=>obtain⟨t,e⟩:=(show ∃t,u=Value.str x t from r);subst e;exact vw P w x t
theorem tF{P:Program}{w:World}:∀{ks:List Key} {us:List Value},Vals (ks.map kV) us->ItemsAre (du P w) ks us
 | [],_,r=>by rw[List.map_nil]at r;cases r;exact .nil
 |k :: ks,_,r=>by
  rw[List.map_cons]at r
  cases r with
  |cons h t=>exact .cons (vO h) (tF t)
abbrev KT(H:Hp):List (List Key×V)->List (List Key×Addr×Value)->Prop:=Paired fun p q=>p.1=q.1/\H q.2.1=some (.tup (p.1.map kV))/\RelV p.2 q.2.2
theorem KT.val{H:Hp}{kvs:List (List Key×V)}{xs:List (List Key×Addr×Value)}(r:KT H kvs xs)(k:List Key):mI (kM kvs k) ((atKey xs k).map (·.2)):=by
 induction r with
 |nil=>exact True.intro
 |@cons p q ps qs h t ih=>
  obtain⟨h1,_,h2⟩:=h
  by_cases e:p.1=k
  · have e':q.1=k:=h1.symm.trans e
    have b:atKey (q :: qs) k=some q.2:=by simp [atKey,List.find?_cons,e']
    rw[rF e,b];exact h2
  · have e':¬q.1=k:=fun z=>e (h1.trans z)
    have b:atKey (q :: qs) k=atKey qs k:=by simp [atKey,List.find?_cons,e']
    rw[qy e,b];exact ih
theorem KT.Ef{H:Hp}{kvs:List (List Key×V)}{xs:List (List Key×Addr×Value)}(r:KT H kvs xs)(k:List Key){y:V}{u:Value}(ry:RelV y u):
 KT H (kvs.map fun kv=>if kv.1=k then (kv.1,y)else kv) (xs.map (putAt k u)):=by
 induction r with
 |nil=>exact .nil
 |@cons p q ps qs h t ih=>
  rw[List.map_cons,List.map_cons]
  refine .cons ?_ ih
  obtain⟨h1,h2,h3⟩:=h
  unfold putAt
  by_cases e:p.1=k
  · rw[if_pos e,if_pos (h1.symm.trans e)];exact⟨h1,h2,ry⟩
  · rw[if_neg e,if_neg (fun z=>e (h1.trans z))];exact⟨h1,h2,h3⟩
theorem KT.put{H:Hp}{kvs:List (List Key×V)}{xs:List (List Key×Addr×Value)}(r:KT H kvs xs)(k:List Key){b:Addr}{y:V}{u:Value}(hb:H b=some (.tup (k.map kV)))(ry:RelV y u):
 KT H (putK kvs k y) (storedH xs k b u):=by
 have e:(kvs.any fun kv=>decide (kv.1=k))=(atKey xs k).isSome:=by
  rw[wL,(r.val k).j0,Option.isSome_map]
 unfold putK storedH
 rw[e]
 by_cases q:(atKey xs k).isSome=true
 · rw[if_pos q,if_pos q];exact r.Ef k ry
 · rw[if_neg q,if_neg q];exact Paired.snoc r ⟨rfl,hb,ry⟩
theorem KT.keeps{H H':Hp}{kvs:List (List Key×V)}{xs:List (List Key×Addr×Value)}(r:KT H kvs xs)(ht:∀b ys,H b=some (.tup ys)->H' b=some (.tup ys)):KT H' kvs xs:=
 Paired.Cm r fun _ _ z=>⟨z.1,ht _ _ z.2.1,z.2.2⟩
section
variable{P:Program}{w:World}{H:Hp}{h:Heap}{a:Addr}
theorem DI{u:HO}(ok:HOk P w H h)(e:Rd H a u):dO P w H h a u:=e.ok ok
theorem sG{kvs:List (Key×V)}(ok:HOk P w H h)(e:Rd H a (.dK kvs)):kvs.length<=sizeLine/\(a==sysModules)=false/\∃vs,KV kvs vs/\h.DictOf (du P w) a vs:=
 show dO P w H h a (.dK kvs)from DI ok e
theorem BE{kvs:List (Key×V)}(ok:HOk P w H h)(e:H a=some (.dK kvs)):kvs.length<=sizeLine/\(a==sysModules)=false/\∃vs,KV kvs vs/\h.DictOf (du P w) a vs:=sG ok (.inl e)
theorem rQ{ks:List Key}(ok:HOk P w H h)(e:H a=some (.tup (ks.map kV))):(tupleKind (du P w)).is h ks a:=by
 obtain⟨_,its,r,o,h1,h2,n,h3⟩:=(show dO P w H h a (.tup (ks.map kV))from ok a _ e)
 exact⟨o,its.toArray,n,h1,h2,h3,by simpa using tF r⟩
theorem vg{kvs:List (List Key×V)}(ok:HOk P w H h)(e:Rd H a (.dT kvs)):kvs.length<=sizeLine/\(a==sysModules)=false/\
 ∃xs,KT H kvs xs/\h.DictOfH (tupleKind (du P w)) a xs:=by
 obtain⟨z,y,xs,r,o,es,ep,h1,h2,h3,h4,h5⟩:=(show dO P w H h a (.dT kvs)from DI ok e)
 refine⟨z,y,xs,r,o,es,ep,h1,h2,h3,h4,fun x hx=>?_,h5⟩
 have all:∀{l:List (List Key×V)} {m:List (List Key×Addr×Value)},KT H l m->∀x∈m,(tupleKind (du P w)).is h x.1 x.2.1:=by
  intro l m q
  induction q with
  |nil=>intro x hx;exact nomatch hx
  |@cons p q ps qs hq t ih=>
   intro x hx
   rcases qS_.mp hx with e |hx
   · subst e
     exact rQ ok (by rw[<-hq.1];exact hq.2.1)
   · exact ih x hx
 exact all r x hx
theorem HD{kvs:List (List Key×V)}(ok:HOk P w H h)(e:H a=some (.dT kvs)):kvs.length<=sizeLine/\(a==sysModules)=false/\
 ∃xs,KT H kvs xs/\h.DictOfH (tupleKind (du P w)) a xs:=vg ok (.inl e)
end
def rK(H:Hp)(a:Addr)(y:V)(r:Option V):Prop:=
 (∃kvs k,Rd H a (.dK kvs)/\y=kV k/\r=kM kvs k)\/∃kvs k b,Rd H a (.dT kvs)/\y= .ref b/\H b=some (.tup (k.map kV))/\r=kM kvs k
def Ba(H:Hp)(a:Addr)(y v:V)(H':Hp):Prop:=
 (∃kvs k,H a=some (.dK kvs)/\y=kV k/\kvs.length < sizeLine/\H'=upd H a (.dK (putK kvs k v)))\/
 ∃kvs k b,H a=some (.dT kvs)/\y= .ref b/\H b=some (.tup (k.map kV))/\kvs.length < sizeLine/\H'=upd H a (.dT (putK kvs k v))
theorem rK.k{H:Hp}{a:Addr}{kvs:List (Key×V)}{k:Key}(e:H a=some (.dK kvs)):rK H a (kV k) (kM kvs k):= .inl ⟨kvs,k,.inl e,rfl,rfl⟩
theorem Ba.k{H:Hp}{a:Addr}{kvs:List (Key×V)}{k:Key}{v:V}(e:H a=some (.dK kvs))(hl:kvs.length < sizeLine):Ba H a (kV k) v (upd H a (.dK (putK kvs k v))):= .inl ⟨kvs,k,e,rfl,hl,rfl⟩
section
variable{X:Cx}{pins:List (Addr×Obj)}{σ:St}{H:Hp}{s:Shared}{a:Addr}{y v:V}{u r:Value}{o:Option V}{A:Around}{E:Value->Shared->Prop}
theorem Inv.big(I:Inv X pins σ H s):sysModules < s.heap.objs.size:=by
 have h:mainGlobals < s.heap.objs.size:=(I.mod.glob.keeps I.bk).lt
 exact Nat.lt_trans (by decide) h
theorem zt{Q:Value->Shared->Prop}(hu:A.units+1 < cLine)(I:Inv X pins σ H s)(g:rK H a y (some v))(ry:RelV y u)(h:∀w' s',Inv X pins σ H s'->RelV v w'->Q w' s'):
 wpAny (model X.prog X.w) A (getItem (.ref a) u) Q E s:=by
 rcases g with ⟨kvs,k,e,ey,l⟩ |⟨kvs,k,b,e,ey,eb,l⟩
 · subst ey
   obtain⟨z,hd,vs,rel,dd⟩:=sG I.hok e
   obtain⟨w',hw,rw'⟩:=mI.some_of (v:=v) (o:=valueAt vs k) (by rw[l];exact rel.val k)
   exact wpAny_getItem_of (vO ry) dd.mapOf hw (h w' _ (I.tok _) rw')
 · subst ey
   cases (show u=Value.ref b from ry)
   obtain⟨z,hd,xs,rel,dd⟩:=vg I.hok e
   obtain⟨w',hw,rw'⟩:=mI.some_of (v:=v) (o:=(atKey xs k).map (·.2)) (by rw[l];exact rel.val k)
   obtain⟨p,hp,hp2⟩:=Option.map_eq_some_iff.mp hw
   refine wpAny_getItem_heap (tupleKind_room_in1 hu) (rQ I.hok eb) dd hp ?_
   rw[hp2]
   exact h w' _ (I.tok _) rw'
theorem Ik{Q:Value->Shared->Prop}(hu:A.units+1 < cLine)(I:Inv X pins σ H s)(g:rK H a y o)(ry:RelV y u)(h:∀s',Inv X pins σ H s'->Q (.bool o.isSome) s'):
 wpAny (model X.prog X.w) A (compareOp .In u (.ref a)) Q E s:=by
 rcases g with ⟨kvs,k,e,ey,l⟩ |⟨kvs,k,b,e,ey,eb,l⟩
 · subst ey
   obtain⟨z,hd,vs,rel,dd⟩:=sG I.hok e
   refine wpAny_in_of (vO ry) hd dd.mapOf ?_
   rw[<-(rel.val k).j0,<-l]
   exact h _ (I.tok _)
 · subst ey
   cases (show u=Value.ref b from ry)
   obtain⟨z,hd,xs,rel,dd⟩:=vg I.hok e
   refine wpAny_in_heap (tupleKind_room_in1 hu) (rQ I.hok eb) hd dd ?_
   have q:=(rel.val k).j0
   rw[Option.isSome_map]at q
   rw[<-q,<-l]
   exact h _ (I.tok _)
theorem CW{Q:Value->Shared->Prop}(hu:A.units+1 < cLine)(I:Inv X pins σ H s)(g:rK H a y o)(ry:RelV y u)(h:∀s',Inv X pins σ H s'->Q (.bool (!o.isSome)) s'):
 wpAny (model X.prog X.w) A (compareOp .NotIn u (.ref a)) Q E s:=by
 rcases g with ⟨kvs,k,e,ey,l⟩ |⟨kvs,k,b,e,ey,eb,l⟩
 · subst ey
   obtain⟨z,hd,vs,rel,dd⟩:=sG I.hok e
   refine wpAny_notIn_of (vO ry) hd dd.mapOf ?_
   rw[<-(rel.val k).j0,<-l]
   exact h _ (I.tok _)
 · subst ey
   cases (show u=Value.ref b from ry)
   obtain⟨z,hd,xs,rel,dd⟩:=vg I.hok e
   refine wpAny_notIn_heap (tupleKind_room_in1 hu) (rQ I.hok eb) hd dd ?_
   have q:=(rel.val k).j0
   rw[Option.isSome_map]at q
   rw[<-q,<-l]
   exact h _ (I.tok _)
theorem yJ{h':Heap}{t':Nat}{ob:HO}(I:Inv X pins σ H s)(mu:Mut (H a))(hs:Heap.SameBut a s.heap h')(he:∃q,h'.get? a=some q)(new:dO X.prog X.w (upd H a ob) h' a ob):
 Inv X pins σ (upd H a ob) {s with heap:=h',toks:=t'}:=
 I.write (x:=a) (e:=a) mu (.inl rfl) (fun b q hb z=>(hs.2 b hb).trans z) he new
theorem ET{P:Program}{w:World}{H':Hp}{h':Heap}{kvs:List (Key×V)}{vs:List (Key×Value)}(z:kvs.length<=sizeLine)(hd:(a==sysModules)=false)(rel:KV kvs vs)(dd:h'.DictOf (du P w) a vs):
 dO P w H' h' a (.dK kvs):=⟨z,hd,vs,rel,dd⟩
theorem zi{H':Hp}{Q:Unit->Shared->Prop}(hu:A.units+1 < cLine)(I:Inv X pins σ H s)(g:Ba H a y v H')(ry:RelV y u)(rv:RelV v r)(h:∀s',Inv X pins σ H' s'->Q () s'):
 wpAny (model X.prog X.w) A (setItem (.ref a) u r) Q E s:=by
 rcases g with ⟨kvs,k,e,ey,l,eH⟩ |⟨kvs,k,b,e,ey,eb,l,eH⟩
 · subst ey eH
   obtain⟨z,hd,vs,rel,dd⟩:=BE I.hok e
   have hz:vs.length<=sizeLine:=by rw[<-rel.length];exact z
   have hl:(putK kvs k v).length<=sizeLine:=by have:=pH kvs k v;omega
   refine wpAny_setItem_pairs (hsz:=hz) (vO ry) dd fun h' dd' hs=>h _ ?_
   have he:∃q,h'.get? a=some q:=let ⟨q,_,_,hq,_⟩:=dd';⟨q,hq⟩
   exact yJ I (by rw[e];exact True.intro) hs he (ET hl hd (rel.put k rv) dd')
 · subst ey eH
   cases (show u=Value.ref b from ry)
   obtain⟨z,hd,xs,rel,dd⟩:=HD I.hok e
   have hz:xs.length<=sizeLine:=by rw[<-Paired.length rel];exact z
   have hl:(putK kvs k v).length<=sizeLine:=by have:=pH kvs k v;omega
   refine wpAny_setItem_heap (hsz:=hz) (tupleKind_room_in1 hu) (rQ I.hok eb) dd fun h' dd' hs=>h _ ?_
   obtain⟨q,es,ep,hq,h2,h3,h4,_,h5⟩:=dd'
   refine yJ I (by rw[e];exact True.intro) hs ⟨q,hq⟩ ⟨hl,hd,_,(rel.put k eb rv).keeps fun c ys ec=>?_,q,es,ep,hq,h2,h3,h4,h5⟩
   rw[aT (A6 ec e (fun z=>nomatch z))]
   exact ec
end
section
variable{X:Cx}{pins:List (Addr×Obj)}{σ:St}{H:Hp}{s:Shared}{a:Addr}{kvs:List (Key×V)}{k:Key}{u:Value}{A:Around}{E:Value->Shared->Prop}
theorem HX{Q:Value->Shared->Prop}(I:Inv X pins σ H s)(e:Rd H a (.dK kvs))(h:∀t s',Inv X pins σ H s'->Q (.int kvs.length t) s'):wpAny (model X.prog X.w) A (call (.builtin "len") [.ref a]) Q E s:=by
 obtain⟨z,hd,vs,rel,dd⟩:=sG I.hok e
 refine call_len_dict hd dd (by rw[<-rel.length];rw[sizeLine_eq]at z;omega) ?_
 rw[<-rel.length]
 exact h _ _ (I.tok _)
end
theorem vE{X:Cx}{pins:List (Addr×Obj)}{σ:St}{H:Hp}{s:Shared}{a:Addr}{y:V}{o:Option V}(I:Inv X pins σ H s)(g:rK H a y o):s.TypeIs (.ref a) "dict":=by
 rcases g with ⟨kvs,k,e,_,_⟩ |⟨kvs,k,b,e,_,_,_⟩
 · obtain⟨_,_,vs,_,dd⟩:=sG I.hok e
   exact dd.typeIs
 · obtain⟨_,_,xs,_,dd⟩:=vg I.hok e
   exact dd.typeIs
theorem Bb{P:Program}{w:World}{H:Hp}(h:Heap)(hb:sysModules < h.objs.size):dO P w H (h.push {cls:= .type "dict",data:= .dict #[]}) h.objs.size (.dK []):=
 ⟨qf_ _,beq_eq_false_iff_ne.mpr (Ne.symm (Nat.ne_of_lt hb)),[],.nil,Heap.DictOf.new h⟩
def Eb:TE:=fun _ H Q=>∀p,H p=none->Q (.ref p) (upd H p (.dK []))
section
variable{X:Cx}{pos:Pos}
theorem BD:PE X (.Dict [] [] pos) Eb:=fun pins s σ H Q I h=>
 wpAny_Dict_empty ⟨.ref s.heap.objs.size,_,I.laid (a:=s.heap.objs.size) (o:= .dK []) (t':=s.toks) (fun _ _ q=>Heap.get?_push_of_some _ q) (qO_ _) (Bb s.heap I.big),rfl,h _ (I.hok.fresh (qO_ _))⟩
end
end L2
namespace Att
open PySem PySem.W PySem.Calls PyProof.Rows
theorem pR{P:Params}{h:Heap}:∀(ns:List Int) (vs:List Value),WellAll P h vs (ns.map WData.int)->IntsAre vs ns:=by
 intro ns
 induction ns with
 |nil=>
  intro vs w
  rw[List.map_nil]at w
  cases w
  exact .nil
 |cons n ns ih=>
  intro vs w
  rw[List.map_cons]at w
  cases w with
  |cons a b=>
   cases a
   exact .cons _ _ (ih _ b)
theorem zK{l:OpenLaw}{n:Nat}(hn:l.most=some n){P:Params}{h:Heap}{args:List WData}{vals:List Value}
 (hpre:l.row.toRowW.claim.pre args=true) (hwl:WellAll P h vals args):
 ∃a vs ns,vals=[Value.ref a]/\args=[WData.list (ns.map WData.int)]/\h.get? a=some {cls:= .type "list",data:= .seq vs.toArray}/\IntsAre vs ns/\ns.length<=n:=by
 have hsh:WShape.hasAll [] args [.list .int]=true:=(pre_splitW hpre).1
 have hc:l.pre.holds [] {args:=args}=true:=(pre_splitW hpre).2
 obtain⟨d,r,rfl,h1,h2⟩:=hasAllW_cons hsh
 obtain rfl:=hasAllW_nil h2
 obtain⟨xs,rfl,h3⟩:=hasW_list h1
 obtain⟨ns,rfl⟩:=items_int h3
 have hlen:ns.length<=n:=by
  unfold OpenLaw.pre at hc
  have h4:(WTm.not (.lt (.lit (.int (n:Int))) (.len (.arg 0)))).holds [] {args:=[.list (ns.map .int)]}=true:=by
   have h4:=(holds_andW hc).1
   rw[hn]at h4
   exact h4
  have h5:=condW_of h4 (w_not (w_lt w_lit (w_len_list (w_arg rfl))))
  rw[qM_]at h5
  refine Nat.le_of_not_lt fun q=>?_
  have q':(n:Int) < ((ns.length:Nat):Int):=by omega
  first
   |(rw[qZ_ q']at h5;exact absurd h5 (by decide))
   |(simp at h5;omega)
 cases hwl with
 |cons w1 w2=>
  cases w2
  cases w1 with
  |list ho au=>exact⟨_,_,ns,rfl,rfl,ho,pR ns _ au,hlen⟩
theorem zo(l:OpenLaw)(args:List WData):l.row.toRowW.claim.post args (.bool true) args=true:=
 postW_of (r:=l.row.toRowW) (X:=(true==true))
  (show WShape.has [] (.bool true) .bool=true by first |rfl |decide |simp [WShape.has,WShape.arms,WShape.armsAll])
  (show (WTm.eq .res (.lit (.bool true))).value [] {args:=args,res:=some (.bool true),after:=args}=some (.bool (true==true))from w_eq_bool (w_res rfl) w_lit) rfl
theorem wx{l:OpenLaw}{n:Nat}{q:Program}{loose:List Str}{XP:(Str->Option Value)->Heap->Prop}{YP:World->Heap->Prop}{d:DefRec}
 (hn:l.most=some n) (hdf:d.params.defaults=[])
 (call:∀(w:World) (s₀ s₁:Shared) (mg mb:Str->Option Value) (fa:Addr) (o:Obj) (pm cd doc:Value) (a:Addr) (vs:List Value) (ns:List Int),
   Ground q loose [] XP w s₀ mg mb s₁.heap->YP w s₁.heap->
   s₁.heap.get? fa=some o->o.data= .func (docDef d.name d.params d.body d.scope pm cd doc)->s₁.heap.CodeRec cd d.name->mg d.name=some (.ref fa)->
   s₁.heap.get? a=some {cls:= .type "list",data:= .seq vs.toArray}->IntsAre vs ns->ns.length<=n->s₁.gens=#[]->
   codeAny (model l.prog w) callerA (.call (.ref fa) ⟨[.ref a],[]⟩) (fun r s'=>r= .ok (.ret (.bool true))/\OldK s₁.heap s'.heap/\s'.os=s₁.os/\AllBare s'.gens) s₁):
 WalkO q loose XP YP l.row.toRowW d [] (fun f vs=>PySem.call f vs):=by
 intro w s₀ s₁ mg mb G Y fa o pm cd doc dV kV ho hd hcd hD hmg hg args vals as hpre hlay hrd hwl hlo
 obtain rfl:dV= .none:=Dflts.none hD hdf
 obtain rfl:kV= .none:=Dflts.noKw hD
 obtain⟨a,vs,ns,rfl,rfl,hobj,hints,hlen⟩:=zK hn hpre hwl
 refine enter_call (codeAny_mono (call w s₀ s₁ mg mb fa o pm cd doc a vs ns G Y ho (fd_plain hd) hcd hmg hobj hints hlen hg) fun r s' hq=>?_)
 obtain⟨rfl,h2,h3,h4⟩:=hq
 exact⟨.inl ⟨.bool true,.bool true,[],rfl,fun _=>rfl,.bool true,zo l _,fun _=>⟨List.Pairwise.nil,fun _ hm=>(nomatch hm)⟩⟩,h2,h3,h4⟩
end Att
namespace L2
open PySem PySem.Spec PyProof.Rows
theorem sJ:∀{vs:List Value} {ns:List Int},IntsAre vs ns->Vals (ns.map V.int) vs
 |_,_,.nil=>.nil
 |_,_,.cons n t h=>.cons ⟨t,rfl⟩ (sJ h)
def BB(H:Hp):Prop:=∀b,H b=none\/∃o xs,H b=some (.frz o (.lst xs))
theorem BO{P:Program}{w:World}{K:PySem.W.Frag}{mg mb:Str->Option Value}{CX:CXT}{k:Nat}{fa a:Addr}{fd:FuncData}{x:Str}{sp:Sp}{s₁:Shared}{vs:List Value}{ns:List Int}
 (KX:K.In s₁.heap) (hns:s₁.heap.Ns mainGlobals mg) (hb:s₁.heap.Ns builtinsNs mb) (hbb:∀x:Str,x≠"__name__"->mb x=bootBuiltins x) (hlim:s₁.heap.NoLimit) (hg:s₁.gens=#[])
 (ha:s₁.heap.get? a=some {cls:= .type "list",data:= .seq vs.toArray}) (hi:IntsAre vs ns) (hl:ns.length<=sizeLine) (hr:fM k callerA)
 (F:∀base:Heap,K.In base->base.Ns mainGlobals mg->bo P w K mg base CX k fa fd [x] sp) (hbind:∀(s:Shared) (u:Value),BindsTo s fd ⟨[u],[]⟩ [(x,u)])
 (hsp:∀H:Hp,BB H->SqL K H a (ns.map V.int)->sp [.ref a] H (fun v _=>v= .bl true) fun _ _ _=>False)
 (hCX:∀H e s',CX [] H s₁ (fun _ _ _=>False) e s'->False):
 codeAny (model P w) callerA (.call (.ref fa) ⟨[.ref a],[]⟩) (fun r s'=>r= .ok (.ret (.bool true))/\OldK s₁.heap s'.heap/\s'.os=s₁.os/\AllBare s'.gens) s₁:=by
 have rv:=sJ hi
 have lenV:=hi.length
 have core:∀H:Hp,BB H->SqL K H a (ns.map V.int)->HOk P w H s₁.heap->(∀b,H b≠none->b=a)->(H a≠none->K.lookup a=none)->
  codeAny (model P w) callerA (.call (.ref fa) ⟨[.ref a],[]⟩) (fun r s'=>r= .ok (.ret (.bool true))/\OldK s₁.heap s'.heap/\s'.os=s₁.os/\AllBare s'.gens) s₁:=by
  intro H hO hS hok hA hK
  have base_of:∀{b:Addr} {o:Obj},s₁.heap.get? b=some o->H b=none->(uS s₁.heap H).get? b=some o:=fun e n=>z9 e n
  have noA:∀{b:Addr} {o:Obj} {es:Array DictEntry} {ep:Nat},s₁.heap.get? b=some o->o.data= .dict es ep->H b=none:=fun {b o es ep} e d=>by
   cases q:H b with
   |none=>rfl
   |some u=>
    have e':b=a:=hA b (by rw[q];simp)
    subst e'
    rw[ha]at e;cases e
    have d':Data.seq vs.toArray _=Data.dict es ep:=d
    cases d'
  have nsK:∀{b:Addr} {m:Str->Option Value},s₁.heap.Ns b m->(uS s₁.heap H).Ns b m:=fun {b m} ⟨o,es,ep,e,d,r⟩=>⟨o,es,ep,base_of e (noA e d),d,r⟩
  have hKb:K.In (uS s₁.heap H):=fun b o e=>base_of (KX b o e) (by
   cases q:H b with
   |none=>rfl
   |some u=>
    have e':b=a:=hA b (by rw[q];simp)
    subst e'
    rw[hK (by rw[q];simp)]at e;cases e)
  have hM:Mod K mg (uS s₁.heap H):=⟨hKb,nsK hns,⟨mb,nsK hb,hbb⟩,let ⟨mc,h1,h2⟩:=hlim;⟨mc,nsK h1,h2⟩⟩
  have e0:xW P w K mg (uS s₁.heap H) callerA [] s₁ H:=⟨rfl,hM,fun b o e=>Df e,Nat.le_of_eq (zl _ _),trivial,fun b hb=>absurd (show b∈([]:List Addr)from hb) (by simp),hok,.of_eq hg⟩
  refine codeAny_mono ((F _ hKb (nsK hns)).run callerA [] s₁ H ⟨[.ref a],[]⟩ [.ref a] [.ref a] _ _ hr e0 (hbind s₁ (.ref a)) (.cons rfl .nil) (hsp H hO hS)) fun r s' h=>?_
  cases r with
  |error e=>exact(hCX H e s' h).elim
  |ok fl=>
   cases fl with
   |next=>exact False.elim h
   |brk=>exact False.elim h
   |cont=>exact False.elim h
   |ret u=>
    obtain⟨v,H',os,bare,un,hok',r',q⟩:=h
    have q':v= .bl true:=q
    subst q'
    obtain rfl:u=Value.bool true:=r'
    refine⟨rfl,OldK.of_keep fun b o e=>?_,os,bare⟩
    cases q:H b with
    |none=>exact un.keep b o e q (by intro z;exact absurd (show b∈([]:List Addr)from z) (by simp)) (by simp)
    |some u=>
     rcases hO b with z |⟨ob,xs,z⟩
     · rw[q]at z;cases z
     · have z2:=un.oU b ob _ z
       obtain⟨e1,_⟩:=hok b _ z
       obtain⟨e2,_⟩:=hok' b _ z2
       rw[e]at e1;cases e1
       exact e2
 cases hk:K.lookup a with
 |some o=>
  have e:=KX a o hk
  rw[ha]at e
  cases e
  refine core (fun _=>none) (fun _=>.inl rfl) (.inr ⟨_,vs.toArray,_,hk,rfl,rfl,rfl,by rw[qW_,lenV];exact hl,by simpa using rv⟩) (fun b u z=>by have z':(none:Option HO)=some u:=z;cases z') (fun b z=>absurd rfl z) fun z=>absurd rfl z
 |none=>
  refine core (fun b=>if b=a then some (.frz {cls:= .type "list",data:= .seq vs.toArray} (.lst (ns.map V.int)))else none) (fun b=>?_) (.inl (.inr ⟨{cls:= .type "list",data:= .seq vs.toArray},if_pos rfl⟩)) (fun b u z=>?_) (fun b z=>?_) fun _=>hk
  · by_cases hb:b=a
    · exact .inr ⟨_,_,if_pos hb⟩
    · exact .inl (if_neg hb)
  · by_cases hb:b=a
    · have z':=(if_pos hb).symm.trans z
      cases z'
      subst hb
      exact⟨ha,by rw[qM_];exact hl,vs,_,rv,ha⟩
    · have z':=(if_neg hb).symm.trans z
      cases z'
  · by_cases hb:b=a
    · exact hb
    · exact absurd (if_neg hb) z
theorem Cj{l:PySem.W.OpenLaw}{n k:Nat}{q:Program}{loose:List Str}{XP:(Str->Option Value)->Heap->Prop}{YP:World->Heap->Prop}{d:DefRec}{K:Params->PySem.W.Frag}{CX:World->CXT}{sp:World->Sp}{x:Str}
 (hn:l.most=some n) (hn2:n<=sizeLine) (hdf:d.params.defaults=[]) (hr:fM k callerA)
 (hY:∀(w:World) (h:Heap),YP w h->(K w.params).In h)
 (F:∀(w:World) (mg:Str->Option Value) (fa:Addr) (h:Heap),(K w.params).In h->h.Ns mainGlobals mg->mg d.name=some (.ref fa)->
   ∃fd:FuncData,(∀(s:Shared) (u:Value),BindsTo s fd ⟨[u],[]⟩ [(x,u)])/\
    ∀base:Heap,(K w.params).In base->base.Ns mainGlobals mg->bo l.prog w (K w.params) mg base (CX w) k fa fd [x] (sp w))
 (hsp:∀(w:World) (H:Hp) (a:Addr) (ns:List Int),ns.length<=n->BB H->SqL (K w.params) H a (ns.map V.int)->sp w [.ref a] H (fun v _=>v= .bl true) fun _ _ _=>False)
 (hCX:∀(w:World) (H:Hp) (s:Shared) (e:Value) (s':Shared),CX w [] H s (fun _ _ _=>False) e s'->False):
 PySem.W.WalkO q loose XP YP l.row.toRowW d [] (fun f vs=>PySem.call f vs):=by
 refine Att.wx hn hdf fun w s₀ s₁ mg mb fa o pm cd doc a vs ns G Y ho hd hcd hmg hobj hints hlen hg=>?_
 have KX:=hY w _ Y
 obtain⟨fd,hb,hF⟩:=F w mg fa _ KX G.T.g hmg
 exact BO KX G.T.g G.T.b G.T.builtins G.T.nolimit hg hobj hints (Nat.le_trans hlen hn2) hr hF hb (fun H hO hS=>hsp w H a ns hlen hO hS) fun H e s'=>hCX w H s₁ e s'
def inClass(s:Stmt)(j:Nat):Stmt:=match s with
 | .ClassDef _ _ _ body _ _ _ _ _ _ _=>body.getD j (.Pass ⟨0,0,0,0⟩)
 |_=>.Pass ⟨0,0,0,0⟩
def aF(s:Stmt):Arguments:=match s with
 | .FunctionDef _ a _ _ _ _ _ _ _ _=>a
 |_=>{posonlyargs:=[],args:=[],vararg:=none,kwonlyargs:=[],kw_defaults:=[],kwarg:=none,defaults:=[]}
def aB(s:Stmt):List Stmt:=match s with
 | .FunctionDef _ _ b _ _ _ _ _ _ _=>b
 |_=>[]
def ak(s:Stmt):Scope:=match s with
 | .FunctionDef _ _ _ _ _ _ sc _ _ _=>sc
 |_=>{kind:= .function,names:=[],isGenerator:=false,isCoroutine:=false}
abbrev CX0:CXT:=fun _ _ _ _ _ _=>False
structure Fun (K:PySem.W.Frag) (x qual:Str) (st:Stmt) (f:Addr) (fd:FuncData):Prop where
 ex:∃(oc:Value) (od:Option Addr) (kV doc pm:Value) (an:Option Addr) (cdv ct:Value) (osl:Array (Option Value)),
  fd=PySem.W.fnOf x qual (aF st) (aB st) (ak st) .none kV doc pm an cdv ct/\K.lookup f=some ⟨oc,od,.func fd,osl⟩/\PySem.W.codeIn K cdv qual=true
 kp:PySem.W.keepIn K (.ref f)=true
section
variable{P:Program}{w:World}{K:PySem.W.Frag}{mg:Str->Option Value}{base:Heap}
theorem Fun.ok{x qual:Str}{st:Stmt}{f:Addr}{fd:FuncData}{N ps:List Str}{k:Nat}{sp:Sp}(F:Fun K x qual st f fd)(S:aE N ps (ak st))(len:∀vs H Q E,sp vs H Q E->vs.length=ps.length)
 (hbody:∀(cdv:Value) (A:Around) (outer:List Env) (s:Shared) (H:Hp) (vs:List V) (Q:VK) (E:XK),fM k (A.deeper (envOfC qual (ak st) s.heap.objs.size f cdv))->sp vs H Q E->
   ∃t,PSs (nu CX0 P w K mg base N qual (ak st) f cdv A outer s H E).nox (aB st) t/\t {nx:=fun _ H'=>Q .non H',rt:=Q} (start N vs) H):bo P w K mg base CX0 (k+1) f fd ps sp:=by
 obtain⟨oc,od,kV,doc,pm,an,cdv,ct,osl,rfl,lk,hcd⟩:=F.ex
 refine DL lk hcd S len fun A outer s H vs Q E hr hsp=>?_
 obtain⟨t,h,q⟩:=hbody cdv A outer s H vs Q E hr hsp
 exact⟨t,h.nox,q⟩
theorem Fun.binds{x qual:Str}{st:Stmt}{f:Addr}{fd:FuncData}{ps:List Str}(F:Fun K x qual st f fd)
 (h:∀(kV doc pm:Value) (an:Option Addr) (cdv ct:Value) (us:List Value),us.length=ps.length->bindArgs (PySem.W.fnOf x qual (aF st) (aB st) (ak st) .none kV doc pm an cdv ct) ⟨us,[]⟩=pure (ps.zip us)):Binds K fd ps []:=by
 obtain⟨oc,od,kV,doc,pm,an,cdv,ct,osl,rfl,lk,hcd⟩:=F.ex
 exact .all (h kV doc pm an cdv ct)
theorem aL{x qual:Str}{st:Stmt}{f:Addr}{oc:Value}{od an:Option Addr}{osl:Array (Option Value)}{kV doc pm cdv ct:Value}(l:K.lookup f=some ⟨oc,od,.func (PySem.W.fnOf x qual (aF st) (aB st) (ak st) .none kV doc pm an cdv ct),osl⟩)
 (c:PySem.W.codeIn K cdv qual=true) (k:PySem.W.keepIn K (.ref f)=true):Fun K x qual st f (PySem.W.fnOf x qual (aF st) (aB st) (ak st) .none kV doc pm an cdv ct):=⟨⟨oc,od,kV,doc,pm,an,cdv,ct,osl,rfl,l,c⟩,k⟩
end
section
variable{X:Cx}
theorem zE:iz X (.builtin "len") (fun xs H Q=>∃a kvs,xs=[V.ref a]/\H a=some (.dK kvs)/\Q (.int kvs.length) H):=by
 intro pins s σ H xs us Q I r h
 obtain⟨a,kvs,rfl,ha,q⟩:=h
 obtain⟨u,rfl,ru⟩:=vals1 r
 cases ru
 exact HX I (.inl ha) fun t s' I'=>⟨.int kvs.length,H,I',⟨t,rfl⟩,q⟩
end
def ji(H H':Hp):Prop:=∀b o,H b=some o->H' b=some o
end L2
namespace M3
open PySem
inductive D where
 |non |bl (b:Bool) |int (i:Int) |str (x:Str) |tup (xs:List D) |ref (n:Nat)
 deriving Inhabited
mutual
def D.beq:D->D->Bool
 | .non,.non=>true
 | .bl a,.bl b=>a==b
 | .int a,.int b=>a==b
 | .str a,.str b=>decide (a=b)
 | .tup a,.tup b=>D.yV a b
 | .ref a,.ref b=>a==b
 |_,_=>false
def D.yV:List D->List D->Bool
 | [],[]=>true
 |a :: r,b :: t=>D.beq a b&&D.yV r t
 |_,_=>false
end
mutual
theorem D.beq_iff:∀(x y:D),D.beq x y=true↔x=y
 | .non,y=>by cases y <;> simp [D.beq]
 | .bl a,y=>by cases y <;> simp [D.beq]
 | .int a,y=>by cases y <;> simp [D.beq]
 | .str a,y=>by cases y <;> simp [D.beq]
 | .tup a,y=>by
   cases y with
   |tup b=>simp only[D.beq,D.tup.injEq];exact D.wu a b
   |_=>simp [D.beq]
 | .ref a,y=>by cases y <;> simp [D.beq]
theorem D.wu:∀(x y:List D),D.yV x y=true↔x=y
 | [],y=>by cases y <;> simp [D.yV]
 |a :: r,y=>by
  cases y with
  |nil=>simp [D.yV]
  |cons b t=>
   simp only[D.yV,Bool.and_eq_true,List.cons.injEq]
   rw[D.beq_iff a b,D.wu r t]
end
instance:DecidableEq D:=fun x y=>decidable_of_iff _ (D.beq_iff x y)
abbrev Key:=Sum Int Str
inductive O where
 |lst (xs:List D) |frz (xs:List D) |dK (kvs:List (Key×D)) |dF (kvs:List (Key×D)) |dT (kvs:List (List Key×D)) |ins (C:Nat) (fs:List (Nat×D))
 deriving Inhabited,DecidableEq
inductive Oc (α:Type) where
 |ok (a:α) |exc (c:Nat)
abbrev Hh:=List O
abbrev M(α:Type):=Hh->Option (Oc α×Hh)
def ret{α:Type}(a:α):M α:=fun G=>some (.ok a,G)
def fail{α:Type}:M α:=fun _=>none
def bnd{α β:Type}(m:M α)(k:α->M β):M β:=fun G=>match m G with
 |some (.ok a,G')=>k a G'
 |some (.exc c,G')=>some (.exc c,G')
 |none=>none
def run{α:Type}(m:M α)(G:Hh)(Q:α->Hh->Prop)(E:Nat->Hh->Prop):Prop:=match m G with
 |some (.ok a,G')=>Q a G'
 |some (.exc c,G')=>E c G'
 |none=>False
theorem bt{α β:Type}{m:M α}{k:α->M β}{G:Hh}{Q:β->Hh->Prop}{E:Nat->Hh->Prop}(h:run (bnd m k) G Q E):run m G (fun a G1=>run (k a) G1 Q E) E:=by
 unfold run bnd at*
 cases e:m G with
 |none=>rw[e]at h;exact h
 |some p=>
  obtain⟨o,G1⟩:=p
  rw[e]at h
  cases o with
  |ok a=>exact h
  |exc c=>exact h
theorem aC{α:Type}{m:M α}{G:Hh}{Q Q':α->Hh->Prop}{E E':Nat->Hh->Prop}(h:run m G Q E)(hq:∀a G',Q a G'->Q' a G')(he:∀c G',E c G'->E' c G'):run m G Q' E':=by
 unfold run at*
 cases e:m G with
 |none=>rw[e]at h;exact h
 |some p=>
  obtain⟨o,G1⟩:=p
  rw[e]at h
  cases o with
  |ok a=>exact hq _ _ h
  |exc c=>exact he _ _ h
@[simp] theorem bnd_ret {α β:Type} (a:α) (k:α->M β):bnd (ret a) k=k a:=rfl
theorem mh{α β γ:Type}(m:M α)(k:α->M β)(l:β->M γ):bnd (bnd m k) l=bnd m fun a=>bnd (k a) l:=by
 funext G
 unfold bnd
 cases m G with
 |none=>rfl
 |some p=>
  obtain⟨o,G1⟩:=p
  cases o <;> rfl
abbrev St:=List (Option D)
abbrev E3:=St->M D
abbrev T3:=St->M Bool
abbrev A3:=St->M (List D)
inductive Fl where
 |next |brk |cont |ret (d:D)
abbrev S3:=St->M (Fl×St)
def af(i:Nat):E3:=fun σ=>match σ[i]? with
 |some (some d)=>ret d
 |_=>fail
def eC(d:D):E3:=fun _=>ret d
def eOp(f:D->D->M D)(a b:E3):E3:=fun σ=>bnd (a σ) fun x=>bnd (b σ) fun y=>f x y
def eUn(f:D->M D)(a:E3):E3:=fun σ=>bnd (a σ) f
def ax:A3:=fun _=>ret []
def ah(e:E3)(r:A3):A3:=fun σ=>bnd (e σ) fun x=>bnd (r σ) fun xs=>ret (x :: xs)
def aM:Nat:=16777216
def new(o:O):M D:=fun G=>some (.ok (.ref G.length),G++[o])
def cH(a:A3):E3:=fun σ=>bnd (a σ) fun xs=>if xs.length<=aM then ret (.tup xs)else fail
def fu(a:A3):E3:=fun σ=>bnd (a σ) fun xs=>if xs.length<=aM then new (.lst xs)else fail
def aP(f:List D->M D)(a:A3):E3:=fun σ=>bnd (a σ) f
def eIf(t:T3)(a b:E3):E3:=fun σ=>bnd (t σ) fun c=>if c then a σ else b σ
def truth(d:D):M Bool:=fun G=>match d with
 | .non=>some (.ok false,G)
 | .bl b=>some (.ok b,G)
 | .int i=>some (.ok (i !=0),G)
 | .str x=>if x.length<=aM then some (.ok (x.length !=0),G)else none
 | .tup xs=>some (.ok (!xs.isEmpty),G)
 | .ref n=>match G[n]? with
   |some (.lst xs)=>some (.ok (!xs.isEmpty),G)
   |some (.frz xs)=>some (.ok (!xs.isEmpty),G)
   |some (.dK kvs)=>some (.ok (!kvs.isEmpty),G)
   |_=>none
def tOf(e:E3):T3:=fun σ=>bnd (e σ) truth
def asB(d:D):M Bool:=match d with
 | .bl b=>ret b
 |_=>fail
def tB(e:E3):T3:=fun σ=>bnd (e σ) asB
def wc(t u:T3):T3:=fun σ=>bnd (t σ) fun c=>if c then u σ else ret false
def tOr(t u:T3):T3:=fun σ=>bnd (t σ) fun c=>if c then ret true else u σ
def iD(t:T3):T3:=fun σ=>bnd (t σ) fun c=>ret (!c)
def za(a b:E3):E3:=fun σ=>bnd (a σ) fun x=>bnd (asB x) fun c=>if c then b σ else ret (.bl false)
def eOr(a b:E3):E3:=fun σ=>bnd (a σ) fun x=>bnd (asB x) fun c=>if c then ret (.bl true)else b σ
def CV(a:E3):E3:=fun σ=>bnd (a σ) fun x=>bnd (asB x) fun c=>ret (.bl (!c))
def small(i:Int):Bool:=decide (-(2 ^ 64) < i/\i < 2 ^ 64)
def gC(x y:D):M D:=match x,y with
 | .int i,.int j=>ret (.int (i+j))
 | .str a,.str b=>if a.length+b.length<=aM then ret (.str (a++b))else fail
 | .tup a,.tup b=>if a≠ []/\a.length+b.length<=aM then ret (.tup (a++b))else fail
 | .ref i,.ref j=>fun G=>match G[i]?,G[j]? with
   |some (.lst a),some (.lst b)=>if a.length+b.length<=aM then new (.lst (a++b)) G else none
   |_,_=>none
 |_,_=>fail
def vA(x y:D):M D:=match x,y with
 | .int i,.int j=>ret (.int (i - j))
 |_,_=>fail
def gH(x y:D):M D:=match x,y with
 | .int i,.int j=>if small i||small j then ret (.int (i*j))else fail
 | .str a,.int k=>if 0<=k/\k<=1000/\a.length<=1000 then ret (.str (Txt.mul a k))else fail
 | .ref n,.int k=>fun G=>match G[n]? with
   |some (.lst xs)=>if 0<=k/\k<=1000000/\xs.length*k.toNat<=aM then new (.lst (List.replicate k.toNat xs).flatten) G else none
   |_=>none
 |_,_=>fail
def oMod(x y:D):M D:=match x,y with
 | .int i,.int j=>if 0 < j then ret (.int (i % j))else fail
 |_,_=>fail
def oDiv(x y:D):M D:=match x,y with
 | .int i,.int j=>if 0 < j/\j < 1073741824 then ret (.int (i / j))else fail
 |_,_=>fail
def vN:List Int->List Int->Bool
 | [],[]=>false
 | [],_ :: _=>true
 |_ :: _,[]=>false
 |a :: r,b :: t=>if a=b then vN r t else decide (a < b)
def intsOf:List D->Option (List Int)
 | []=>some []
 | .int i :: r=>(intsOf r).map (i :: ·)
 |_ :: _=>none
def oLt(x y:D):M D:=match x,y with
 | .int i,.int j=>ret (.bl (decide (i < j)))
 | .tup a,.tup b=>match intsOf a,intsOf b with
   |some m,some n=>ret (.bl (vN m n))
   |_,_=>fail
 |_,_=>fail
def oGt(x y:D):M D:=match x,y with
 | .int i,.int j=>ret (.bl (decide (j < i)))
 | .tup a,.tup b=>match intsOf a,intsOf b with
   |some m,some n=>ret (.bl (vN n m))
   |_,_=>fail
 |_,_=>fail
def oGe(x y:D):M D:=match x,y with
 | .int i,.int j=>ret (.bl (decide (j<=i)))
 |_,_=>fail
def eqZ(f:D->D->Option Bool):List D->List D->Option Bool
 |a :: r,b :: t=>match f a b,eqZ f r t with
  |some p,some q=>some (p&&q)
  |_,_=>none
 |_,_=>some true
def listOf(G:Hh)(n:Nat):Option (List D):=match G[n]? with
 |some (.lst xs)=>some xs
 |some (.frz xs)=>some xs
 |_=>none
def eqG(G:Hh):Nat->D->D->Option Bool
 |0,_,_=>none
 |k+1,x,y=>match x,y with
  | .non,.non=>some true
  | .bl a,.bl b=>some (a==b)
  | .int a,.int b=>some (decide (a=b))
  | .str a,.str b=>some (decide (a=b))
  | .tup a,.tup b=>(eqZ (eqG G k) a b).map (·&&decide (a.length=b.length))
  | .ref i,.ref j=>match listOf G i,listOf G j with
    |some a,some b=>if a.length=b.length then eqZ (eqG G k) a b else some false
    |_,_=>none
  | .non,.int _=>some false
  | .int _,.non=>some false
  | .non,.str _=>some false
  | .str _,.non=>some false
  | .non,.tup _=>some false
  | .tup _,.non=>some false
  | .int _,.str _=>some false
  | .str _,.int _=>some false
  | .int _,.tup _=>some false
  | .tup _,.int _=>some false
  |_,_=>none
def oEq(x y:D):M D:=fun G=>match eqG G 8 x y with
 |some b=>some (.ok (.bl b),G)
 |none=>none
def oNe(x y:D):M D:=fun G=>match eqG G 8 x y with
 |some b=>some (.ok (.bl (!b)),G)
 |none=>none
def qJ(x:D):M D:=ret (.bl (decide (x= .non)))
def mX(x:D):M D:=ret (.bl (!decide (x= .non)))
def rH(G:Hh)(x:D):List D->Option Bool
 | []=>some false
 |y :: r=>match eqG G 8 y x,rH G x r with
  |some p,some q=>some (p||q)
  |_,_=>none
def rA(d:D):Option Key:=match d with
 | .int i=>some (.inl i)
 | .str x=>some (.inr x)
 |_=>none
def look{κ:Type} [DecidableEq κ](kvs:List (κ×D))(k:κ):Option D:=(kvs.find? fun kv=>decide (kv.1=k)).map (·.2)
def put{κ:Type} [DecidableEq κ](kvs:List (κ×D))(k:κ)(v:D):List (κ×D):=
 if (kvs.any fun kv=>decide (kv.1=k))then kvs.map fun kv=>if kv.1=k then (kv.1,v)else kv else kvs++[(k,v)]
def inG(G:Hh)(x y:D):Option Bool:=match y with
 | .tup ys=>rH G x ys
 | .ref n=>match G[n]? with
   |some (.lst ys)=>rH G x ys
   |some (.frz ys)=>rH G x ys
   |some (.dK kvs)=>match rA x with
    |some k=>some (look kvs k).isSome
    |none=>none
   |_=>none
 |_=>none
def oIn(x y:D):M D:=fun G=>match inG G x y with
 |some b=>some (.ok (.bl b),G)
 |none=>none
def oY(x y:D):M D:=fun G=>match inG G x y with
 |some b=>some (.ok (.bl (!b)),G)
 |none=>none
def ixN(n:Nat)(i:Int):Option Nat:=if 0<=i then (if i < n then some i.toNat else none)else if -(n:Int)<=i then some (i+n).toNat else none
def atI(xs:List D)(i:Int):Option D:=(ixN xs.length i).bind fun j=>xs[j]?
def nZ(o:Option D):M D:=match o with
 |some d=>ret d
 |none=>fail
def oIx(x y:D):M D:=match x,y with
 | .tup xs,.int i=>nZ (atI xs i)
 | .ref n,y=>fun G=>match G[n]?,y with
   |some (.lst xs),.int i=>nZ (atI xs i) G
   |some (.frz xs),.int i=>nZ (atI xs i) G
   |some (.dK kvs),y=>match rA y with
    |some k=>nZ (look kvs k) G
    |none=>none
   |_,_=>none
 |_,_=>fail
inductive Kd where
 |non |bl |int |str |tup |lst |dic
def kdOf(G:Hh)(d:D):Option Kd:=match d with
 | .non=>some .non
 | .bl _=>some .bl
 | .int _=>some .int
 | .str _=>some .str
 | .tup _=>some .tup
 | .ref n=>match G[n]? with
   |some (.lst _)=>some .lst
   |some (.frz _)=>some .lst
   |some (.dK _)=>some .dic
   |some (.dT _)=>some .dic
   |_=>none
def Cp:Kd->Kd->Bool
 | .non,.non=>true | .bl,.bl=>true | .bl,.int=>true | .int,.int=>true | .str,.str=>true | .tup,.tup=>true | .lst,.lst=>true | .dic,.dic=>true
 |_,_=>false
def bIs(c:Kd)(ds:List D):M D:=fun G=>match ds with
 | [d]=>match kdOf G d with
   |some k=>some (.ok (.bl (Cp k c)),G)
   |none=>none
 |_=>none
def fw(ds:List D):M D:=fun G=>match ds with
 | [.tup xs]=>if xs.length<=aM then some (.ok (.int xs.length),G)else none
 | [.str x]=>if x.length<=aM then some (.ok (.int x.length),G)else none
 | [.ref n]=>match G[n]? with
   |some (.lst xs)=>some (.ok (.int xs.length),G)
   |some (.frz xs)=>some (.ok (.int xs.length),G)
   |some (.dK kvs)=>some (.ok (.int kvs.length),G)
   |_=>none
 |_=>none
def nX:Int->List Int->Int
 |m,[]=>m
 |m,x :: r=>nX (if x > m then x else m) r
def yU(ds:List D):M D:=fun G=>match ds with
 | [.int i,.int j]=>some (.ok (.int (if j > i then j else i)),G)
 | [.ref n]=>match G[n]? with
   |some (.lst xs)=>match intsOf xs with
    |some (m :: r)=>some (.ok (.int (nX m r)),G)
    |_=>none
   |_=>none
 |_=>none
def sQ(ds:List D):M D:=fun G=>match ds with
 | [.ref n]=>match G[n]? with
   |some (.lst xs)=>new (.lst xs) G
   |some (.frz xs)=>new (.lst xs) G
   |_=>none
 | [.tup xs]=>if xs.length<=aM then new (.lst xs) G else none
 |_=>none
def uH(ds:List D):M D:=fun G=>match ds with
 | [.int i]=>some (.ok (.int i),G)
 | [.bl b]=>some (.ok (.int (if b then 1 else 0)),G)
 | [.str x]=>match PySem.intText? x with
   |some n=>if x.length<=640 then some (.ok (.int n),G)else none
   |none=>none
 |_=>none
def iM(x y:D):M D:=fun G=>match x with
 | .ref n=>match G[n]? with
   |some (.lst xs)=>if xs.length < aM then some (.ok .non,G.set n (.lst (xs++[y])))else none
   |_=>none
 |_=>none
def isL(x:D):M Unit:=fun G=>match x with
 | .ref n=>match G[n]? with
   |some (.lst _)=>some (.ok (),G)
   |_=>none
 |_=>none
def pY(o a:E3):E3:=fun σ=>bnd (o σ) fun x=>bnd (isL x) fun _=>bnd (a σ) fun y=>iM x y
def putN(f:Nat)(v:D):List (Nat×D)->List (Nat×D)
 | []=>[(f,v)]
 |(g,x) :: r=>if g=f then (g,v) :: r else (g,x) :: putN f v r
def AX(x:D)(f:Nat):M D:=fun G=>match x with
 | .ref n=>match G[n]? with
   |some (.ins C fs)=>if C < 1000 then (match fs.lookup f with
    |some d=>some (.ok d,G)
    |none=>none)else none
   |_=>none
 |_=>none
def zN(x:D)(f:Nat)(y:D):M Unit:=fun G=>match x with
 | .ref n=>match G[n]? with
   |some (.ins C fs)=>if C < 1000/\fs.length < 1000 then some (.ok (),G.set n (.ins C (putN f y fs)))else none
   |_=>none
 |_=>none
def isC(C:Nat)(x:D):M Unit:=fun G=>match x with
 | .ref n=>match G[n]? with
   |some (.ins C' _)=>if C'=C then some (.ok (),G)else none
   |_=>none
 |_=>none
def bB(o:E3)(f:Nat):E3:=fun σ=>bnd (o σ) fun x=>AX x f
def cm(o:E3)(f:Nat)(e:E3):S3:=fun σ=>bnd (e σ) fun y=>bnd (o σ) fun x=>bnd (zN x f y) fun _=>ret (.next,σ)
def aZ(C:Nat)(g:List D->M D)(o:E3)(a:A3):E3:=fun σ=>bnd (o σ) fun x=>bnd (isC C x) fun _=>bnd (a σ) fun ds=>g (x :: ds)
def yN(d:D):M Unit:=match d with
 | .non=>ret ()
 |_=>fail
def oA(C:Nat)(g:List D->M D)(a:A3):E3:=fun σ=>bnd (a σ) fun ds=>bnd (new (.ins C [])) fun x=>bnd (g (x :: ds)) fun r=>bnd (yN r) fun _=>ret x
def yS(x i v:D):M Unit:=fun G=>match x with
 | .ref n=>match G[n]? with
   |some (.lst xs)=>match i with
    | .int k=>match ixN xs.length k with
      |some j=>some (.ok (),G.set n (.lst (xs.set j v)))
      |none=>none
    |_=>none
   |some (.dK kvs)=>match rA i with
    |some k=>if kvs.length < aM then some (.ok (),G.set n (.dK (put kvs k v)))else none
    |none=>none
   |_=>none
 |_=>none
def yB(o i e:E3):S3:=fun σ=>bnd (e σ) fun v=>bnd (o σ) fun x=>bnd (i σ) fun y=>bnd (yS x y v) fun _=>ret (.next,σ)
def rh:E3:=fun _=>new (.dK [])
def sIx(n d:Nat):Option Int->Nat
 |none=>d
 |some v=>if v < 0 then (v+(n:Int)).toNat else min v.toNat n
def cutD(xs:List D)(lo hi:Option Int):List D:=(xs.drop (sIx xs.length 0 lo)).take (sIx xs.length xs.length hi - sIx xs.length 0 lo)
abbrev P3:=St->M (Option Int)
def oH:P3:=fun _=>ret none
def asI(d:D):M (Option Int):=match d with
 | .int i=>ret (some i)
 |_=>fail
def lF(e:E3):P3:=fun σ=>bnd (e σ) asI
def oSl(x:D)(lo hi:Option Int):M D:=fun G=>match x with
 | .tup xs=>if sIx xs.length 0 lo=0/\sIx xs.length xs.length hi=xs.length then none else some (.ok (.tup (cutD xs lo hi)),G)
 | .ref n=>match G[n]? with
   |some (.lst xs)=>new (.lst (cutD xs lo hi)) G
   |some (.frz xs)=>new (.lst (cutD xs lo hi)) G
   |_=>none
 |_=>none
def eSl(e:E3)(lo hi:P3):E3:=fun σ=>bnd (e σ) fun x=>bnd (lo σ) fun l=>bnd (hi σ) fun h=>oSl x l h
def kg(x y:D):M D:=fun G=>match x,y with
 | .ref n,.ref m=>match G[n]?,G[m]? with
   |some (.lst xs),some (.lst ys)=>if xs.length+ys.length<=aM then some (.ok .non,G.set n (.lst (xs++ys)))else none
   |_,_=>none
 |_,_=>none
def nG(x i:D):M D:=fun G=>match x,i with
 | .ref n,.int i=>match G[n]? with
   |some (.lst xs)=>match ixN xs.length i with
    |some k=>match xs[k]? with
     |some y=>if -(2 ^ 62)<=i/\i < 2 ^ 62 then some (.ok y,G.set n (.lst (xs.eraseIdx k)))else none
     |none=>none
    |none=>none
   |_=>none
 |_,_=>none
def vi(o a:E3):E3:=fun σ=>bnd (o σ) fun x=>bnd (isL x) fun _=>bnd (a σ) fun y=>kg x y
def uz(o a:E3):E3:=fun σ=>bnd (o σ) fun x=>bnd (isL x) fun _=>bnd (a σ) fun y=>nG x y
def wM(x:D):M D:=fun G=>match x with
 | .ref n=>match G[n]? with
   |some (.dK kvs)=>new (.lst (kvs.map (·.2))) G
   |_=>none
 |_=>none
def Aq(o:E3):E3:=fun σ=>bnd (o σ) wM
structure Src where
 xs:List D
 ck:Hh->Bool
abbrev I3:=St->M Src
def srcOf(d:D):M Src:=match d with
 | .tup xs=>ret ⟨xs,fun _=>true⟩
 | .ref n=>fun G=>match G[n]? with
   |some (.lst xs)=>some (.ok ⟨xs,fun G'=>decide (G'[n]? =some (.lst xs))⟩,G)
   |some (.frz xs)=>some (.ok ⟨xs,fun G'=>decide (G'[n]? =some (.frz xs))⟩,G)
   |_=>none
 |_=>fail
def iOf(e:E3):I3:=fun σ=>bnd (e σ) srcOf
def tf(i:Int):Bool:=decide (-(2 ^ 62)<=i/\i < 2 ^ 62)
def rng(i:Int)(n:Nat):List D:=(List.range n).map fun(k:Nat)=>.int (i+(k:Int))
def Ck(x:D):M Src:=match x with
 | .int j=>if tf j then ret ⟨rng 0 j.toNat,fun _=>true⟩else fail
 |_=>fail
def gI(a:E3):I3:=fun σ=>bnd (a σ) Ck
def fW(σ:St)(cap:List Nat):St:=cap.map fun i=>(σ[i]?).join
def dH(ck:Hh->Bool)(cond:D->M Bool)(elt:D->M D):List D->List D->M (List D)
 | [],acc=>fun G=>if ck G then some (.ok acc,G)else none
 |x :: r,acc=>fun G=>if ck G then bnd (cond x) (fun c=>if c then bnd (elt x) (fun y=>if acc.length < aM then dH ck cond elt r (acc++[y])else fail)else dH ck cond elt r acc) G else none
def gL(it:I3)(cap:List Nat)(cond:T3)(elt:E3):E3:=fun σ=>bnd (it σ) fun s=>
 bnd (dH s.ck (fun x=>cond (some x :: fW σ cap)) (fun x=>elt (some x :: fW σ cap)) s.xs []) fun ys=>new (.lst ys)
def jV:T3:=fun _=>ret true
def bU:S3:=fun σ=>ret (.next,σ)
def aD(a b:S3):S3:=fun σ=>bnd (a σ) fun r=>match r.1 with
 | .next=>b r.2
 |f=>ret (f,r.2)
def bY(i:Nat)(e:E3):S3:=fun σ=>bnd (e σ) fun d=>ret (.next,σ.set i (some d))
def ng:List Nat->List D->St->Option St
 | [],[],σ=>some σ
 |i :: r,d :: t,σ=>ng r t (σ.set i (some d))
 |_,_,_=>none
def gUn(is:List Nat)(d:D)(σ:St):M St:=match d with
 | .tup ds=>match ng is ds σ with
   |some σ'=>ret σ'
   |none=>fail
 |_=>fail
def gNm(i:Nat)(d:D)(σ:St):M St:=ret (σ.set i (some d))
def sUn(is:List Nat)(e:E3):S3:=fun σ=>bnd (e σ) fun d=>bnd (gUn is d σ) fun σ'=>ret (.next,σ')
def cY(e:E3):S3:=fun σ=>bnd (e σ) fun _=>ret (.next,σ)
def aU(e:E3):S3:=fun σ=>bnd (e σ) fun d=>ret (.ret d,σ)
def sIf(t:T3)(a b:S3):S3:=fun σ=>bnd (t σ) fun c=>if c then a σ else b σ
def forL(ck:Hh->Bool)(body:D->St->M (Fl×St)):List D->St->M (Fl×St)
 | [],σ=>fun G=>if ck G then some (.ok (.next,σ),G)else none
 |x :: r,σ=>fun G=>if ck G then bnd (body x σ) (fun p=>match p.1 with
    | .next=>forL ck body r p.2
    | .cont=>forL ck body r p.2
    | .brk=>ret (.next,p.2)
    | .ret d=>ret (.ret d,p.2)) G else none
def ki(t:T3)(body:S3):Nat->St->M (Fl×St)
 |0,_=>fail
 |k+1,σ=>bnd (t σ) fun c=>if c then bnd (body σ) (fun p=>match p.1 with
   | .next=>ki t body k p.2
   | .cont=>ki t body k p.2
   | .brk=>ret (.next,p.2)
   | .ret d=>ret (.ret d,p.2))else ret (.next,σ)
def uD:Nat:=1000000000
def uT(t:T3)(body:S3):S3:=fun σ=>ki t body uD σ
def kJ(it:I3)(g:D->St->M St)(body:S3):S3:=fun σ=>bnd (it σ) fun s=>forL s.ck (fun x σ=>bnd (g x σ) body) s.xs σ
def j6(xs:List D):List D:=xs.mapIdx fun i x=>.tup [.int (i:Int),x]
def qr(d:D):M Src:=fun G=>match d with
 | .ref n=>match G[n]? with
   |some (.lst xs)=>some (.ok ⟨j6 xs,fun G'=>decide (G'[n]? =some (.lst xs))⟩,G)
   |some (.frz xs)=>some (.ok ⟨j6 xs,fun G'=>decide (G'[n]? =some (.frz xs))⟩,G)
   |_=>none
 |_=>none
def AL(e:E3):I3:=fun σ=>bnd (e σ) qr
def Ih:Key->D
 | .inl i=>.int i
 | .inr x=>.str x
def gr(kvs:List (Key×D)):List D:=kvs.map fun kv=>.tup [Ih kv.1,kv.2]
def wy(n:Nat)(kvs:List (Key×D))(m:M (Fl×St)):M (Fl×St):=fun G=>match m (G.set n (.dF kvs))with
 |some (.ok p,G')=>if G'[n]? =some (.dF kvs)then some (.ok p,G'.set n (.dK kvs))else none
 |_=>none
def wR(body:D->St->M (Fl×St))(σ:St)(d:D):M (Fl×St):=fun G=>match d with
 | .ref n=>match G[n]? with
   |some (.dK kvs)=>wy n kvs (forL (fun _=>true) body (gr kvs) σ) G
   |_=>none
 |_=>none
def xR(e:E3)(g:D->St->M St)(body:S3):S3:=fun σ=>bnd (e σ) (wR (fun x σ=>bnd (g x σ) body) σ)
def throw{α:Type}(c:Nat):M α:=fun G=>some (.exc c,G)
def m9(c:Nat)(a:A3):S3:=fun σ=>bnd (a σ) fun xs=>if xs.length<=aM then throw c else fail
def pick(c:Nat):List ((Nat->Bool)×S3)->Option S3
 | []=>none
 |(m,f) :: r=>if m c then some f else pick c r
def wU(e:E3)(k:D->St->Fl×St)(ms:List ((Nat->Bool)×S3)):S3:=fun σ G=>match e σ G with
 |some (.ok d,G')=>some (.ok (k d σ),G')
 |some (.exc c,G')=>match pick c ms with
  |some f=>f σ G'
  |none=>none
 |none=>none
theorem Cz{e:E3}{k:D->St->Fl×St}{ms:List ((Nat->Bool)×S3)}{σ:St}{G:Hh}{Q:Fl×St->Hh->Prop}{Z:Nat->Hh->Prop}(h:run (wU e k ms σ) G Q Z):
 run (e σ) G (fun d G'=>Q (k d σ) G') fun c G'=>∃f,pick c ms=some f/\run (f σ) G' Q Z:=by
 unfold run wU at*
 cases q:e σ G with
 |none=>rw[q]at h;exact h
 |some p=>
  obtain⟨o,G1⟩:=p
  rw[q]at h
  cases o with
  |ok d=>exact h
  |exc c=>
   dsimp only at h ⊢
   cases z:pick c ms with
   |none=>rw[z]at h;exact False.elim h
   |some f=>rw[z]at h;exact⟨f,rfl,h⟩
def fnM(n:Nat)(pad:St)(body:S3):List D->M D:=fun ds=>if ds.length=n then bnd (body (ds.map some++pad)) (fun p=>match p.1 with
 | .ret d=>ret d
 | .next=>ret .non
 |_=>fail)else fail
section
variable{α β:Type}{G G':Hh}{E:Nat->Hh->Prop}{σ:St}
theorem aK{m:M α}{k:α->M β}{Q:β->Hh->Prop}(h:run m G (fun a G1=>run (k a) G1 Q E) E):run (bnd m k) G Q E:=by
 unfold run bnd at*
 cases e:m G with
 |none=>rw[e]at h;exact h
 |some p=>
  obtain⟨o,G1⟩:=p
  rw[e]at h
  cases o with
  |ok a=>exact h
  |exc c=>exact h
theorem jD{a:α}{Q:α->Hh->Prop}(h:Q a G):run (ret a) G Q E:=h
theorem w_ite{c:Bool}{m m':M α}{Q:α->Hh->Prop}(h1:c=true->run m G Q E)(h2:c=false->run m' G Q E):run (if c=true then m else m') G Q E:=by
 cases c with
 |true=>exact h1 rfl
 |false=>exact h2 rfl
theorem nj{m m':M α}{Q:α->Hh->Prop}(h1:run m G Q E):run (if true=true then m else m') G Q E:=h1
theorem o5{m m':M α}{Q:α->Hh->Prop}(h1:run m' G Q E):run (if false=true then m else m') G Q E:=h1
theorem qb{m m':M α}{Q:α->Hh->Prop}(h1:run m' G Q E):run (if (!true)=true then m else m') G Q E:=h1
theorem p7{m m':M α}{Q:α->Hh->Prop}(h1:run m G Q E):run (if (!false)=true then m else m') G Q E:=h1
theorem aW{m:M α}{Q:α->Hh->Prop}{a:α}(h:m G=some (.ok a,G'))(q:Q a G'):run m G Q E:=by
 unfold run;rw[h];exact q
variable{Q:D->Hh->Prop}{QB:Bool->Hh->Prop}{QA:List D->Hh->Prop}{QS:Fl×St->Hh->Prop}
theorem w_var{i:Nat}{d:D}(e:σ[i]? =some (some d))(h:Q d G):run (af i σ) G Q E:=by
 unfold af;rw[e];exact h
theorem w_c{d:D}(h:Q d G):run (eC d σ) G Q E:=h
theorem bc{f:D->D->M D}{a b:E3}(h:run (a σ) G (fun x G1=>run (b σ) G1 (fun y G2=>run (f x y) G2 Q E) E) E):run (eOp f a b σ) G Q E:=
 aK (aC h (fun _ _ q=>aK q) fun _ _ q=>q)
theorem t6{f:D->M D}{a:E3}(h:run (a σ) G (fun x G1=>run (f x) G1 Q E) E):run (eUn f a σ) G Q E:=aK h
theorem aJ(h:QA [] G):run (ax σ) G QA E:=h
theorem ay{e:E3}{r:A3}(h:run (e σ) G (fun x G1=>run (r σ) G1 (fun xs G2=>QA (x :: xs) G2) E) E):run (ah e r σ) G QA E:=
 aK (aC h (fun _ _ q=>aK q) fun _ _ q=>q)
theorem ym{a:A3}(h:run (a σ) G (fun xs G1=>xs.length<=aM/\Q (.tup xs) G1) E):run (cH a σ) G Q E:=
 aK (aC h (fun _ _ q=>by rw[if_pos q.1];exact q.2) fun _ _ q=>q)
theorem BG{a:A3}(h:run (a σ) G (fun xs G1=>xs.length<=aM/\Q (.ref G1.length) (G1++[.lst xs])) E):run (fu a σ) G Q E:=
 aK (aC h (fun _ _ q=>by rw[if_pos q.1];exact q.2) fun _ _ q=>q)
theorem dq{f:List D->M D}{a:A3}(h:run (a σ) G (fun ds G1=>run (f ds) G1 Q E) E):run (aP f a σ) G Q E:=aK h
theorem nS{e:E3}(h:run (e σ) G (fun x G1=>run (truth x) G1 QB E) E):run (tOf e σ) G QB E:=aK h
theorem jJ{e:E3}(h:run (e σ) G (fun x G1=>run (asB x) G1 QB E) E):run (tB e σ) G QB E:=aK h
theorem iy{b:Bool}(h:QB b G):run (asB (.bl b)) G QB E:=h
theorem qx{b:Bool}(h:QB b G):run (truth (.bl b)) G QB E:=h
theorem oV{t:T3}(h:run (t σ) G (fun c G1=>QB (!c) G1) E):run (iD t σ) G QB E:=aK h
theorem xw{t u:T3}(h:run (t σ) G (fun c G1=>run (if c=true then u σ else ret false) G1 QB E) E):run (wc t u σ) G QB E:=aK h
theorem vz{t u:T3}(h:run (t σ) G (fun c G1=>run (if c=true then ret true else u σ) G1 QB E) E):run (tOr t u σ) G QB E:=aK h
theorem Am{a b:E3}(h:run (a σ) G (fun x G1=>run (asB x) G1 (fun c G2=>run (if c=true then b σ else ret (.bl false)) G2 Q E) E) E):run (za a b σ) G Q E:=
 aK (aC h (fun _ _ q=>aK q) fun _ _ q=>q)
theorem HK{a b:E3}(h:run (a σ) G (fun x G1=>run (asB x) G1 (fun c G2=>run (if c=true then ret (.bl true)else b σ) G2 Q E) E) E):run (eOr a b σ) G Q E:=
 aK (aC h (fun _ _ q=>aK q) fun _ _ q=>q)
theorem Fv{a:E3}(h:run (a σ) G (fun x G1=>run (asB x) G1 (fun c G2=>Q (.bl (!c)) G2) E) E):run (CV a σ) G Q E:=
 aK (aC h (fun _ _ q=>aK q) fun _ _ q=>q)
theorem GO{t:T3}{a b:E3}(h:run (t σ) G (fun c G1=>run (if c=true then a σ else b σ) G1 Q E) E):run (eIf t a b σ) G Q E:=aK h
theorem xc{i j:Int}(h:Q (.int (i+j)) G):run (gC (.int i) (.int j)) G Q E:=h
theorem AU{a b:Str}(hl:a.length+b.length<=aM)(h:Q (.str (a++b)) G):run (gC (.str a) (.str b)) G Q E:=by
 show run (if a.length+b.length<=aM then ret (D.str (a++b))else fail) G Q E
 rw[if_pos hl];exact h
theorem Be{i j:Nat}{a b:List D}(h1:G[i]? =some (.lst a))(h2:G[j]? =some (.lst b))(hl:a.length+b.length<=aM)(h:Q (.ref G.length) (G++[.lst (a++b)])):run (gC (.ref i) (.ref j)) G Q E:=by
 refine aW (G':=G++[.lst (a++b)]) (a:= .ref G.length) ?_ h
 show (match G[i]?,G[j]? with
  |some (.lst a),some (.lst b)=>if a.length+b.length<=aM then new (.lst (a++b)) G else none
  |_,_=>none)=_
 rw[h1,h2]
 show (if a.length+b.length<=aM then new (.lst (a++b)) G else none)=_
 rw[if_pos hl];rfl
theorem Ax{i j:Int}(h:Q (.int (i - j)) G):run (vA (.int i) (.int j)) G Q E:=h
theorem By{i j:Int}(c:(small i||small j)=true)(h:Q (.int (i*j)) G):run (gH (.int i) (.int j)) G Q E:=by
 show run (if (small i||small j)=true then ret (D.int (i*j))else fail) G Q E
 rw[if_pos c];exact h
theorem Fj{i j:Int}(c:small i=true)(h:Q (.int (i*j)) G):run (gH (.int i) (.int j)) G Q E:=By (by rw[c];rfl) h
theorem EI{i j:Int}(c:small j=true)(h:Q (.int (i*j)) G):run (gH (.int i) (.int j)) G Q E:=By (by rw[c];exact Bool.or_true _) h
theorem jI{i j:Int}(c:0 < j)(h:Q (.int (i % j)) G):run (oMod (.int i) (.int j)) G Q E:=by
 show run (if 0 < j then ret (D.int (i % j))else fail) G Q E
 rw[if_pos c];exact h
theorem Gv{i j:Int}(c:0 < j/\j < 1073741824)(h:Q (.int (i / j)) G):run (oDiv (.int i) (.int j)) G Q E:=by
 show run (if 0 < j/\j < 1073741824 then ret (D.int (i / j))else fail) G Q E
 rw[if_pos c];exact h
theorem Hi{i j:Int}(h:Q (.bl (decide (i < j))) G):run (oLt (.int i) (.int j)) G Q E:=h
theorem HV{i j:Int}(h:Q (.bl (decide (j < i))) G):run (oGt (.int i) (.int j)) G Q E:=h
theorem DM{i j:Int}(h:Q (.bl (decide (j<=i))) G):run (oGe (.int i) (.int j)) G Q E:=h
theorem GQ{a b:List D}{m n:List Int}(e1:intsOf a=some m)(e2:intsOf b=some n)(h:Q (.bl (vN n m)) G):run (oGt (.tup a) (.tup b)) G Q E:=by
 show run (match intsOf a,intsOf b with
  |some m,some n=>ret (.bl (vN n m))
  |_,_=>fail) G Q E
 rw[e1,e2];exact h
theorem w_eq{x y:D}{b:Bool}(e:eqG G 8 x y=some b)(h:Q (.bl b) G):run (oEq x y) G Q E:=by
 refine aW (a:= .bl b) (G':=G) ?_ h
 unfold oEq;rw[e]
theorem pW{x y:D}{b:Bool}(e:eqG G 8 x y=some b)(h:Q (.bl (!b)) G):run (oNe x y) G Q E:=by
 refine aW (a:= .bl (!b)) (G':=G) ?_ h
 unfold oNe;rw[e]
theorem GW{x y:D}{b:Bool}(e:inG G x y=some b)(h:Q (.bl b) G):run (oIn x y) G Q E:=by
 refine aW (a:= .bl b) (G':=G) ?_ h
 unfold oIn;rw[e]
theorem CK{x y:D}{b:Bool}(e:inG G x y=some b)(h:Q (.bl (!b)) G):run (oY x y) G Q E:=by
 refine aW (a:= .bl (!b)) (G':=G) ?_ h
 unfold oY;rw[e]
theorem cy{xs:List D}{i:Int}{d:D}(e:atI xs i=some d)(h:Q d G):run (oIx (.tup xs) (.int i)) G Q E:=by
 refine aW (a:=d) (G':=G) ?_ h
 show nZ (atI xs i) G=_
 rw[e];rfl
theorem fz{n:Nat}{xs:List D}{i:Int}{d:D}(hl:G[n]? =some (.lst xs))(e:atI xs i=some d)(h:Q d G):run (oIx (.ref n) (.int i)) G Q E:=by
 refine aW (a:=d) (G':=G) ?_ h
 unfold oIx
 dsimp only
 rw[hl]
 show nZ (atI xs i) G=_
 rw[e];rfl
theorem Ib{n:Nat}{xs:List D}{i:Int}{d:D}(hl:G[n]? =some (.frz xs))(e:atI xs i=some d)(h:Q d G):run (oIx (.ref n) (.int i)) G Q E:=by
 refine aW (a:=d) (G':=G) ?_ h
 unfold oIx
 dsimp only
 rw[hl]
 show nZ (atI xs i) G=_
 rw[e];rfl
theorem Bq{x:D}(h:Q (.bl (decide (x= .non))) G):run (qJ x) G Q E:=h
theorem qR{x:D}(h:Q (.bl (!decide (x= .non))) G):run (mX x) G Q E:=h
theorem uh{z:Int}(h:Q (.bl true) G):run (bIs .int [(.int z)]) G Q E:=h
theorem vp{z:Int}(h:Q (.bl false) G):run (bIs .bl [(.int z)]) G Q E:=h
theorem t8{z:Str}(h:Q (.bl true) G):run (bIs .str [(.str z)]) G Q E:=h
theorem uM{z:List D}(h:Q (.bl true) G):run (bIs .tup [(.tup z)]) G Q E:=h
theorem ko{n:Nat}{xs:List D}(hl:G[n]? =some (.lst xs))(h:Q (.bl true) G):run (bIs .lst [.ref n]) G Q E:=by
 refine aW (a:= .bl true) (G':=G) ?_ h
 unfold bIs kdOf;dsimp only;rw[hl];rfl
theorem Gp{xs:List D}(hl:xs.length<=aM)(h:Q (.int xs.length) G):run (fw [.tup xs]) G Q E:=by
 refine aW (a:= .int xs.length) (G':=G) ?_ h
 show (if xs.length<=aM then some (Oc.ok (D.int xs.length),G)else none)=_
 rw[if_pos hl]
theorem fR{n:Nat}{xs:List D}(hl:G[n]? =some (.lst xs))(h:Q (.int xs.length) G):run (fw [.ref n]) G Q E:=by
 refine aW (a:= .int xs.length) (G':=G) ?_ h
 unfold fw;dsimp only;rw[hl]
theorem Ez{n:Nat}{xs:List D}(hl:G[n]? =some (.frz xs))(h:Q (.int xs.length) G):run (fw [.ref n]) G Q E:=by
 refine aW (a:= .int xs.length) (G':=G) ?_ h
 unfold fw;dsimp only;rw[hl]
theorem qT{o a:E3}(h:run (o σ) G (fun x G1=>run (isL x) G1 (fun _ G2=>run (a σ) G2 (fun y G3=>run (iM x y) G3 Q E) E) E) E):run (pY o a σ) G Q E:=
 aK (aC h (fun _ _ q=>aK (aC q (fun _ _ q=>aK q) fun _ _ q=>q)) fun _ _ q=>q)
theorem jy{n:Nat}{xs:List D}{QU:Unit->Hh->Prop}(hl:G[n]? =some (.lst xs))(h:QU () G):run (isL (.ref n)) G QU E:=by
 refine aW (a:=()) (G':=G) ?_ h
 unfold isL;dsimp only;rw[hl]
theorem FN{n:Nat}{xs:List D}{m:Int}{r:List Int}(hl:G[n]? =some (.lst xs))(e:intsOf xs=some (m :: r))(h:Q (.int (nX m r)) G):run (yU [.ref n]) G Q E:=by
 refine aW (a:= .int (nX m r)) (G':=G) ?_ h
 unfold yU;dsimp only;rw[hl];dsimp only;rw[e]
theorem CT{n:Nat}{xs:List D}(hl:G[n]? =some (.lst xs))(h:Q (.ref G.length) (G++[.lst xs])):run (sQ [.ref n]) G Q E:=by
 refine aW (a:= .ref G.length) (G':=G++[.lst xs]) ?_ h
 unfold sQ;dsimp only;rw[hl];rfl
theorem AY{n:Nat}{xs:List D}{y:D}(hl:G[n]? =some (.lst xs))(hz:xs.length < aM)(h:Q .non (G.set n (.lst (xs++[y])))):run (iM (.ref n) y) G Q E:=by
 refine aW (a:= .non) (G':=G.set n (.lst (xs++[y]))) ?_ h
 unfold iM;dsimp only;rw[hl];dsimp only;rw[if_pos hz]
theorem pA{e:E3}{QI:Src->Hh->Prop}(h:run (e σ) G (fun x G1=>run (srcOf x) G1 QI E) E):run (iOf e σ) G QI E:=aK h
theorem gO{n:Nat}{xs:List D}{QI:Src->Hh->Prop}(hl:G[n]? =some (.lst xs))(h:QI ⟨xs,fun G'=>decide (G'[n]? =some (.lst xs))⟩ G):run (srcOf (.ref n)) G QI E:=by
 refine aW (G':=G) ?_ h
 unfold srcOf;dsimp only;rw[hl]
theorem gF{a:E3}{QI:Src->Hh->Prop}(h:run (a σ) G (fun x G1=>run (Ck x) G1 QI E) E):run (gI a σ) G QI E:=aK h
theorem oF{i:Int}{n k:Nat}{x:D}(h:(rng i n)[k]? =some x):x= .int (i+k)/\k < n:=by
 unfold rng at h
 rw[qQ_]at h
 by_cases hk:k < n
 · rw[List.getElem?_range hk]at h
   simp at h
   exact⟨h.symm,hk⟩
 · rw[List.getElem?_eq_none (by simpa using hk)]at h
   cases h
theorem qf{i:Int}{n:Nat}:(rng i n).length=n:=by simp [rng]
theorem ma{ck:Hh->Bool}{cond:D->M Bool}{elt:D->M D}{xs:List D}(P:Nat->List D->Hh->Prop)
 (hck:∀i acc G,P i acc G->ck G=true)
 (hs:∀i x acc G,xs[i]? =some x->P i acc G->run (cond x) G (fun c G1=>if c=true then run (elt x) G1 (fun y G2=>acc.length < aM/\P (i+1) (acc++[y]) G2) E else P (i+1) acc G1) E)
 (hd:∀acc G,P xs.length acc G->QA acc G):∀(r:List D) (i:Nat) (acc:List D) (G:Hh),xs.drop i=r->i<=xs.length->P i acc G->run (dH ck cond elt r acc) G QA E
 | [],i,acc,G,e,hi,p=>by
   have hl:i=xs.length:=by
    have:=congrArg List.length e
    simp at this
    omega
   subst hl
   refine aW (G':=G) (a:=acc) ?_ (hd acc G p)
   unfold dH;rw[if_pos (hck _ _ _ p)]
 |x :: r,i,acc,G,e,hi,p=>by
  have hx:xs[i]? =some x:=by
   have:=congrArg (fun l=>l[0]?) e
   simpa using this
  have hlt:i < xs.length:=(qB_.mp hx).1
  have er:xs.drop (i+1)=r:=by
   have:=congrArg List.tail e
   simpa using this
  have key:run (bnd (cond x) (fun c=>if c=true then bnd (elt x) (fun y=>if acc.length < aM then dH ck cond elt r (acc++[y])else fail)else dH ck cond elt r acc)) G QA E:=by
   refine aK (aC (hs i x acc G hx p) (fun c G1 q=>?_) fun _ _ q=>q)
   cases c with
   |false=>exact ma P hck hs hd r (i+1) acc G1 er hlt q
   |true=>
    refine aK (aC q (fun y G2 q2=>?_) fun _ _ q=>q)
    rw[if_pos q2.1]
    exact ma P hck hs hd r (i+1) (acc++[y]) G2 er hlt q2.2
  unfold run at key ⊢
  rw[show dH ck cond elt (x :: r) acc G=bnd (cond x) (fun c=>if c=true then bnd (elt x) (fun y=>if acc.length < aM then dH ck cond elt r (acc++[y])else fail)else dH ck cond elt r acc) G by
   conv=>lhs;unfold dH
   rw[if_pos (hck _ _ _ p)]]
  exact key
theorem uo{it:I3}{cap:List Nat}{cond:T3}{elt:E3}
 (h:run (it σ) G (fun s G1=>run (dH s.ck (fun x=>cond (some x :: fW σ cap)) (fun x=>elt (some x :: fW σ cap)) s.xs []) G1 (fun ys G2=>Q (.ref G2.length) (G2++[.lst ys])) E) E):run (gL it cap cond elt σ) G Q E:=
 aK (aC h (fun s G1 q=>aK q) fun _ _ q=>q)
def sK(b:S3)(r:Fl×St):M (Fl×St):=match r.1 with
 | .next=>b r.2
 |f=>ret (f,r.2)
theorem aI{a b:S3}(h:run (a σ) G (fun r G1=>run (sK b r) G1 QS E) E):run (aD a b σ) G QS E:=aK h
theorem w_next{b:S3}{σ':St}(h:run (b σ') G QS E):run (sK b (.next,σ')) G QS E:=h
theorem D7{b:S3}{σ':St}{d:D}(h:QS (.ret d,σ') G):run (sK b (.ret d,σ')) G QS E:=h
theorem m7(h:QS (.next,σ) G):run (bU σ) G QS E:=h
theorem bJ{i:Nat}{e:E3}(h:run (e σ) G (fun d G1=>QS (.next,σ.set i (some d)) G1) E):run (bY i e σ) G QS E:=aK h
theorem Hz{is:List Nat}{e:E3}(h:run (e σ) G (fun d G1=>run (gUn is d σ) G1 (fun σ' G2=>QS (.next,σ') G2) E) E):run (sUn is e σ) G QS E:=
 aK (aC h (fun _ _ q=>aK q) fun _ _ q=>q)
theorem D0{is:List Nat}{ds:List D}{σ':St}{QG:St->Hh->Prop}(e:ng is ds σ=some σ')(h:QG σ' G):run (gUn is (.tup ds) σ) G QG E:=by
 show run (match ng is ds σ with
  |some σ'=>ret σ'
  |none=>fail) G QG E
 rw[e];exact h
theorem eE{e:E3}(h:run (e σ) G (fun _ G1=>QS (.next,σ) G1) E):run (cY e σ) G QS E:=aK h
theorem cS{e:E3}(h:run (e σ) G (fun d G1=>QS (.ret d,σ) G1) E):run (aU e σ) G QS E:=aK h
theorem fQ{t:T3}{a b:S3}(h:run (t σ) G (fun c G1=>run (if c=true then a σ else b σ) G1 QS E) E):run (sIf t a b σ) G QS E:=aK h
theorem ra{ck:Hh->Bool}{body:D->St->M (Fl×St)}{xs:List D}(P:Nat->St->Hh->Prop)
 (hck:∀i σ G,P i σ G->ck G=true)
 (hs:∀i x σ G,xs[i]? =some x->P i σ G->run (body x σ) G (fun p G1=>match p.1 with
   | .next=>P (i+1) p.2 G1
   | .cont=>P (i+1) p.2 G1
   | .brk=>QS (.next,p.2) G1
   | .ret d=>QS (.ret d,p.2) G1) E)
 (hd:∀σ G,P xs.length σ G->QS (.next,σ) G):∀(r:List D) (i:Nat) (σ:St) (G:Hh),xs.drop i=r->i<=xs.length->P i σ G->run (forL ck body r σ) G QS E
 | [],i,σ,G,e,hi,p=>by
   have hl:i=xs.length:=by
    have:=congrArg List.length e
    simp at this
    omega
   subst hl
   refine aW (G':=G) (a:=(.next,σ)) ?_ (hd σ G p)
   unfold forL;rw[if_pos (hck _ _ _ p)]
 |x :: r,i,σ,G,e,hi,p=>by
  have hx:xs[i]? =some x:=by
   have:=congrArg (fun l=>l[0]?) e
   simpa using this
  have hlt:i < xs.length:=(qB_.mp hx).1
  have er:xs.drop (i+1)=r:=by
   have:=congrArg List.tail e
   simpa using this
  have key:run (bnd (body x σ) (fun p=>match p.1 with
   | .next=>forL ck body r p.2
   | .cont=>forL ck body r p.2
   | .brk=>ret (.next,p.2)
   | .ret d=>ret (.ret d,p.2))) G QS E:=by
   refine aK (aC (hs i x σ G hx p) (fun c G1 q=>?_) fun _ _ q=>q)
   obtain⟨f,σ1⟩:=c
   cases f with
   |next=>exact ra P hck hs hd r (i+1) σ1 G1 er hlt q
   |cont=>exact ra P hck hs hd r (i+1) σ1 G1 er hlt q
   |brk=>exact q
   |ret d=>exact q
  unfold run at key ⊢
  rw[show forL ck body (x :: r) σ G=bnd (body x σ) (fun p=>match p.1 with
   | .next=>forL ck body r p.2
   | .cont=>forL ck body r p.2
   | .brk=>ret (.next,p.2)
   | .ret d=>ret (.ret d,p.2)) G by
   conv=>lhs;unfold forL
   rw[if_pos (hck _ _ _ p)]
   all_goals rfl]
  exact key
theorem qN{it:I3}{g:D->St->M St}{body:S3}(h:run (it σ) G (fun s G1=>run (forL s.ck (fun x σ=>bnd (g x σ) body) s.xs σ) G1 QS E) E):run (kJ it g body σ) G QS E:=aK h
theorem kT{i:Nat}{d:D}{QG:St->Hh->Prop}(h:QG (σ.set i (some d)) G):run (gNm i d σ) G QG E:=h
def fK(p:Fl×St):M D:=match p.1 with
 | .ret d=>ret d
 | .next=>ret .non
 |_=>fail
theorem FL{n:Nat}{pad:St}{body:S3}{ds:List D}(hl:ds.length=n)(h:run (body (ds.map some++pad)) G (fun p G1=>run (fK p) G1 Q E) E):run (fnM n pad body ds) G Q E:=by
 unfold fnM
 rw[if_pos hl]
 exact aK h
theorem nB{d:D}{σ':St}(h:Q d G):run (fK (.ret d,σ')) G Q E:=h
theorem va{σ':St}(h:Q .non G):run (fK (.next,σ')) G Q E:=h
end
section
variable{α β:Type}{G G':Hh}{E:Nat->Hh->Prop}{σ:St}
variable{Q:D->Hh->Prop}{QB:Bool->Hh->Prop}{QA:List D->Hh->Prop}{QS:Fl×St->Hh->Prop}{QU:Unit->Hh->Prop}
theorem CF{c:Nat}{a:A3}(h:run (a σ) G (fun xs G1=>xs.length<=aM/\E c G1) E):run (m9 c a σ) G QS E:=
 aK (aC h (fun xs G1 ⟨l,q⟩=>by show run (if xs.length<=aM then throw c else fail) G1 QS E;rw[if_pos l];exact q) fun _ _ z=>z)
theorem GL{e:E3}{k:D->St->Fl×St}{ms:List ((Nat->Bool)×S3)}(h:run (e σ) G (fun d G'=>QS (k d σ) G') fun c G'=>∃f,pick c ms=some f/\run (f σ) G' QS E):run (wU e k ms σ) G QS E:=by
 unfold run wU at*
 cases q:e σ G with
 |none=>rw[q]at h;exact h
 |some p=>
  obtain⟨o,G1⟩:=p
  rw[q]at h
  cases o with
  |ok d=>exact h
  |exc c=>
   obtain⟨f,hf,hr⟩:=h
   dsimp only
   rw[hf]
   exact hr
theorem w_fld{o:E3}{f:Nat}(h:run (o σ) G (fun x G1=>run (AX x f) G1 Q E) E):run (bB o f σ) G Q E:=aK h
theorem bI{n C f:Nat}{fs:List (Nat×D)}{d:D}(hn:G[n]? =some (.ins C fs))(hC:C < 1000)(hf:fs.lookup f=some d)(h:Q d G):run (AX (.ref n) f) G Q E:=by
 unfold run AX
 dsimp only
 rw[hn]
 dsimp only
 rw[if_pos hC,hf]
 exact h
theorem En{n C f:Nat}{fs:List (Nat×D)}{y:D}(hn:G[n]? =some (.ins C fs))(hl:C < 1000/\fs.length < 1000)(h:QU () (G.set n (.ins C (putN f y fs)))):run (zN (.ref n) f y) G QU E:=by
 unfold run zN
 dsimp only
 rw[hn]
 dsimp only
 rw[if_pos hl]
 exact h
theorem dI{n C:Nat}{fs:List (Nat×D)}(hn:G[n]? =some (.ins C fs))(h:QU () G):run (isC C (.ref n)) G QU E:=by
 unfold run isC
 dsimp only
 rw[hn]
 dsimp only
 rw[if_pos rfl]
 exact h
theorem gX{o e:E3}{f:Nat}(h:run (e σ) G (fun y G1=>run (o σ) G1 (fun x G2=>run (zN x f y) G2 (fun _ G3=>QS (.next,σ) G3) E) E) E):run (cm o f e σ) G QS E:=
 aK (aC h (fun y G1 q=>aK (aC q (fun x G2 q=>aK q) fun _ _ z=>z)) fun _ _ z=>z)
theorem bT{C:Nat}{g:List D->M D}{o:E3}{a:A3}(h:run (o σ) G (fun x G1=>run (isC C x) G1 (fun _ G2=>run (a σ) G2 (fun ds G3=>run (g (x :: ds)) G3 Q E) E) E) E):run (aZ C g o a σ) G Q E:=
 aK (aC h (fun x G1 q=>aK (aC q (fun _ G2 q=>aK q) fun _ _ z=>z)) fun _ _ z=>z)
theorem Ed{C:Nat}{g:List D->M D}{a:A3}(h:run (a σ) G (fun ds G1=>run (g (.ref G1.length :: ds)) (G1++[.ins C []]) (fun r G2=>r= .non/\Q (.ref G1.length) G2) E) E):run (oA C g a σ) G Q E:=
 aK (aC h (fun ds G1 q=>aK (show run (bnd (g (.ref G1.length :: ds)) fun r=>bnd (yN r) fun _=>ret (D.ref G1.length)) (G1++[.ins C []]) Q E from aK (aC q (fun r G2 ⟨e,q⟩=>by subst e;exact q) fun _ _ z=>z))) fun _ _ z=>z)
theorem Ft{o i e:E3}(h:run (e σ) G (fun v G1=>run (o σ) G1 (fun x G2=>run (i σ) G2 (fun y G3=>run (yS x y v) G3 (fun _ G4=>QS (.next,σ) G4) E) E) E) E):run (yB o i e σ) G QS E:=
 aK (aC h (fun v G1 q=>aK (aC q (fun x G2 q=>aK (aC q (fun y G3 q=>aK q) fun _ _ z=>z)) fun _ _ z=>z)) fun _ _ z=>z)
theorem El{n:Nat}{kvs:List (Key×D)}{i v:D}{k:Key}(hn:G[n]? =some (.dK kvs))(hk:rA i=some k)(hl:kvs.length < aM)(h:QU () (G.set n (.dK (put kvs k v)))):run (yS (.ref n) i v) G QU E:=by
 unfold run yS
 dsimp only
 rw[hn]
 dsimp only
 rw[hk]
 dsimp only
 rw[if_pos hl]
 exact h
theorem DY{n:Nat}{kvs:List (Key×D)}{i d:D}{k:Key}(hn:G[n]? =some (.dK kvs))(hk:rA i=some k)(e:look kvs k=some d)(h:Q d G):run (oIx (.ref n) i) G Q E:=by
 unfold run oIx
 dsimp only
 rw[hn]
 cases i with
 |int z=>dsimp only;rw[hk];dsimp only;rw[e];exact h
 |str z=>dsimp only;rw[hk];dsimp only;rw[e];exact h
 |_=>cases hk
theorem wz{o a:E3}(h:run (o σ) G (fun x G1=>run (isL x) G1 (fun _ G2=>run (a σ) G2 (fun y G3=>run (kg x y) G3 Q E) E) E) E):run (vi o a σ) G Q E:=
 aK (aC h (fun x G1 q=>aK (aC q (fun _ G2 q=>aK q) fun _ _ z=>z)) fun _ _ z=>z)
theorem zM{n m:Nat}{xs ys:List D}(hn:G[n]? =some (.lst xs))(hm:G[m]? =some (.lst ys))(hl:xs.length+ys.length<=aM)(h:Q .non (G.set n (.lst (xs++ys)))):run (kg (.ref n) (.ref m)) G Q E:=by
 unfold run kg
 dsimp only
 rw[hn,hm]
 dsimp only
 rw[if_pos hl]
 exact h
theorem yM{o a:E3}(h:run (o σ) G (fun x G1=>run (isL x) G1 (fun _ G2=>run (a σ) G2 (fun y G3=>run (nG x y) G3 Q E) E) E) E):run (uz o a σ) G Q E:=
 aK (aC h (fun x G1 q=>aK (aC q (fun _ G2 q=>aK q) fun _ _ z=>z)) fun _ _ z=>z)
theorem z7{n k:Nat}{xs:List D}{i:Int}{y:D}(hn:G[n]? =some (.lst xs))(hk:ixN xs.length i=some k)(hy:xs[k]? =some y)(hi:-(2 ^ 62)<=i/\i < 2 ^ 62)(h:Q y (G.set n (.lst (xs.eraseIdx k)))):run (nG (.ref n) (.int i)) G Q E:=by
 unfold run nG
 dsimp only
 rw[hn]
 dsimp only
 rw[hk]
 dsimp only
 rw[hy]
 dsimp only
 rw[if_pos hi]
 exact h
theorem E9{o:E3}(h:run (o σ) G (fun x G1=>run (wM x) G1 Q E) E):run (Aq o σ) G Q E:=aK h
theorem CN{n:Nat}{kvs:List (Key×D)}(hn:G[n]? =some (.dK kvs))(h:Q (.ref G.length) (G++[.lst (kvs.map (·.2))])):run (wM (.ref n)) G Q E:=by
 unfold run wM
 dsimp only
 rw[hn]
 exact h
theorem Cg{e:E3}{lo hi:P3}(h:run (e σ) G (fun x G1=>run (lo σ) G1 (fun l G2=>run (hi σ) G2 (fun r G3=>run (oSl x l r) G3 Q E) E) E) E):run (eSl e lo hi σ) G Q E:=
 aK (aC h (fun x G1 q=>aK (aC q (fun l G2 q=>aK q) fun _ _ z=>z)) fun _ _ z=>z)
end
end M3
namespace L3
open PySem PySem.Spec PyProof.Rows L2
structure Tab where
 cls:Nat->Option Addr
 nm:Nat->Str
mutual
def Den(K:PySem.W.Frag)(H:Hp)(μ:List Addr):M3.D->V->Prop
 | .non,v=>v= .non
 | .bl b,v=>v= .bl b
 | .int i,v=>v= .int i
 | .str x,v=>v= .str x
 | .ref n,v=>∃a,μ[n]? =some a/\v= .ref a
 | .tup ds,v=>∃a vs,v= .ref a/\SqT K H a vs/\aH K H μ ds vs
def aH(K:PySem.W.Frag)(H:Hp)(μ:List Addr):List M3.D->List V->Prop
 | [],vs=>vs=[]
 |d :: ds,vs=>∃v r,vs=v :: r/\Den K H μ d v/\aH K H μ ds r
end
structure Keeps (H H':Hp):Prop where
 tup:∀b xs,H b=some (.tup xs)->H' b=some (.tup xs)
 frz:∀b o u,H b=some (.frz o u)->H' b=some (.frz o u)
theorem Keeps.refl(H:Hp):Keeps H H:=⟨fun _ _ h=>h,fun _ _ _ h=>h⟩
theorem Keeps.trans{A B C:Hp}(a:Keeps A B)(b:Keeps B C):Keeps A C:=⟨fun _ _ h=>b.tup _ _ (a.tup _ _ h),fun _ _ _ h=>b.frz _ _ _ (a.frz _ _ _ h)⟩
theorem Keeps.of_same{H H':Hp}(h:ji H H'):Keeps H H':=⟨fun _ _ e=>h _ _ e,fun _ _ _ e=>h _ _ e⟩
theorem ji.new{H:Hp}{p:Addr}(o:HO)(h:H p=none):ji H (upd H p o):=fun b u e=>by rw[aT (dY e h)];exact e
theorem Keeps.write{H:Hp}{a:Addr}{o o':HO}(h:H a=some o)(ht:∀xs,o≠.tup xs)(hf:∀q u,o≠.frz q u):Keeps H (upd H a o'):=
 ⟨fun b xs e=>by rw[aT (A6 e h (fun z=>ht xs z.symm))];exact e,fun b q u e=>by rw[aT (A6 e h (fun z=>hf q u z.symm))];exact e⟩
theorem SqT.keeps{K:PySem.W.Frag}{H H':Hp}{a:Addr}{xs:List V}(k:Keeps H H')(h:SqT K H a xs):SqT K H' a xs:=by
 rcases h with (h |⟨o,h⟩) |h
 · exact .inl (.inl (k.tup _ _ h))
 · exact .inl (.inr ⟨o,k.frz _ _ _ h⟩)
 · exact .inr h
def SqF(K:PySem.W.Frag)(H:Hp)(a:Addr)(xs:List V):Prop:=
 (∃o,H a=some (.frz o (.lst xs)))\/
   ∃(o:Obj) (its:Array Value) (n:Nat),K.lookup a=some o/\o.cls= .type "list"/\o.dict=none/\o.data= .seq its n/\its.size<=sizeLine/\Vals xs its.toList
theorem SqF.keeps{K:PySem.W.Frag}{H H':Hp}{a:Addr}{xs:List V}(k:Keeps H H')(h:SqF K H a xs):SqF K H' a xs:=by
 rcases h with ⟨o,h⟩ |h
 · exact .inl ⟨o,k.frz _ _ _ h⟩
 · exact .inr h
theorem SqF.sq{K:PySem.W.Frag}{H:Hp}{a:Addr}{xs:List V}(h:SqF K H a xs):SqL K H a xs:=by
 rcases h with ⟨o,h⟩ |h
 · exact .inl (.inr ⟨o,h⟩)
 · exact .inr h
structure Up (μ μ':List Addr) (H H':Hp):Prop where
 pre:μ <+: μ'
 keeps:Keeps H H'
 rest:∀b o,H b=some o->b∉μ->H' b=some o/\b∉μ'
theorem Up.refl(μ:List Addr)(H:Hp):Up μ μ H H:=⟨List.prefix_refl _,Keeps.refl _,fun _ _ h n=>⟨h,n⟩⟩
theorem Up.trans{μ μ1 μ2:List Addr}{H H1 H2:Hp}(a:Up μ μ1 H H1)(b:Up μ1 μ2 H1 H2):Up μ μ2 H H2:=⟨a.pre.trans b.pre,a.keeps.trans b.keeps,fun c o h n=>let ⟨h1,n1⟩:=a.rest c o h n;b.rest c o h1 n1⟩
theorem Up.same{μ:List Addr}{H H':Hp}(h:ji H H'):Up μ μ H H':=⟨List.prefix_refl _,Keeps.of_same h,fun c o e n=>⟨h c o e,n⟩⟩
theorem Up.new{μ:List Addr}{H:Hp}{p:Addr}(u:HO)(hp:H p=none):Up μ (μ++[p]) H (upd H p u):=⟨⟨[p],rfl⟩,Keeps.of_same (ji.new u hp),fun c o e n=>⟨ji.new u hp c o e,fun z=>by
 rcases qG_.mp z with z |z
 · exact n z
 · simp at z;subst z;rw[hp]at e;cases e⟩⟩
theorem Up.vK{μ:List Addr}{H:Hp}{a:Addr}{o o':HO}{n:Nat}(ea:μ[n]? =some a)(h:H a=some o)(ht:∀xs,o≠.tup xs)(hf:∀q u,o≠.frz q u):Up μ μ H (upd H a o'):=
 ⟨List.prefix_refl _,Keeps.write h ht hf,fun c u e nc=>⟨by rw[aT (by rintro rfl;exact nc (qD_ ea))];exact e,nc⟩⟩
theorem Up.at{μ μ':List Addr}{H H':Hp}(u:Up μ μ' H H'){n:Nat}{a:Addr}(h:μ[n]? =some a):μ'[n]? =some a:=by
 obtain⟨r,rfl⟩:=u.pre
 rw[qK_ (qB_.mp h).1]
 exact h
theorem Eh{μ μ':List Addr}(u:μ <+: μ'){n:Nat}{a:Addr}(h:μ[n]? =some a):μ'[n]? =some a:=by
 obtain⟨r,rfl⟩:=u
 rw[qK_ (qB_.mp h).1]
 exact h
mutual
theorem Den.mono{K:PySem.W.Frag}{μ μ':List Addr}{H H':Hp}(p:μ <+: μ')(k:Keeps H H'):∀{d:M3.D} {v:V},Den K H μ d v->Den K H' μ' d v
 | .non,_,h=>h
 | .bl _,_,h=>h
 | .int _,_,h=>h
 | .str _,_,h=>h
 | .ref _,_,⟨a,e,h⟩=>⟨a,Eh p e,h⟩
 | .tup ds,_,⟨a,vs,e,h,r⟩=>⟨a,vs,e,SqT.keeps k h,aH.mono p k r⟩
theorem aH.mono{K:PySem.W.Frag}{μ μ':List Addr}{H H':Hp}(p:μ <+: μ')(k:Keeps H H'):∀{ds:List M3.D} {vs:List V},aH K H μ ds vs->aH K H' μ' ds vs
 | [],_,h=>h
 |_ :: _,_,⟨v,r,e,h,t⟩=>⟨v,r,e,Den.mono p k h,aH.mono p k t⟩
end
theorem Den.up{K:PySem.W.Frag}{μ μ':List Addr}{H H':Hp}(u:Up μ μ' H H'){d:M3.D}{v:V}(h:Den K H μ d v):Den K H' μ' d v:=Den.mono u.pre u.keeps h
theorem aH.up{K:PySem.W.Frag}{μ μ':List Addr}{H H':Hp}(u:Up μ μ' H H'){ds:List M3.D}{vs:List V}(h:aH K H μ ds vs):aH K H' μ' ds vs:=aH.mono u.pre u.keeps h
theorem aH.length{K:PySem.W.Frag}{μ:List Addr}{H:Hp}:∀{ds:List M3.D} {vs:List V},aH K H μ ds vs->ds.length=vs.length
 | [],_,h=>by cases (show _=[]from h);rfl
 |_ :: _,_,⟨v,r,e,_,t⟩=>by subst e;simp [aH.length t]
theorem aH.get{K:PySem.W.Frag}{μ:List Addr}{H:Hp}:∀{ds:List M3.D} {vs:List V} {i:Nat} {d:M3.D},aH K H μ ds vs->ds[i]? =some d->∃v,vs[i]? =some v/\Den K H μ d v
 | [],_,_,_,_,e=>by simp at e
 |d :: ds,_,0,d',⟨v,r,e,h,t⟩,q=>by
  subst e
  simp at q
  subst q
  exact⟨v,rfl,h⟩
 |d :: ds,_,i+1,d',⟨v,r,e,h,t⟩,q=>by
  subst e
  obtain⟨w,h1,h2⟩:=aH.get (i:=i) t (by simpa using q)
  exact⟨w,by simpa using h1,h2⟩
theorem aH.get'{K:PySem.W.Frag}{μ:List Addr}{H:Hp}{ds:List M3.D}{vs:List V}{i:Nat}{v:V}(h:aH K H μ ds vs)(e:vs[i]? =some v):∃d,ds[i]? =some d/\Den K H μ d v:=by
 have hl:i < ds.length:=by rw[h.length];exact(qB_.mp e).1
 obtain⟨w,e1,h1⟩:=aH.get h (qA_ hl)
 rw[e]at e1
 cases e1
 exact⟨_,qA_ hl,h1⟩
theorem aH.append{K:PySem.W.Frag}{μ:List Addr}{H:Hp}:∀{ds es:List M3.D} {vs ws:List V},aH K H μ ds vs->aH K H μ es ws->aH K H μ (ds++es) (vs++ws)
 | [],_,_,_,h,t=>by cases (show _=[]from h);exact t
 |_ :: _,_,_,_,⟨v,r,e,h,t⟩,s=>by subst e;exact⟨v,r++_,rfl,h,aH.append t s⟩
theorem aH.one{K:PySem.W.Frag}{μ:List Addr}{H:Hp}{d:M3.D}{v:V}(h:Den K H μ d v):aH K H μ [d] [v]:=⟨v,[],rfl,h,rfl⟩
theorem aH.ints{K:PySem.W.Frag}{μ:List Addr}{H:Hp}:∀{ns:List Int} {vs:List V},aH K H μ (ns.map M3.D.int) vs->vs=ns.map V.int
 | [],_,h=>h
 |n :: ns,_,⟨v,r,e,h,t⟩=>by
  subst e
  have e1:v=V.int n:=h
  rw[e1,aH.ints t];rfl
theorem aH.yw{K:PySem.W.Frag}{μ:List Addr}{H:Hp}:∀{ns:List Int},aH K H μ (ns.map M3.D.int) (ns.map V.int)
 | []=>rfl
 |n :: ns=>⟨_,_,rfl,rfl,aH.yw⟩
def isF:M3.O->Bool
 | .frz _=>true
 |_=>false
def isW:M3.O->Bool
 | .frz _=>false
 | .dF _=>false
 |_=>true
theorem isW.nf{o:M3.O}(h:isW o=true):isF o=false:=by cases o <;> first |rfl |cases h
def ObD(T:Tab)(K:PySem.W.Frag)(H:Hp)(μ:List Addr):M3.O->Addr->Prop
 | .lst xs,a=>∃vs,H a=some (.lst vs)/\aH K H μ xs vs
 | .frz xs,a=>∃vs,SqF K H a vs/\aH K H μ xs vs
 | .dK kvs,a=>∃ws,H a=some (.dK ws)/\Paired (fun(p:M3.Key×M3.D) (q:L2.Key×V)=>p.1=q.1/\Den K H μ p.2 q.2) kvs ws
 | .dF kvs,a=>∃ob ws,H a=some (.frz ob (.dK ws))/\Paired (fun(p:M3.Key×M3.D) (q:L2.Key×V)=>p.1=q.1/\Den K H μ p.2 q.2) kvs ws
 | .dT kvs,a=>∃ws,H a=some (.dT ws)/\Paired (fun(p:List M3.Key×M3.D) (q:List L2.Key×V)=>p.1=q.1/\Den K H μ p.2 q.2) kvs ws
 | .ins C fs,a=>∃Ca dx ws,T.cls C=some Ca/\H a=some (.ins Ca dx ws)/\Paired (fun(p:Nat×M3.D) (q:Str×V)=>q.1=T.nm p.1/\Den K H μ p.2 q.2) fs ws
structure Sim (T:Tab) (K:PySem.W.Frag) (μ:List Addr) (H:Hp) (G:M3.Hh):Prop where
 len:μ.length=G.length
 obj:∀(n:Nat) a o,μ[n]? =some a->G[n]? =some o->ObD T K H μ o a
 inj:∀(n m:Nat) a o o',n≠m->μ[n]? =some a->μ[m]? =some a->G[n]? =some o->G[m]? =some o'->isF o=true\/isF o'=true
theorem ObD.some_of{T:Tab}{K:PySem.W.Frag}{μ:List Addr}{H:Hp}{o:M3.O}{a:Addr}(h:ObD T K H μ o a)(hf:isW o=true):∃u,H a=some u/\(∀xs,u≠.tup xs)/\∀q w,u≠.frz q w:=by
 cases o with
 |lst xs=>obtain⟨vs,e,_⟩:=h;exact⟨_,e,(fun _ z=>nomatch z),fun _ _ z=>nomatch z⟩
 |frz xs=>cases hf
 |dK kvs=>obtain⟨vs,e,_⟩:=h;exact⟨_,e,(fun _ z=>nomatch z),fun _ _ z=>nomatch z⟩
 |dF kvs=>cases hf
 |dT kvs=>obtain⟨vs,e,_⟩:=h;exact⟨_,e,(fun _ z=>nomatch z),fun _ _ z=>nomatch z⟩
 |ins C fs=>obtain⟨Ca,dx,ws,_,e,_⟩:=h;exact⟨_,e,(fun _ z=>nomatch z),fun _ _ z=>nomatch z⟩
theorem ObD.live{T:Tab}{K:PySem.W.Frag}{μ:List Addr}{H:Hp}{o:M3.O}{a:Addr}(h:ObD T K H μ o a)(hf:isF o=false):∃u,H a=some u:=by
 cases o with
 |frz xs=>cases hf
 |dF kvs=>obtain⟨ob,ws,e,_⟩:=h;exact⟨_,e⟩
 |lst xs=>obtain⟨u,e,_⟩:=h.some_of rfl;exact⟨u,e⟩
 |dK xs=>obtain⟨u,e,_⟩:=h.some_of rfl;exact⟨u,e⟩
 |dT xs=>obtain⟨u,e,_⟩:=h.some_of rfl;exact⟨u,e⟩
 |ins C fs=>obtain⟨u,e,_⟩:=h.some_of rfl;exact⟨u,e⟩
theorem ObD.mono{T:Tab}{K:PySem.W.Frag}{μ μ':List Addr}{H H':Hp}{o:M3.O}{a:Addr}(h:ObD T K H μ o a)(p:μ <+: μ')(k:Keeps H H')(e:∀x,H a=some x->H' a=some x):ObD T K H' μ' o a:=by
 cases o with
 |lst xs=>obtain⟨vs,q,r⟩:=h;exact⟨vs,e _ q,aH.mono p k r⟩
 |frz xs=>obtain⟨vs,q,r⟩:=h;exact⟨vs,SqF.keeps k q,aH.mono p k r⟩
 |dK kvs=>obtain⟨vs,q,r⟩:=h;exact⟨vs,e _ q,Paired.imp' (fun _ _ z=>⟨z.1,Den.mono p k z.2⟩) r⟩
 |dF kvs=>obtain⟨ob,vs,q,r⟩:=h;exact⟨ob,vs,e _ q,Paired.imp' (fun _ _ z=>⟨z.1,Den.mono p k z.2⟩) r⟩
 |dT kvs=>obtain⟨vs,q,r⟩:=h;exact⟨vs,e _ q,Paired.imp' (fun _ _ z=>⟨z.1,Den.mono p k z.2⟩) r⟩
 |ins C fs=>obtain⟨Ca,dx,ws,c,q,r⟩:=h;exact⟨Ca,dx,ws,c,e _ q,Paired.imp' (fun _ _ z=>⟨z.1,Den.mono p k z.2⟩) r⟩
theorem ObD.ky{T:Tab}{K:PySem.W.Frag}{μ μ':List Addr}{H H':Hp}{o:M3.O}{a:Addr}(h:ObD T K H μ o a)(u:Up μ μ' H H')(e:∀x,H a=some x->H' a=some x):ObD T K H' μ' o a:=h.mono u.pre u.keeps e
section
variable{T:Tab}{K:PySem.W.Frag}{μ:List Addr}{H H':Hp}{G:M3.Hh}
theorem Sim.same(S:Sim T K μ H G)(h:ji H H'):Sim T K μ H' G:=
 ⟨S.len,fun n a o e1 e2=>(S.obj n a o e1 e2).ky (Up.same h) (h a),S.inj⟩
theorem Sim.new(S:Sim T K μ H G){p:Addr}{u:HO}{o:M3.O}(hp:H p=none)(hf:isF o=false)(ho:ObD T K (upd H p u) (μ++[p]) o p):Sim T K (μ++[p]) (upd H p u) (G++[o]):=by
 have sm:=ji.new u hp
 have up:Up μ (μ++[p]) H (upd H p u):=Up.new u hp
 have old:∀(n:Nat) a o',(μ++[p])[n]? =some a->(G++[o])[n]? =some o'->(μ[n]? =some a/\G[n]? =some o')\/(n=G.length/\a=p/\o'=o):=by
  intro n a o' e1 e2
  by_cases h:n < G.length
  · rw[qK_ (by rw[S.len];exact h)]at e1
    rw[qK_ h]at e2
    exact .inl ⟨e1,e2⟩
  · have hn:n=G.length:=by
     have:=(qB_.mp e2).1
     rw[qN_]at this
     simp at this
     omega
    subst hn
    rw[<-S.len]at e1
    simp at e1 e2
    exact .inr ⟨rfl,e1.symm,e2.symm⟩
 have free:∀(n:Nat) a o',μ[n]? =some a->G[n]? =some o'->isF o'=false->a≠p:=by
  intro n a o' e1 e2 hf'
  obtain⟨w,hw⟩:=(S.obj n a o' e1 e2).live hf'
  exact dY hw hp
 refine⟨by simp [S.len],fun n a o' e1 e2=>?_,fun n m a o1 o2 hnm e1 e2 e3 e4=>?_⟩
 · rcases old n a o' e1 e2 with ⟨h1,h2⟩ |⟨_,rfl,rfl⟩
   · exact(S.obj n a o' h1 h2).ky up (sm a)
   · exact ho
 · rcases old n a o1 e1 e3 with ⟨h1,h2⟩ |⟨rfl,rfl,rfl⟩
   · rcases old m a o2 e2 e4 with ⟨h3,h4⟩ |⟨rfl,rfl,rfl⟩
     · exact S.inj n m a o1 o2 hnm h1 h3 h2 h4
     · cases q:isF o1 with
       |true=>exact .inl rfl
       |false=>exact absurd rfl (free n a o1 h1 h2 q)
   · rcases old m a o2 e2 e4 with ⟨h3,h4⟩ |⟨h3,_,_⟩
     · cases q:isF o2 with
       |true=>exact .inr rfl
       |false=>exact absurd rfl (free m a o2 h3 h4 q)
     · exact absurd h3.symm hnm
theorem Sim.set(S:Sim T K μ H G){n:Nat}{a:Addr}{o o':M3.O}{u:HO}(e1:μ[n]? =some a)(e2:G[n]? =some o)(hfw:isW o=true)(hf':isF o'=false)(ho:ObD T K (upd H a u) μ o' a):Sim T K μ (upd H a u) (G.set n o'):=by
 have hf:=isW.nf hfw
 obtain⟨w,hw,h1,h2⟩:=(S.obj n a o e1 e2).some_of hfw
 have up:Up μ μ H (upd H a u):=Up.vK e1 hw h1 h2
 have hl:=(qB_.mp e2).1
 refine⟨by rw[qX_];exact S.len,fun m b ob q1 q2=>?_,fun m k b o1 o2 hmk q1 q2 q3 q4=>?_⟩
 · by_cases h:m=n
   · subst h
     rw[e1]at q1
     cases q1
     rw[qU_ hl]at q2
     cases q2
     exact ho
   · rw[qV_ (Ne.symm h)]at q2
     cases q:isF ob with
     |true=>
      cases ob with
      |frz xs=>
       obtain⟨vs,z,r⟩:=S.obj m b _ q1 q2
       exact⟨vs,SqF.keeps up.keeps z,aH.up up r⟩
      |_=>cases q
     |false=>
      have hb:b≠a:=by
       rintro rfl
       rcases S.inj m n b ob o h q1 e1 q2 e2 with z |z
       · rw[q]at z;cases z
       · rw[hf]at z;cases z
      exact(S.obj m b ob q1 q2).ky up fun x z=>by rw[aT hb];exact z
 · have back:∀(m:Nat) ob,(G.set n o')[m]? =some ob->∃ob',G[m]? =some ob'/\isF ob'=isF ob:=by
    intro m ob q
    by_cases h:m=n
    · subst h
      rw[qU_ hl]at q
      cases q
      exact⟨o,e2,by rw[hf,hf']⟩
    · rw[qV_ (Ne.symm h)]at q
      exact⟨ob,q,rfl⟩
   obtain⟨p1,r1,f1⟩:=back m o1 q3
   obtain⟨p2,r2,f2⟩:=back k o2 q4
   rw[<-f1,<-f2]
   exact S.inj m k b p1 p2 hmk q1 q2 r1 r2
theorem Up.set(S:Sim T K μ H G){n:Nat}{a:Addr}{o:M3.O}(u:HO)(e1:μ[n]? =some a)(e2:G[n]? =some o)(hf:isW o=true):Up μ μ H (upd H a u):=by
 obtain⟨w,hw,h1,h2⟩:=(S.obj n a o e1 e2).some_of hf
 exact Up.vK e1 hw h1 h2
end
structure StD (K:PySem.W.Frag) (H:Hp) (μ:List Addr) (σ3:M3.St) (σ:L2.St):Prop where
 len:σ3.length=σ.length
 at_:∀(i:Nat) d,σ3[i]? =some (some d)->∃v,σ[i]? =some (some v)/\Den K H μ d v
theorem StD.up{K:PySem.W.Frag}{H H':Hp}{μ μ':List Addr}{σ3:M3.St}{σ:L2.St}(u:Up μ μ' H H')(s:StD K H μ σ3 σ):StD K H' μ' σ3 σ:=
 ⟨s.len,fun i d e=>let ⟨v,h1,h2⟩:=s.at_ i d e;⟨v,h1,Den.up u h2⟩⟩
theorem StD.set{K:PySem.W.Frag}{H:Hp}{μ:List Addr}{σ3:M3.St}{σ:L2.St}(s:StD K H μ σ3 σ){d:M3.D}{v:V}(i:Nat)(h:Den K H μ d v):StD K H μ (σ3.set i (some d)) (σ.set i (some v)):=by
 refine⟨by rw[qX_,qX_];exact s.len,fun j d' e=>?_⟩
 by_cases hj:j=i
 · subst hj
   have hl:j < σ3.length:=by
    have:=(qB_.mp e).1
    rw[qX_]at this
    exact this
   rw[qU_ hl]at e
   cases e
   exact⟨v,by rw[qU_ (by rw[<-s.len];exact hl)],h⟩
 · rw[qV_ (Ne.symm hj)]at e
   rw[qV_ (Ne.symm hj)]
   exact s.at_ j d' e
structure EX where
 x:List Addr->Hp->Nat->M3.Hh->Prop
 up:∀{μ μ':List Addr} {H H':Hp} {c:Nat} {G:M3.Hh},Up μ μ' H H'->x μ H c G->x μ' H' c G
theorem EX.upE{α:Type}(E:EX){m:M3.M α}{G:M3.Hh}{P:α->M3.Hh->Prop}{μ μ':List Addr}{H H':Hp}(u:Up μ μ' H H')(h:M3.run m G P (E.x μ H)):M3.run m G P (E.x μ' H'):=M3.aC h (fun _ _ q=>q) fun _ _ q=>E.up u q
def fX(T:Tab)(K:PySem.W.Frag)(μ:List Addr)(H:Hp)(Q:VK)(d:M3.D)(G':M3.Hh):Prop:=∀v H' μ',Up μ μ' H H'->Sim T K μ' H' G'->Den K H' μ' d v->Q v H'
def pe(T:Tab)(K:PySem.W.Frag)(μ:List Addr)(H:Hp)(Q:Bool->Hp->Prop)(b:Bool)(G':M3.Hh):Prop:=∀H' μ',Up μ μ' H H'->Sim T K μ' H' G'->Q b H'
def DG(T:Tab)(K:PySem.W.Frag)(μ:List Addr)(H:Hp)(Q:List V->Hp->Prop)(ds:List M3.D)(G':M3.Hh):Prop:=∀vs H' μ',Up μ μ' H H'->Sim T K μ' H' G'->aH K H' μ' ds vs->Q vs H'
def gm(T:Tab)(K:PySem.W.Frag)(μ:List Addr)(H:Hp)(D:Ends)(r:M3.Fl×M3.St)(G':M3.Hh):Prop:=∀σ' H' μ',Up μ μ' H H'->Sim T K μ' H' G'->StD K H' μ' r.2 σ'->match r.1 with
 | .next=>D.nx σ' H'
 | .brk=>D.bk σ' H'
 | .cont=>D.ct σ' H'
 | .ret d=>∀v,Den K H' μ' d v->D.rt v H'
section
variable{T:Tab}{K:PySem.W.Frag}{μ μ':List Addr}{H H':Hp}{G:M3.Hh}
theorem fX.up{Q:VK}{d:M3.D}(u:Up μ μ' H H')(h:fX T K μ H Q d G):fX T K μ' H' Q d G:=fun v H2 μ2 u2 S r=>h v H2 μ2 (u.trans u2) S r
theorem pe.up{Q:Bool->Hp->Prop}{d:Bool}(u:Up μ μ' H H')(h:pe T K μ H Q d G):pe T K μ' H' Q d G:=fun H2 μ2 u2 S=>h H2 μ2 (u.trans u2) S
theorem gm.up{D:Ends}{r:M3.Fl×M3.St}(u:Up μ μ' H H')(h:gm T K μ H D r G):gm T K μ' H' D r G:=fun v H2 μ2 u2 S r=>h v H2 μ2 (u.trans u2) S r
end
def tE(T:Tab)(K:PySem.W.Frag)(Y:EX)(f:M3.E3):TE:=fun σ H Q=>∃μ σ3 G,Sim T K μ H G/\StD K H μ σ3 σ/\M3.run (f σ3) G (fX T K μ H Q) (Y.x μ H)
def tT(T:Tab)(K:PySem.W.Frag)(Y:EX)(f:M3.T3):TT:=fun σ H Q=>∃μ σ3 G,Sim T K μ H G/\StD K H μ σ3 σ/\M3.run (f σ3) G (pe T K μ H Q) (Y.x μ H)
def tA(T:Tab)(K:PySem.W.Frag)(Y:EX)(f:M3.A3):TA:=fun σ H Q=>∃μ σ3 G,Sim T K μ H G/\StD K H μ σ3 σ/\M3.run (f σ3) G (DG T K μ H Q) (Y.x μ H)
def tS(T:Tab)(K:PySem.W.Frag)(Y:EX)(f:M3.S3):TS:=fun D σ H=>∃μ σ3 G,Sim T K μ H G/\StD K H μ σ3 σ/\M3.run (f σ3) G (gm T K μ H D) (Y.x μ H)
theorem cQ{Y:EX}{α:Type}{T:Tab}{K:PySem.W.Frag}{μ:List Addr}{H:Hp}{m:M3.M M3.D}{k:M3.D->M3.M α}{G:M3.Hh}{P:α->M3.Hh->Prop}{R:VK}(h:M3.run (M3.bnd m k) G P (Y.x μ H))
 (f:∀d G1 v H1 μ1,Up μ μ1 H H1->Sim T K μ1 H1 G1->Den K H1 μ1 d v->M3.run (k d) G1 P (Y.x μ1 H1)->R v H1):M3.run m G (fX T K μ H R) (Y.x μ H):=
 M3.aC (M3.bt h) (fun d G1 q v H1 μ1 u S r=>f d G1 v H1 μ1 u S r (Y.upE u q)) fun _ _ z=>z
theorem sP{Y:EX}{α:Type}{T:Tab}{K:PySem.W.Frag}{μ:List Addr}{H:Hp}{m:M3.M Bool}{k:Bool->M3.M α}{G:M3.Hh}{P:α->M3.Hh->Prop}{R:Bool->Hp->Prop}(h:M3.run (M3.bnd m k) G P (Y.x μ H))
 (f:∀b G1 H1 μ1,Up μ μ1 H H1->Sim T K μ1 H1 G1->M3.run (k b) G1 P (Y.x μ1 H1)->R b H1):M3.run m G (pe T K μ H R) (Y.x μ H):=
 M3.aC (M3.bt h) (fun d G1 q H1 μ1 u S=>f d G1 H1 μ1 u S (Y.upE u q)) fun _ _ z=>z
theorem pJ{Y:EX}{α:Type}{T:Tab}{K:PySem.W.Frag}{μ:List Addr}{H:Hp}{m:M3.M (List M3.D)}{k:List M3.D->M3.M α}{G:M3.Hh}{P:α->M3.Hh->Prop}{R:List V->Hp->Prop}(h:M3.run (M3.bnd m k) G P (Y.x μ H))
 (f:∀ds G1 vs H1 μ1,Up μ μ1 H H1->Sim T K μ1 H1 G1->aH K H1 μ1 ds vs->M3.run (k ds) G1 P (Y.x μ1 H1)->R vs H1):M3.run m G (DG T K μ H R) (Y.x μ H):=
 M3.aC (M3.bt h) (fun d G1 q v H1 μ1 u S r=>f d G1 v H1 μ1 u S r (Y.upE u q)) fun _ _ z=>z
theorem eI{α:Type}{m:M3.M α}{G:M3.Hh}{P P':α->M3.Hh->Prop}{X:Nat->M3.Hh->Prop}(h:M3.run m G P X)(f:∀a G',P a G'->P' a G'):M3.run m G P' X:=M3.aC h f fun _ _ z=>z
section
variable{X:Cx}{T:Tab}{Y:EX}{a b e:Expr}{es:List Expr}{fa fb:M3.E3}{pos:Pos}{tt:M3.T3}
theorem PE.of{t u:TE}(h:PE X e t)(f:∀σ H Q,u σ H Q->t σ H Q):PE X e u:=fun pins s σ H Q I q=>h pins s σ H Q I (f σ H Q q)
theorem PT.of{t u:TT}(h:PT X e t)(f:∀σ H Q,u σ H Q->t σ H Q):PT X e u:=fun pins s σ H Q I q=>h pins s σ H Q I (f σ H Q q)
theorem PW.of{t u:TT}(h:PW X e t)(f:∀σ H Q,u σ H Q->t σ H Q):PW X e u:=fun wh pins s σ H Q I q=>h wh pins s σ H Q I (f σ H Q q)
theorem PA.of{t u:TA}(h:PA X es t)(f:∀σ H Q,u σ H Q->t σ H Q):PA X es u:=fun ps pins s σ H Q I q=>h ps pins s σ H Q I (f σ H Q q)
theorem PS.of{st:Stmt}{t u:TS}(h:PS X st t)(f:∀D σ H,u D σ H->t D σ H):PS X st u:=fun pins s σ H D I q=>h pins s σ H D I (f D σ H q)
theorem PSs.of{st:List Stmt}{t u:TS}(h:PSs X st t)(f:∀D σ H,u D σ H->t D σ H):PSs X st u:=fun pins s σ H D I q=>h pins s σ H D I (f D σ H q)
theorem aa(i:Nat){x:Str}(hN:X.N[i]? =some x:=by rfl)(hv:Vis X.env.scope x:=by first |exact Or.inl rfl |exact Or.inr (Or.inl rfl) |exact Or.inr (Or.inr rfl))(hd:(x==("__debug__":Str))=false:=by decide)
 (hcd:(x==("__classdict__":Str))=false:=by decide):PE X (.Name x pos) (tE T X.K Y (M3.af i)):=by
 refine PE.of (Em hN hv hd hcd) fun σ H Q ⟨μ,σ3,G,S,sd,h⟩=>?_
 unfold M3.af at h
 cases q:σ3[i]? with
 |none=>rw[q]at h;exact False.elim h
 |some o=>
  rw[q]at h
  cases o with
  |none=>exact False.elim h
  |some d=>
   obtain⟨v,e,r⟩:=sd.at_ i d q
   exact⟨v,e,h v H μ (Up.refl _ _) S r⟩
theorem ow{d:M3.D}{v:V}(h:PE X e (tC v))(hd:∀H μ,Den X.K H μ d v):PE X e (tE T X.K Y (M3.eC d)):=
 PE.of h fun σ H Q ⟨μ,σ3,G,S,sd,q⟩=>q v H μ (Up.refl _ _) S (hd H μ)
theorem aq{i j}:PE X (.Constant (.int i) j pos) (tE T X.K Y (M3.eC (.int i))):=ow Es fun _ _=>rfl
theorem fj{c j}:PE X (.Constant (.bool c) j pos) (tE T X.K Y (M3.eC (.bl c))):=ow HY fun _ _=>rfl
theorem jl{j}:PE X (.Constant .none j pos) (tE T X.K Y (M3.eC .non)):=ow Ey fun _ _=>rfl
theorem bq{x j}:PE X (.Constant (.str x) j pos) (tE T X.K Y (M3.eC (.str x))):=ow D9 fun _ _=>rfl
def Br2(T:Tab)(K:PySem.W.Frag)(Y:EX)(g:M3.D->M3.D->M3.M M3.D)(r:R2):Prop:=
 ∀μ H G x y v w Q,Sim T K μ H G->Den K H μ x v->Den K H μ y w->M3.run (g x y) G (fX T K μ H Q) (Y.x μ H)->r v w H Q
theorem De{g:M3.D->M3.D->M3.M M3.D}{r:R2}{K:PySem.W.Frag}(br:Br2 T K Y g r){σ:L2.St}{H:Hp}{Q:VK}(h:tE T K Y (M3.eOp g fa fb) σ H Q):tOp r (tE T K Y fa) (tE T K Y fb) σ H Q:=by
 obtain⟨μ,σ3,G,S,sd,h⟩:=h
 refine⟨μ,σ3,G,S,sd,cQ h fun x G1 v H1 μ1 u1 S1 d1 h1=>⟨μ1,σ3,G1,S1,sd.up u1,cQ h1 fun y G2 w H2 μ2 u2 S2 d2 h2=>?_⟩⟩
 exact br μ2 H2 G2 x y v w Q S2 (Den.up u2 d1) d2 (eI h2 fun _ _ q=>q.up (u1.trans u2))
theorem bu{op:Operator}{g:M3.D->M3.D->M3.M M3.D}{r:R2}(br:OpR X (binaryOp op) r/\Br2 T X.K Y g r)(ha:PE X a (tE T X.K Y fa))(hb:PE X b (tE T X.K Y fb)):PE X (.BinOp a op b pos) (tE T X.K Y (M3.eOp g fa fb)):=
 PE.of (HC br.1 ha hb) fun _ _ _ h=>De br.2 h
theorem v7{op:CmpOp}{g:M3.D->M3.D->M3.M M3.D}{r:R2}(br:OpR X (compareOp op) r/\Br2 T X.K Y g r)(ha:PE X a (tE T X.K Y fa))(hb:PE X b (tE T X.K Y fb))(hm:behindInMarks op b=false):PE X (.Compare a [op] [b] pos) (tE T X.K Y (M3.eOp g fa fb)):=
 PE.of (Dm br.1 ha hb hm) fun _ _ _ h=>De br.2 h
theorem t7{x:M3.D}{G:M3.Hh}{P:Bool->M3.Hh->Prop}{Z:Nat->M3.Hh->Prop}(h:M3.run (M3.asB x) G P Z):∃c,x= .bl c/\P c G:=by
 cases x with
 |bl c=>exact⟨c,rfl,h⟩
 |_=>exact False.elim h
theorem Ew{K:PySem.W.Frag}{f:M3.E3}{σ:L2.St}{H:Hp}{Q:Bool->Hp->Prop}(h:tT T K Y (M3.tB f) σ H Q):D4 (tE T K Y f) σ H Q:=by
 obtain⟨μ,σ3,G,S,sd,h⟩:=h
 refine⟨μ,σ3,G,S,sd,cQ h fun x G1 v H1 μ1 u1 S1 d1 h1=>?_⟩
 obtain⟨c,rfl,q⟩:=t7 h1
 exact⟨c,d1,q H1 μ1 u1 S1⟩
theorem bS{op:CmpOp}{g:M3.D->M3.D->M3.M M3.D}{r:R2}(br:OpR X (compareOp op) r/\Br2 T X.K Y g r)(ha:PE X a (tE T X.K Y fa))(hb:PE X b (tE T X.K Y fb))(hm:behindInMarks op b=false):PT X (.Compare a [op] [b] pos) (tT T X.K Y (M3.tB (M3.eOp g fa fb))):=by
 refine PT.of (DB br.1 ha hb hm) fun σ H Q h=>?_
 obtain⟨μ,σ3,G,S,sd,h⟩:=Ew h
 exact De br.2 ⟨μ,σ3,G,S,sd,h⟩
end
theorem ek:M3.aM=sizeLine:=by rw[sizeLine_eq];rfl
section
variable{X:Cx}{T:Tab}{Y:EX}{a b e:Expr}{es:List Expr}{fa fb:M3.E3}{ta tb:M3.T3}{f3:M3.A3}{pos:Pos}{rest:List Expr}
theorem wD{op}{f:M3.E3}(h:PE X a (tE T X.K Y f)):PE X (.BoolOp op [a] pos) (tE T X.K Y f):=FH h
theorem yO(ha:PE X a (tE T X.K Y fa))(hb:PE X (.BoolOp .And (b :: rest) pos) (tE T X.K Y fb)):PE X (.BoolOp .And (a :: b :: rest) pos) (tE T X.K Y (M3.za fa fb)):=by
 refine PE.of (Ex ha hb) fun σ H Q ⟨μ,σ3,G,S,sd,h⟩=>⟨μ,σ3,G,S,sd,cQ h fun x G1 v H1 μ1 u1 S1 d1 h1=>?_⟩
 obtain⟨c,rfl,q⟩:=t7 (M3.bt h1)
 refine⟨c,d1,?_⟩
 cases c with
 |true=>exact⟨μ1,σ3,G1,S1,sd.up u1,eI q fun _ _ z=>z.up u1⟩
 |false=>exact q _ H1 μ1 u1 S1 rfl
theorem IH(ha:PE X a (tE T X.K Y fa))(hb:PE X (.BoolOp .Or (b :: rest) pos) (tE T X.K Y fb)):PE X (.BoolOp .Or (a :: b :: rest) pos) (tE T X.K Y (M3.eOr fa fb)):=by
 refine PE.of (Ha ha hb) fun σ H Q ⟨μ,σ3,G,S,sd,h⟩=>⟨μ,σ3,G,S,sd,cQ h fun x G1 v H1 μ1 u1 S1 d1 h1=>?_⟩
 obtain⟨c,rfl,q⟩:=t7 (M3.bt h1)
 refine⟨c,d1,?_⟩
 cases c with
 |true=>exact q _ H1 μ1 u1 S1 rfl
 |false=>exact⟨μ1,σ3,G1,S1,sd.up u1,eI q fun _ _ z=>z.up u1⟩
theorem D5(ha:PE X a (tE T X.K Y fa)):PE X (.UnaryOp .Not a pos) (tE T X.K Y (M3.CV fa)):=by
 refine PE.of (EC ha) fun σ H Q ⟨μ,σ3,G,S,sd,h⟩=>⟨μ,σ3,G,S,sd,cQ h fun x G1 v H1 μ1 u1 S1 d1 h1=>?_⟩
 obtain⟨c,rfl,q⟩:=t7 (M3.bt h1)
 exact⟨c,d1,q _ H1 μ1 u1 S1 rfl⟩
theorem HI{j pos'}(ha:PE X a (tE T X.K Y fa)):PE X (.Compare a [.Is] [.Constant .none j pos'] pos) (tE T X.K Y (M3.eUn M3.qJ fa)):=by
 refine PE.of (Gr (Bi ha)) fun σ H Q ⟨μ,σ3,G,S,sd,h⟩=>⟨μ,σ3,G,S,sd,cQ h fun x G1 v H1 μ1 u1 S1 d1 h1=>?_⟩
 refine h1 _ H1 μ1 u1 S1 ?_
 cases x with
 |non=>cases (show v= .non from d1);rfl
 |bl b=>cases (show v= .bl b from d1);rfl
 |int b=>cases (show v= .int b from d1);rfl
 |str b=>cases (show v= .str b from d1);rfl
 |ref n=>obtain⟨_,_,rfl⟩:=d1;rfl
 |tup ds=>obtain⟨_,_,rfl,_⟩:=d1;rfl
theorem w5(ha:PT X a (tT T X.K Y ta)):PW X (.BoolOp .And [a] pos) (tT T X.K Y ta):=CC ha
theorem li(ha:PT X a (tT T X.K Y ta)):PW X (.BoolOp .Or [a] pos) (tT T X.K Y ta):=EH ha
theorem w_and(ha:PT X a (tT T X.K Y ta))(hb:PW X (.BoolOp .And (b :: rest) pos) (tT T X.K Y tb)):PW X (.BoolOp .And (a :: b :: rest) pos) (tT T X.K Y (M3.wc ta tb)):=by
 refine PW.of (FQ ha hb) fun σ H Q ⟨μ,σ3,G,S,sd,h⟩=>⟨μ,σ3,G,S,sd,sP h fun c G1 H1 μ1 u1 S1 h1=>?_⟩
 cases c with
 |true=>exact⟨μ1,σ3,G1,S1,sd.up u1,eI h1 fun _ _ z=>z.up u1⟩
 |false=>exact h1 H1 μ1 u1 S1
theorem w_or(ha:PT X a (tT T X.K Y ta))(hb:PW X (.BoolOp .Or (b :: rest) pos) (tT T X.K Y tb)):PW X (.BoolOp .Or (a :: b :: rest) pos) (tT T X.K Y (M3.tOr ta tb)):=by
 refine PW.of (Ht ha hb) fun σ H Q ⟨μ,σ3,G,S,sd,h⟩=>⟨μ,σ3,G,S,sd,sP h fun c G1 H1 μ1 u1 S1 h1=>?_⟩
 cases c with
 |true=>exact h1 H1 μ1 u1 S1
 |false=>exact⟨μ1,σ3,G1,S1,sd.up u1,eI h1 fun _ _ z=>z.up u1⟩
theorem gG(ha:PT X a (tT T X.K Y ta)):PT X (.UnaryOp .Not a pos) (tT T X.K Y (M3.iD ta)):=by
 refine PT.of (Fs ha) fun σ H Q ⟨μ,σ3,G,S,sd,h⟩=>⟨μ,σ3,G,S,sd,sP h fun c G1 H1 μ1 u1 S1 h1=>?_⟩
 exact h1 H1 μ1 u1 S1
theorem FK{Z:Nat->M3.Hh->Prop}{K:PySem.W.Frag}{μ:List Addr}{H:Hp}{G:M3.Hh}{x:M3.D}{v:V}{P:Bool->M3.Hh->Prop}(S:Sim T K μ H G)(d:Den K H μ x v)(h:M3.run (M3.truth x) G P Z):∃k,FE K v H k/\P k G:=by
 cases x with
 |non=>cases (show v= .non from d);exact⟨false,rfl,h⟩
 |bl b=>cases (show v= .bl b from d);exact⟨b,rfl,h⟩
 |int b=>cases (show v= .int b from d);exact⟨_,rfl,h⟩
 |str b=>
  cases (show v= .str b from d)
  unfold M3.run M3.truth at h
  dsimp only at h
  by_cases hl:b.length<=M3.aM
  · rw[if_pos hl]at h
    refine⟨b.length !=0,⟨by rw[<-ek];exact hl,?_⟩,h⟩
    cases q:b.length with
    |zero=>rfl
    |succ n=>rfl
  · rw[if_neg hl]at h
    exact False.elim h
 |tup ds=>
  obtain⟨a,vs,rfl,sq,r⟩:=d
  refine⟨!ds.isEmpty,.inr (.inl ⟨vs,sq,?_⟩),h⟩
  have:=r.length
  cases ds <;> cases vs <;> simp_all
 |ref n=>
  obtain⟨a,e,rfl⟩:=d
  unfold M3.run M3.truth at h
  dsimp only at h
  cases q:G[n]? with
  |none=>rw[q]at h;exact False.elim h
  |some o=>
   rw[q]at h
   have ob:=S.obj n a o e q
   cases o with
   |lst xs=>
    obtain⟨vs,e1,r⟩:=ob
    refine⟨_,.inl ⟨vs,SqL.of e1,rfl⟩,?_⟩
    have:=r.length
    cases xs <;> cases vs <;> simp_all
   |frz xs=>
    obtain⟨vs,e1,r⟩:=ob
    refine⟨_,.inl ⟨vs,e1.sq,rfl⟩,?_⟩
    have:=r.length
    cases xs <;> cases vs <;> simp_all
   |dK kvs=>
    obtain⟨ws,e1,r⟩:=ob
    refine⟨_,.inr (.inr ⟨ws,e1,rfl⟩),?_⟩
    have:=Paired.length r
    cases kvs <;> cases ws <;> simp_all
   |dF kvs=>exact False.elim h
   |dT kvs=>exact False.elim h
   |ins C fs=>exact False.elim h
theorem jg{f:M3.E3}(h:PE X e (tE T X.K Y f))(he:∀whole,isTrue e X.env whole=(do let v <-whole;standAt e.pos;holding [v] (truthy v)):=by intro _;rfl):PT X e (tT T X.K Y (M3.tOf f)):=by
 refine PT.of (BC h he) fun σ H Q ⟨μ,σ3,G,S,sd,h⟩=>⟨μ,σ3,G,S,sd,cQ h fun x G1 v H1 μ1 u1 S1 d1 h1=>?_⟩
 obtain⟨k,t,q⟩:=FK S1 d1 h1
 exact⟨k,t,q H1 μ1 u1 S1⟩
theorem Ja{c:Expr}(hc:PT X c (tT T X.K Y ta))(ha:PE X a (tE T X.K Y fa))(hb:PE X b (tE T X.K Y fb)):PE X (.IfExp c a b pos) (tE T X.K Y (M3.eIf ta fa fb)):=by
 refine PE.of (Ay hc ha hb) fun σ H Q ⟨μ,σ3,G,S,sd,h⟩=>⟨μ,σ3,G,S,sd,sP h fun c G1 H1 μ1 u1 S1 h1=>?_⟩
 cases c with
 |true=>exact⟨μ1,σ3,G1,S1,sd.up u1,eI h1 fun _ _ z=>z.up u1⟩
 |false=>exact⟨μ1,σ3,G1,S1,sd.up u1,eI h1 fun _ _ z=>z.up u1⟩
theorem ar:PA X [] (tA T X.K Y M3.ax):=PA.of nI fun σ H Q ⟨μ,σ3,G,S,sd,h⟩=>h [] H μ (Up.refl _ _) S rfl
theorem ae{r:M3.A3}(ha:PE X e (tE T X.K Y fa))(hr:PA X es (tA T X.K Y r))(hs:starEach (e :: es) X.env=(false,eval e X.env) :: starEach es X.env:=by rfl):PA X (e :: es) (tA T X.K Y (M3.ah fa r)):=by
 refine PA.of (jw ha hr hs) fun σ H Q ⟨μ,σ3,G,S,sd,h⟩=>⟨μ,σ3,G,S,sd,cQ h fun x G1 v H1 μ1 u1 S1 d1 h1=>⟨μ1,σ3,G1,S1,sd.up u1,pJ h1 fun xs G2 vs H2 μ2 u2 S2 d2 h2=>?_⟩⟩
 exact h2 _ H2 μ2 (u1.trans u2) S2 ⟨v,vs,rfl,Den.up u2 d1,d2⟩
theorem bC{x1}(h:PA X es (tA T X.K Y f3)):PE X (.Tuple es x1 pos) (tE T X.K Y (M3.cH f3)):=by
 refine PE.of (Ee h) fun σ H Q ⟨μ,σ3,G,S,sd,h⟩=>⟨μ,σ3,G,S,sd,pJ h fun xs G1 vs H1 μ1 u1 S1 d1 h1=>?_⟩
 by_cases hl:xs.length<=M3.aM
 · rw[if_pos hl]at h1
   refine⟨by rw[<-d1.length,<-ek];exact hl,fun p hp=>?_⟩
   have u2:Up μ1 μ1 H1 (upd H1 p (.tup vs)):=Up.same (ji.new _ hp)
   exact h1 _ _ μ1 (u1.trans u2) (S1.same (ji.new _ hp)) ⟨p,vs,rfl,SqT.of bi,aH.up u2 d1⟩
 · rw[if_neg hl]at h1;exact False.elim h1
theorem dN(h:PA X es (tA T X.K Y f3)):PE X (.List es pos) (tE T X.K Y (M3.fu f3)):=by
 refine PE.of (EN h) fun σ H Q ⟨μ,σ3,G,S,sd,h⟩=>⟨μ,σ3,G,S,sd,pJ h fun xs G1 vs H1 μ1 u1 S1 d1 h1=>?_⟩
 by_cases hl:xs.length<=M3.aM
 · rw[if_pos hl]at h1
   refine⟨by rw[<-d1.length,<-ek];exact hl,fun p hp=>?_⟩
   have u2:=Up.new (μ:=μ1) (.lst vs) hp
   refine h1 _ _ (μ1++[p]) (u1.trans u2) (S1.new hp rfl ⟨vs,bi,aH.up u2 d1⟩) ⟨p,?_,rfl⟩
   rw[<-S1.len];simp
 · rw[if_neg hl]at h1;exact False.elim h1
theorem bx:PSs X [] (tS T X.K Y M3.bU):=PSs.of Cf fun D σ H ⟨μ,σ3,G,S,sd,h⟩=>h σ H μ (Up.refl _ _) S sd
theorem az{st:Stmt}{f:M3.S3}(h:PS X st (tS T X.K Y f)):PSs X [st] (tS T X.K Y f):=CS h
theorem ao{st:Stmt}{sts:List Stmt}{f g:M3.S3}(h1:PS X st (tS T X.K Y f))(h2:PSs X sts (tS T X.K Y g)):PSs X (st :: sts) (tS T X.K Y (M3.aD f g)):=by
 refine PSs.of (Aw h1 h2) fun D σ H ⟨μ,σ3,G,S,sd,h⟩=>⟨μ,σ3,G,S,sd,eI (M3.bt h) fun r G1 q σ1 H1 μ1 u1 S1 sd1=>?_⟩
 obtain⟨fl,σ2⟩:=r
 cases fl with
 |next=>exact⟨μ1,σ2,G1,S1,sd1,eI (Y.upE u1 q) fun _ _ z=>z.up u1⟩
 |brk=>exact q σ1 H1 μ1 u1 S1 sd1
 |cont=>exact q σ1 H1 μ1 u1 S1 sd1
 |ret d=>exact q σ1 H1 μ1 u1 S1 sd1
theorem bA{i:Nat}{x:Str}{pos':Pos}(hN:X.N.Nodup)(hi:X.N[i]? =some x)(hx:Loc X.env.scope x)(he:PE X e (tE T X.K Y fa))(hs:swapsWith e (some (.Name x pos')) pos.line X.env=pure false:=by rfl)(hf:X.fn x=true\/X.env.scope.names.lookup x=some .local:=by first |exact .inl rfl |exact .inr rfl |assumption):
 PS X (.Assign [.Name x pos'] e pos) (tS T X.K Y (M3.bY i fa)):=by
 refine PS.of (Gg hN hi hx he hs hf) fun D σ H ⟨μ,σ3,G,S,sd,h⟩=>⟨μ,σ3,G,S,sd,cQ h fun d G1 v H1 μ1 u1 S1 d1 h1=>?_⟩
 exact h1 _ H1 μ1 u1 S1 ((sd.up u1).set i d1)
theorem cj(he:PE X e (tE T X.K Y fa))(hs:swapsWith e none pos.line X.env=pure false:=by rfl):PS X (.Expr e pos) (tS T X.K Y (M3.cY fa)):=by
 refine PS.of (DA he hs) fun D σ H ⟨μ,σ3,G,S,sd,h⟩=>⟨μ,σ3,G,S,sd,cQ h fun d G1 v H1 μ1 u1 S1 d1 h1=>?_⟩
 exact h1 _ H1 μ1 u1 S1 (sd.up u1)
theorem y_ret(he:PE X e (tE T X.K Y fa)):PS X (.Return (some e) pos) (tS T X.K Y (M3.aU fa)):=by
 refine PS.of (Gq he) fun D σ H ⟨μ,σ3,G,S,sd,h⟩=>⟨μ,σ3,G,S,sd,cQ h fun d G1 v H1 μ1 u1 S1 d1 h1=>?_⟩
 exact h1 _ H1 μ1 u1 S1 (sd.up u1) v d1
theorem cG{c:Expr}{p q:List Stmt}{f g:M3.S3}(hc:PT X c (tT T X.K Y ta))(ha:PSs X p (tS T X.K Y f))(hb:PSs X q (tS T X.K Y g)):PS X (.If c p q pos) (tS T X.K Y (M3.sIf ta f g)):=by
 refine PS.of (HB hc ha hb) fun D σ H ⟨μ,σ3,G,S,sd,h⟩=>⟨μ,σ3,G,S,sd,sP h fun c G1 H1 μ1 u1 S1 h1=>?_⟩
 cases c with
 |true=>exact⟨μ1,σ3,G1,S1,sd.up u1,eI h1 fun _ _ z=>z.up u1⟩
 |false=>exact⟨μ1,σ3,G1,S1,sd.up u1,eI h1 fun _ _ z=>z.up u1⟩
def HM(T:Tab)(K:PySem.W.Frag)(μ:List Addr)(H:Hp)(Q:L2.St->Hp->Prop)(σ3:M3.St)(G':M3.Hh):Prop:=∀σ' H' μ',Up μ μ' H H'->Sim T K μ' H' G'->StD K H' μ' σ3 σ'->Q σ' H'
def tG(T:Tab)(K:PySem.W.Frag)(Y:EX)(g:M3.D->M3.St->M3.M M3.St):TG:=fun v σ H Q=>∃μ σ3 G d,Sim T K μ H G/\StD K H μ σ3 σ/\Den K H μ d v/\M3.run (g d σ3) G (HM T K μ H Q) (Y.x μ H)
theorem PG.of{tg:Expr}{t u:TG}(h:PG X tg t)(f:∀v σ H Q,u v σ H Q->t v σ H Q):PG X tg u:=fun pins s σ H v w Q I r q=>h pins s σ H v w Q I r (f v σ H Q q)
theorem pX{i:Nat}{x:Str}(hN:X.N.Nodup)(hi:X.N[i]? =some x)(hx:Loc X.env.scope x)(hf:X.fn x=true\/X.env.scope.names.lookup x=some .local:=by first |exact .inl rfl |exact .inr rfl |assumption):PG X (.Name x pos) (tG T X.K Y (M3.gNm i)):=
 PG.of (um hN hi hx hf) fun v σ H Q ⟨μ,σ3,G,d,S,sd,r,h⟩=>h _ H μ (Up.refl _ _) S (sd.set i r)
def tGs(K:PySem.W.Frag)(is:List Nat):TGs:=fun vs σ H Q=>∃μ σ3 ds σ3',StD K H μ σ3 σ/\aH K H μ ds vs/\M3.ng is ds σ3=some σ3'/\∀σ',StD K H μ σ3' σ'->Q σ' H
theorem PGs.of{ts:List Expr}{t u:TGs}(h:PGs X ts t)(f:∀v σ H Q,u v σ H Q->t v σ H Q):PGs X ts u:=fun pins s σ H v w Q I r q=>h pins s σ H v w Q I r (f v σ H Q q)
theorem Bf:PGs X [] (tGs X.K []):=by
 refine PGs.of Dy fun vs σ H Q ⟨μ,σ3,ds,σ3',sd,r,e,h⟩=>?_
 cases ds with
 |nil=>
  cases e
  exact⟨r,h σ sd⟩
 |cons d t=>cases e
theorem kf{i:Nat}{is:List Nat}{x:Str}{ts:List Expr}(hN:X.N.Nodup)(hi:X.N[i]? =some x)(hx:Loc X.env.scope x)(ht:PGs X ts (tGs X.K is))(hf:X.fn x=true\/X.env.scope.names.lookup x=some .local:=by first |exact .inl rfl |exact .inr rfl |assumption)
 (hs:(assignEach (.Name x pos :: ts) X.env).map (·.2)=assign (.Name x pos) X.env :: (assignEach ts X.env).map (·.2):=by rfl):PGs X (.Name x pos :: ts) (tGs X.K (i :: is)):=by
 refine PGs.of (BU (um hN hi hx hf) ht hs) fun vs σ H Q ⟨μ,σ3,ds,σ3',sd,r,e,h⟩=>?_
 cases ds with
 |nil=>cases e
 |cons d t=>
  obtain⟨v,rv,rfl,d1,d2⟩:=r
  exact⟨v,rv,rfl,μ,σ3.set i (some d),t,σ3',sd.set i d1,d2,e,h⟩
theorem rB:∀{is:List Nat} {ds:List M3.D} {σ σ':M3.St},M3.ng is ds σ=some σ'->ds.length=is.length
 | [],[],_,_,_=>rfl
 | [],_ :: _,_,_,h=>by cases h
 |_ :: _,[],_,_,h=>by cases h
 |i :: r,d :: t,_,_,h=>by
  have:=rB (is:=r) (ds:=t) h
  simp [this]
theorem FY{ts:List Expr}{k:Nat}{is:List Nat}(hc:X.calm=true)(h:PGs X ts (tGs X.K is))(hn:(assignEach ts X.env).length=is.length:=by rfl)(hst:(assignEach ts X.env).findIdx? (·.1)=none:=by rfl):PG X (.Tuple ts k pos) (tG T X.K Y (M3.gUn is)):=by
 refine PG.of (EL hc h hn hst) fun v σ H Q ⟨μ,σ3,G,d,S,sd,r,h⟩=>?_
 cases d with
 |tup ds=>
  obtain⟨a,vs,rfl,sq,r⟩:=r
  unfold M3.gUn at h
  dsimp only at h
  cases q:M3.ng is ds σ3 with
  |none=>rw[q]at h;exact False.elim h
  |some σ3'=>
   rw[q]at h
   refine⟨a,vs,rfl,sq,by rw[<-r.length];exact rB q,μ,σ3,ds,σ3',sd,r,q,fun σ' sd'=>h σ' H μ (Up.refl _ _) S sd'⟩
 |_=>exact False.elim h
theorem Ig{tg:Expr}{is:List Nat}(he:PE X e (tE T X.K Y fa))(hg:PG X tg (tG T X.K Y (M3.gUn is)))(hs:swapsWithSole [tg] e pos.line X.env=pure false:=by rfl)(hw:swappedStores [tg] e X.env=pure none:=by rfl)
 (h1:(assignEach [tg] X.env).map (·.2)=[assign tg X.env]:=by rfl):PS X (.Assign [tg] e pos) (tS T X.K Y (M3.sUn is fa)):=by
 refine PS.of (Ag he hg hs hw h1) fun D σ H ⟨μ,σ3,G,S,sd,h⟩=>⟨μ,σ3,G,S,sd,cQ h fun d G1 v H1 μ1 u1 S1 d1 h1=>?_⟩
 refine⟨μ1,σ3,G1,d,S1,sd.up u1,d1,eI (M3.bt h1) fun σ4 G2 q σ' H' μ' u' S' sd'=>?_⟩
 exact q σ' H' μ' (u1.trans u') S' sd'
theorem kG{Z:Nat->M3.Hh->Prop}{c:Prop} [Decidable c]{α:Type}{m:M3.M α}{G:M3.Hh}{P:α->M3.Hh->Prop}(h:M3.run (if c then m else M3.fail) G P Z):c/\M3.run m G P Z:=by
 by_cases hc:c
 · rw[if_pos hc]at h;exact⟨hc,h⟩
 · rw[if_neg hc]at h;exact False.elim h
theorem oq:OpR X (binaryOp .Sub) (rI0 fun i j=>.int (i - j))/\Br2 T X.K Y M3.vA (rI0 fun i j=>.int (i - j)):=⟨Gu,by
 intro μ H G x y v w Q S dx dy h
 cases x with
 |int i=>cases y with
  |int j=>exact⟨i,j,dx,dy,h _ H μ (Up.refl _ _) S rfl⟩
  |_=>exact False.elim h
 |_=>exact False.elim h⟩
theorem vc{i:Int}(h:M3.small i=true):-(2 ^ 64) < i/\i < 2 ^ 64:=of_decide_eq_true h
theorem CQ:OpR X (binaryOp .Mult) (fun x y H Q=>∃s k,x= .str s/\y= .int k/\(0<=k/\k<=1000/\s.length<=1000)/\Q (.str (Txt.mul s k)) H):=by
 intro pins s σ H x y v u Q I rx ry h
 obtain⟨z,k,rfl,rfl,⟨h0,h1,h2⟩,q⟩:=h
 obtain⟨t,rfl⟩:=rx
 obtain⟨t',rfl⟩:=ry
 refine SB.mul ⟨?_,fun _ _=>?_,fun _ _=>?_⟩ fun t' tk=>⟨.str _,H,I.tok _,⟨_,rfl⟩,q⟩
 · rw[qa_ (by omega),qa_ (by omega)];rfl
 · rename_i hk _
   have hk':0 < k:=by omega
   have h3:(z.length:Int)*k<=1000*1000:=Int.mul_le_mul (by omega) h1 h0 (by decide)
   have:=Int.le_ediv_of_mul_le hk' (show (z.length:Int)*k<=2 ^ 63 - 1 by omega)
   omega
 · have h3:z.length*k.toNat<=1000*1000:=Nat.mul_le_mul h2 (by omega)
   have h4:sizeLine=16777216:=sizeLine_eq
   show decide (z.length*k.toNat > sizeLine)=false
   exact qa_ (by omega)
def DS:R2:=fun x y H Q=>rI Cr (fun i j=>.int (i*j)) x y H Q\/((∃s k,x= .str s/\y= .int k/\(0<=k/\k<=1000/\s.length<=1000)/\Q (.str (Txt.mul s k)) H)\/GS x y H Q)
theorem aH.rep{K:PySem.W.Frag}{H:Hp}{μ:List Addr}{ds:List M3.D}{vs:List V}(h:aH K H μ ds vs):∀k:Nat,aH K H μ (List.replicate k ds).flatten (List.replicate k vs).flatten
 |0=>rfl
 |k+1=>by
  rw[List.replicate_succ,List.replicate_succ,List.flatten_cons,List.flatten_cons]
  exact h.append (aH.rep h k)
theorem cR:OpR X (binaryOp .Mult) DS/\Br2 T X.K Y M3.gH DS:=⟨FV.or (CQ.or Ep),by
 intro μ H G x y v w Q S dx dy h
 cases x with
 |int i=>cases y with
  |int j=>
   obtain⟨c,h⟩:=kG (c:=(M3.small i||M3.small j)=true) h
   refine .inl ⟨i,j,dx,dy,?_,h _ H μ (Up.refl _ _) S rfl⟩
   rcases Bool.or_eq_true _ _ |>.mp c with c |c
   · exact .inl (vc c)
   · exact .inr (vc c)
  |_=>exact False.elim h
 |str s=>cases y with
  |int k=>
   obtain⟨c,h⟩:=kG (c:=0<=k/\k<=1000/\s.length<=1000) h
   exact .inr (.inl ⟨s,k,dx,dy,c,h _ H μ (Up.refl _ _) S rfl⟩)
  |_=>exact False.elim h
 |ref n=>cases y with
  |int k=>
   unfold M3.run M3.gH at h
   dsimp only at h
   cases q1:G[n]? with
   |none=>rw[q1]at h;exact False.elim h
   |some o1=>
    cases o1 with
    |lst xs=>
     rw[q1]at h
     dsimp only at h
     by_cases c:0<=k/\k<=1000000/\xs.length*k.toNat<=M3.aM
     · rw[if_pos c]at h
       obtain⟨c1,c2,c3⟩:=c
       obtain⟨p,ep,rfl⟩:=dx
       obtain⟨vs,hp,rp⟩:=S.obj n p _ ep q1
       refine .inr (.inr ⟨p,k,vs,rfl,dy,hp,by omega,by omega,by rw[<-rp.length,<-ek];exact c3,fun t ht=>?_⟩)
       have u2:=Up.new (μ:=μ) (.lst (List.replicate k.toNat vs).flatten) ht
       refine h _ _ (μ++[t]) u2 (S.new ht rfl ⟨_,bi,aH.up u2 (rp.rep k.toNat)⟩) ⟨t,?_,rfl⟩
       rw[<-S.len];simp
     · rw[if_neg c]at h;exact False.elim h
    |_=>rw[q1]at h;exact False.elim h
  |_=>exact False.elim h
 |_=>exact False.elim h⟩
theorem bp:OpR X (binaryOp .Mod) (rI (fun _ j=>0 < j) fun i j=>.int (i % j))/\Br2 T X.K Y M3.oMod (rI (fun _ j=>0 < j) fun i j=>.int (i % j)):=⟨Fb,by
 intro μ H G x y v w Q S dx dy h
 cases x with
 |int i=>cases y with
  |int j=>
   obtain⟨c,h⟩:=kG (c:=0 < j) h
   exact⟨i,j,dx,dy,c,h _ H μ (Up.refl _ _) S rfl⟩
  |_=>exact False.elim h
 |_=>exact False.elim h⟩
theorem DD:OpR X (binaryOp .FloorDiv) (rI EY fun i j=>.int (i / j))/\Br2 T X.K Y M3.oDiv (rI EY fun i j=>.int (i / j)):=⟨Dq,by
 intro μ H G x y v w Q S dx dy h
 cases x with
 |int i=>cases y with
  |int j=>
   obtain⟨c,h⟩:=kG (c:=0 < j/\j < 1073741824) h
   exact⟨i,j,dx,dy,c,h _ H μ (Up.refl _ _) S rfl⟩
  |_=>exact False.elim h
 |_=>exact False.elim h⟩
def DK(K:PySem.W.Frag):R2:=fun x y H Q=>rI0 (fun i j=>.int (i+j)) x y H Q\/(fun x y H Q=>(∃i j,x= .str i/\y= .str j/\i.length+j.length<=sizeLine/\Q (.str (i++j)) H)\/(fun x y H Q=>DT K x y H Q\/H4 x y H Q) x y H Q) x y H Q
theorem cE:OpR X (binaryOp .Add) (DK X.K)/\Br2 T X.K Y M3.gC (DK X.K):=⟨FP.or (xx.or (Di.or Fq)),by
 intro μ H G x y v w Q S dx dy h
 cases x with
 |int i=>cases y with
  |int j=>exact .inl ⟨i,j,dx,dy,h _ H μ (Up.refl _ _) S rfl⟩
  |_=>exact False.elim h
 |str p=>cases y with
  |str q=>
   obtain⟨c,h⟩:=kG (c:=p.length+q.length<=M3.aM) h
   exact .inr (.inl ⟨p,q,dx,dy,by rw[<-ek];exact c,h _ H μ (Up.refl _ _) S rfl⟩)
  |_=>exact False.elim h
 |tup ds=>cases y with
  |tup es=>
   obtain⟨⟨c1,c2⟩,h⟩:=kG (c:=ds≠ []/\ds.length+es.length<=M3.aM) h
   obtain⟨p,vs,rfl,sp,rp⟩:=dx
   obtain⟨q,ws,rfl,sq,rq⟩:=dy
   refine .inr (.inr (.inl ⟨p,q,vs,ws,rfl,rfl,sp,sq,?_,by rw[<-rp.length,<-rq.length,<-ek];exact c2,fun z=>?_,fun z t ht=>?_⟩))
   · intro z;subst z
     cases ds with
     |nil=>exact c1 rfl
     |cons d t=>obtain⟨_,_,e,_⟩:=rp;cases e
   · subst z
     refine h _ H μ (Up.refl _ _) S ⟨p,vs,rfl,sp,?_⟩
     have:es=[]:=by
      have:=rq.length
      cases es with
      |nil=>rfl
      |cons _ _=>simp at this
     subst this
     rw[qY_];exact rp
   · have u2:Up μ μ H (upd H t (.tup (vs++ws))):=Up.same (ji.new _ ht)
     exact h _ _ μ u2 (S.same (ji.new _ ht)) ⟨t,_,rfl,SqT.of bi,aH.up u2 (rp.append rq)⟩
  |_=>exact False.elim h
 |ref i=>cases y with
  |ref j=>
   unfold M3.run M3.gC at h
   dsimp only at h
   cases q1:G[i]? with
   |none=>rw[q1]at h;exact False.elim h
   |some o1=>
    cases o1 with
    |lst xs=>
     cases q2:G[j]? with
     |none=>rw[q1,q2]at h;exact False.elim h
     |some o2=>
      cases o2 with
      |lst ys=>
       rw[q1,q2]at h
       dsimp only at h
       by_cases c:xs.length+ys.length<=M3.aM
       · rw[if_pos c]at h
         obtain⟨p,ep,rfl⟩:=dx
         obtain⟨q,eq,rfl⟩:=dy
         obtain⟨vs,hp,rp⟩:=S.obj i p _ ep q1
         obtain⟨ws,hq,rq⟩:=S.obj j q _ eq q2
         refine .inr (.inr (.inr ⟨p,q,vs,ws,rfl,rfl,hp,hq,by rw[<-rp.length,<-rq.length,<-ek];exact c,fun t ht=>?_⟩))
         have u2:=Up.new (μ:=μ) (.lst (vs++ws)) ht
         refine h _ _ (μ++[t]) u2 (S.new ht rfl ⟨_,bi,aH.up u2 (rp.append rq)⟩) ⟨t,?_,rfl⟩
         rw[<-S.len];simp
       · rw[if_neg c]at h;exact False.elim h
      |_=>rw[q1,q2]at h;exact False.elim h
    |_=>rw[q1]at h;exact False.elim h
  |_=>exact False.elim h
 |_=>exact False.elim h⟩
theorem Fx:OpR X (compareOp .GtE) (rI0 fun i j=>.bl (decide (j<=i)))/\Br2 T X.K Y M3.oGe (rI0 fun i j=>.bl (decide (j<=i))):=⟨Hb,by
 intro μ H G x y v w Q S dx dy h
 cases x with
 |int i=>cases y with
  |int j=>exact⟨i,j,dx,dy,h _ H μ (Up.refl _ _) S rfl⟩
  |_=>exact False.elim h
 |_=>exact False.elim h⟩
theorem gZ:∀{ds:List M3.D} {ns:List Int},M3.intsOf ds=some ns->ds=ns.map M3.D.int
 | [],_,h=>by cases h;rfl
 |d :: r,ns,h=>by
  cases d with
  |int i=>
   have h:(M3.intsOf r).map (i :: ·)=some ns:=h
   cases q:M3.intsOf r with
   |none=>rw[q]at h;cases h
   |some m=>
    rw[q]at h
    cases h
    rw[gZ q];rfl
  |_=>cases h
theorem uZ:∀(a b:List Int),M3.vN a b=HT.lexLt a b
 | [],[]=>rfl
 | [],_ :: _=>rfl
 |_ :: _,[]=>rfl
 |a :: r,b :: t=>by
  show (if a=b then M3.vN r t else decide (a < b))=if a=b then HT.lexLt r t else decide (a < b)
  rw[uZ r t]
def C7(K:PySem.W.Frag):R2:=fun x y H Q=>rI0 (fun i j=>.bl (decide (i < j))) x y H Q\/HL K x y H Q
theorem Gj(hu:X.A.units < cLine):OpR X (compareOp .Lt) (C7 X.K)/\Br2 T X.K Y M3.oLt (C7 X.K):=⟨GK.or (E4 hu),by
 intro μ H G x y v w Q S dx dy h
 cases x with
 |int i=>cases y with
  |int j=>exact .inl ⟨i,j,dx,dy,h _ H μ (Up.refl _ _) S rfl⟩
  |_=>exact False.elim h
 |tup ds=>cases y with
  |tup es=>
   unfold M3.oLt at h
   dsimp only at h
   cases q1:M3.intsOf ds with
   |none=>rw[q1]at h;exact False.elim h
   |some m=>
    cases q2:M3.intsOf es with
    |none=>rw[q1,q2]at h;exact False.elim h
    |some n=>
     rw[q1,q2]at h
     rw[gZ q1]at dx
     rw[gZ q2]at dy
     obtain⟨p,vs,rfl,sp,rp⟩:=dx
     obtain⟨q,ws,rfl,sq,rq⟩:=dy
     rw[aH.ints rp]at sp
     rw[aH.ints rq]at sq
     refine .inr ⟨p,q,m,n,rfl,rfl,sp,sq,?_⟩
     rw[<-uZ]
     exact h _ H μ (Up.refl _ _) S rfl
  |_=>exact False.elim h
 |_=>exact False.elim h⟩
end
open PySem PySem.Spec PyProof.Rows L2 PySem.SeqAt
section
variable{X:Cx}{T:Tab}{Y:EX}{pins:List (Addr×Obj)}{σ:L2.St}{H:Hp}{s:Shared}{μ:List Addr}{G:M3.Hh}
theorem oJ{f:M3.D->M3.D->Option Bool}:∀{xs ys:List M3.D} {b:Bool},M3.eqZ f xs ys=some b->∃e:Nat->Bool,(∀(j:Nat) x y,xs[j]? =some x->ys[j]? =some y->f x y=some (e j))/\b=(List.range (min xs.length ys.length)).all e
 | [],ys,b,h=>⟨fun _=>true,(fun j x y h=>by simp at h),by cases ys <;> (cases h;simp)⟩
 |x :: xs,[],b,h=>⟨fun _=>true,(fun j x y _ h=>by simp at h),by cases h;simp⟩
 |x :: xs,y :: ys,b,h=>by
  unfold M3.eqZ at h
  cases q:f x y with
  |none=>rw[q]at h;cases h
  |some p=>
   cases q2:M3.eqZ f xs ys with
   |none=>rw[q,q2]at h;cases h
   |some r=>
    rw[q,q2]at h
    cases h
    obtain⟨e,h1,h2⟩:=oJ q2
    refine⟨fun j=>match j with
     |0=>p
     |j+1=>e j,fun j a b e1 e2=>?_,?_⟩
    · cases j with
      |zero=>
       simp at e1 e2
       subst e1 e2
       exact q
      |succ j=>exact h1 j a b (by simpa using e1) (by simpa using e2)
    · rw[h2]
      simp only[List.length_cons,Nat.succ_min_succ,List.range_succ_eq_map,List.all_cons,List.all_map]
      rfl
theorem yn(I:Inv X pins σ H s){a:Addr}{vs ws:List V}(h1:SqL X.K H a vs)(h2:SqT X.K H a ws):False:=by
 obtain⟨its,_,⟨o,n,e,c,_⟩,_⟩:=I.list h1
 obtain⟨its2,_,⟨o2,e2,c2,_⟩,_⟩:=I.tuple h2
 rw[e]at e2
 cases e2
 rw[c]at c2
 injection c2 with c3
 exact absurd c3 (by decide)
theorem fF(S:Sim T X.K μ H G){n:Nat}{a:Addr}{xs:List M3.D}(e:μ[n]? =some a)(h:M3.listOf G n=some xs):∃vs,SqL X.K H a vs/\aH X.K H μ xs vs:=by
 unfold M3.listOf at h
 cases q:G[n]? with
 |none=>rw[q]at h;cases h
 |some o=>
  rw[q]at h
  have ob:=S.obj n a o e q
  cases o with
  |lst ys=>cases h;obtain⟨vs,e1,r⟩:=ob;exact⟨vs,SqL.of e1,r⟩
  |frz ys=>cases h;obtain⟨vs,e1,r⟩:=ob;exact⟨vs,e1.sq,r⟩
  |_=>cases h
def sc:V->Option M3.D
 | .non=>some .non
 | .bl b=>some (.bl b)
 | .int i=>some (.int i)
 | .str x=>some (.str x)
 |_=>none
theorem lj{K:PySem.W.Frag}{x d:M3.D}{v:V}(h:Den K H μ x v)(e:sc v=some d):x=d:=by
 cases x with
 |non=>cases (show v= .non from h);cases e;rfl
 |bl b=>cases (show v= .bl b from h);cases e;rfl
 |int i=>cases (show v= .int i from h);cases e;rfl
 |str z=>cases (show v= .str z from h);cases e;rfl
 |ref n=>obtain⟨a,_,rfl⟩:=h;cases e
 |tup ds=>obtain⟨a,vs,rfl,_⟩:=h;cases e
theorem gU{K:PySem.W.Frag}{x:M3.D}{v:V}(h:Den K H μ x v)(e:sc v=none):(∃n a,x= .ref n/\v= .ref a/\μ[n]? =some a)\/∃ds a vs,x= .tup ds/\v= .ref a/\SqT K H a vs/\aH K H μ ds vs:=by
 cases x with
 |non=>cases (show v= .non from h);cases e
 |bl b=>cases (show v= .bl b from h);cases e
 |int i=>cases (show v= .int i from h);cases e
 |str z=>cases (show v= .str z from h);cases e
 |ref n=>obtain⟨a,e1,rfl⟩:=h;exact .inl ⟨n,a,rfl,rfl,e1⟩
 |tup ds=>obtain⟨a,vs,rfl,h1,h2⟩:=h;exact .inr ⟨ds,a,vs,rfl,rfl,h1,h2⟩
theorem DN{k:Nat}{v w:V}{d y:M3.D}{b:Bool}(dy:Den X.K H μ y w)(hv:sc v=some d)(hw:sc w=none)(h:M3.eqG G k d y=some b):b=false:=by
 cases k with
 |zero=>cases h
 |succ k=>
  rcases gU dy hw with ⟨n,a,rfl,rfl,_⟩ |⟨ds,a,vs,rfl,rfl,_⟩ <;> cases v <;> (try cases hv) <;> (try cases h) <;> rfl
theorem DQ{k:Nat}{v w:V}{d y:M3.D}{b:Bool}(dy:Den X.K H μ y w)(hv:sc v=some d)(hw:sc w=none)(h:M3.eqG G k y d=some b):b=false:=by
 cases k with
 |zero=>cases h
 |succ k=>
  rcases gU dy hw with ⟨n,a,rfl,rfl,_⟩ |⟨ds,a,vs,rfl,rfl,_⟩ <;> cases v <;> (try cases hv) <;> (try cases h) <;> rfl
theorem kS{k n m:Nat}{b:Bool}(h:M3.eqG G (k+1) (.ref n) (.ref m)=some b):∃xs ys,M3.listOf G n=some xs/\M3.listOf G m=some ys/\(if xs.length=ys.length then M3.eqZ (M3.eqG G k) xs ys else some false)=some b:=by
 have h:(match M3.listOf G n,M3.listOf G m with
  |some a,some b=>if a.length=b.length then M3.eqZ (M3.eqG G k) a b else some false
  |_,_=>none)=some b:=h
 cases q1:M3.listOf G n with
 |none=>rw[q1]at h;cases h
 |some xs=>
  cases q2:M3.listOf G m with
  |none=>rw[q1,q2]at h;cases h
  |some ys=>rw[q1,q2]at h;exact⟨xs,ys,rfl,rfl,h⟩
theorem oS{k:Nat}{ds es:List M3.D}{b:Bool}(h:M3.eqG G (k+1) (.tup ds) (.tup es)=some b):∃p,M3.eqZ (M3.eqG G k) ds es=some p/\b=(p&&decide (ds.length=es.length)):=by
 have h:(M3.eqZ (M3.eqG G k) ds es).map (·&&decide (ds.length=es.length))=some b:=h
 cases q:M3.eqZ (M3.eqG G k) ds es with
 |none=>rw[q]at h;cases h
 |some p=>rw[q]at h;cases h;exact⟨p,rfl,rfl⟩
theorem AO(I:Inv X pins σ H s)(S:Sim T X.K μ H G):∀(k:Nat) {x y x' y':M3.D} {v w:V} {b b':Bool},Den X.K H μ x v->Den X.K H μ x' v->Den X.K H μ y w->Den X.K H μ y' w->
 M3.eqG G k x y=some b->M3.eqG G k x' y'=some b'->b=b'
 |0,_,_,_,_,_,_,_,_,_,_,_,_,h,_=>by cases h
 |k+1,x,y,x',y',v,w,b,b',dx,dx',dy,dy',h,h'=>by
  have items:∀{xs xs' ys ys':List M3.D} {vs ws:List V} {p q:Bool},aH X.K H μ xs vs->aH X.K H μ xs' vs->aH X.K H μ ys ws->aH X.K H μ ys' ws->M3.eqZ (M3.eqG G k) xs ys=some p->M3.eqZ (M3.eqG G k) xs' ys'=some q->p=q:=by
   intro xs xs' ys ys' vs ws p q r1 r2 r3 r4 e1 e2
   obtain⟨f,hf,rfl⟩:=oJ e1
   obtain⟨g,hg,rfl⟩:=oJ e2
   have l1:=r1.length
   have l2:=r2.length
   have l3:=r3.length
   have l4:=r4.length
   rw[show min xs'.length ys'.length=min xs.length ys.length by omega]
   have key:∀j∈List.range (min xs.length ys.length),f j=g j:=by
    intro j hj
    have hj:=List.mem_range.mp hj
    have j1:j < xs.length:=by omega
    have j2:j < ys.length:=by omega
    have j3:j < xs'.length:=by omega
    have j4:j < ys'.length:=by omega
    obtain⟨v1,a1,d1⟩:=r1.get (qA_ j1)
    obtain⟨v2,a2,d2⟩:=r2.get (qA_ j3)
    obtain⟨v3,a3,d3⟩:=r3.get (qA_ j2)
    obtain⟨v4,a4,d4⟩:=r4.get (qA_ j4)
    rw[a1]at a2;cases a2
    rw[a3]at a4;cases a4
    exact AO I S k d1 d2 d3 d4 (hf j _ _ (qA_ j1) (qA_ j2)) (hg j _ _ (qA_ j3) (qA_ j4))
   generalize List.range (min xs.length ys.length)=L at key
   induction L with
   |nil=>rfl
   |cons j r ih=>rw[List.all_cons,List.all_cons,key j qI_,ih fun i hi=>key i (qR_ _ hi)]
  cases hv:sc v with
  |some d1=>
   have e1:=lj dx hv
   have e2:=lj dx' hv
   cases hw:sc w with
   |some d2=>
    have e3:=lj dy hw
    have e4:=lj dy' hw
    subst e1 e2 e3 e4
    rw[h]at h'
    cases h'
    rfl
   |none=>
    subst e1 e2
    rw[DN dy hv hw h,DN dy' hv hw h']
  |none=>
   cases hw:sc w with
   |some d2=>
    have e3:=lj dy hw
    have e4:=lj dy' hw
    subst e3 e4
    rw[DQ dx hw hv h,DQ dx' hw hv h']
   |none=>
    rcases gU dx hv with ⟨n,a,rfl,rfl,en⟩ |⟨ds,a,vs,rfl,rfl,sq,r⟩
    · rcases gU dy hw with ⟨m,c,rfl,rfl,em⟩ |⟨es,c,ws,rfl,rfl,sq2,r2⟩
      · obtain⟨xs,ys,l1,l2,h⟩:=kS h
        obtain⟨vs1,q1,r1⟩:=fF S en l1
        obtain⟨vs2,q2,r2⟩:=fF S em l2
        rcases gU dx' hv with ⟨n',a',rfl,ea,en'⟩ |⟨ds',a',vs',rfl,ea,sq',r'⟩
        · cases ea
          rcases gU dy' hw with ⟨m',c',rfl,ec,em'⟩ |⟨es',c',ws',rfl,ec,sq2',r2'⟩
          · cases ec
            obtain⟨xs',ys',l1',l2',h'⟩:=kS h'
            obtain⟨vs1',q1',r1'⟩:=fF S en' l1'
            obtain⟨vs2',q2',r2'⟩:=fF S em' l2'
            cases I.lH q1 q1'
            cases I.lH q2 q2'
            have z1:=r1.length
            have z2:=r1'.length
            have z3:=r2.length
            have z4:=r2'.length
            by_cases c:xs.length=ys.length
            · rw[if_pos c]at h
              rw[if_pos (by omega)]at h'
              exact items r1 r1' r2 r2' h h'
            · rw[if_neg c]at h
              rw[if_neg (by omega)]at h'
              cases h;cases h';rfl
          · cases h'
        · cases ea
          exact(yn I q1 sq').elim
      · cases h
    · rcases gU dy hw with ⟨m,c,rfl,rfl,em⟩ |⟨es,c,ws,rfl,rfl,sq2,r2⟩
      · cases h
      · obtain⟨p,hz,rfl⟩:=oS h
        rcases gU dx' hv with ⟨n',a',rfl,ea,en'⟩ |⟨ds',a',vs',rfl,ea,sq',r'⟩
        · cases ea
          rcases gU dy' hw with ⟨m',c',rfl,ec,em'⟩ |⟨es',c',ws',rfl,ec,sq2',r2'⟩
          · obtain⟨xs',ys',l1',l2',h'⟩:=kS h'
            obtain⟨vs1',q1',r1'⟩:=fF S en' l1'
            exact(yn I q1' sq).elim
          · cases h'
        · cases ea
          rcases gU dy' hw with ⟨m',c',rfl,ec,em'⟩ |⟨es',c',ws',rfl,ec,sq2',r2'⟩
          · cases h'
          · cases ec
            obtain⟨p',hz',rfl⟩:=oS h'
            cases I.mx sq sq'
            cases I.mx sq2 sq2'
            have z1:=r.length
            have z2:=r'.length
            have z3:=r2.length
            have z4:=r2'.length
            rw[items r r' r2 r2' hz hz',z1,z2,z3,z4]
theorem uw(I:Inv X pins σ H s)(S:Sim T X.K μ H G):∀(k:Nat) {x y:M3.D} {v:V} {b:Bool},Den X.K H μ x v->Den X.K H μ y v->M3.eqG G k x y=some b->b=true
 |0,_,_,_,_,_,_,h=>by cases h
 |k+1,x,y,v,b,dx,dy,h=>by
  have items:∀{xs ys:List M3.D} {vs:List V} {p:Bool},aH X.K H μ xs vs->aH X.K H μ ys vs->M3.eqZ (M3.eqG G k) xs ys=some p->p=true:=by
   intro xs ys vs p r1 r2 e1
   obtain⟨f,hf,rfl⟩:=oJ e1
   rw[List.all_eq_true]
   intro j hj
   have hj:=List.mem_range.mp hj
   have j1:j < xs.length:=by omega
   have j2:j < ys.length:=by omega
   obtain⟨v1,a1,d1⟩:=r1.get (qA_ j1)
   obtain⟨v2,a2,d2⟩:=r2.get (qA_ j2)
   rw[a1]at a2;cases a2
   exact uw I S k d1 d2 (hf j _ _ (qA_ j1) (qA_ j2))
  cases hv:sc v with
  |some d=>
   have e1:=lj dx hv
   have e2:=lj dy hv
   subst e1 e2
   cases v with
   |non=>cases hv;cases h;rfl
   |bl c=>cases hv;cases h;simp
   |int c=>cases hv;cases h;simp
   |str c=>cases hv;cases h;simp
   |_=>cases hv
  |none=>
   rcases gU dx hv with ⟨n,a,rfl,rfl,en⟩ |⟨ds,a,vs,rfl,rfl,sq,r⟩
   · rcases gU dy hv with ⟨m,c,rfl,ec,em⟩ |⟨es,c,ws,rfl,ec,sq2,r2⟩
     · cases ec
       obtain⟨xs,ys,l1,l2,h⟩:=kS h
       obtain⟨vs1,q1,r1⟩:=fF S en l1
       obtain⟨vs2,q2,r2⟩:=fF S em l2
       cases I.lH q1 q2
       rw[if_pos (r1.length.trans r2.length.symm)]at h
       exact items r1 r2 h
     · cases h
   · rcases gU dy hv with ⟨m,c,rfl,ec,em⟩ |⟨es,c,ws,rfl,ec,sq2,r2⟩
     · cases h
     · cases ec
       obtain⟨p,hz,rfl⟩:=oS h
       cases I.mx sq sq2
       rw[items r r2 hz,qZ_ (r.length.trans r2.length.symm)]
       rfl
theorem yd{K:PySem.W.Frag}{ds:List M3.D}{vs:List V}{its:List Value}(r:aH K H μ ds vs)(q:Vals vs its){j:Nat}(h:j < its.toArray.size):∃d v,ds[j]? =some d/\Den K H μ d v/\RelV v its.toArray[j]:=by
 have hl:j < its.length:=by simpa using h
 have h2:j < vs.length:=by rw[q.length];exact hl
 obtain⟨u,e,rv⟩:=q.get (qA_ h2)
 obtain⟨d,e1,r1⟩:=r.get' (qA_ h2)
 refine⟨d,_,e1,r1,?_⟩
 rw[qA_ hl]at e
 cases e
 simpa using rv
theorem yb(I:Inv X pins σ H s)(S:Sim T X.K μ H G):∀(k:Nat) {x y:M3.D} {v w:V} {u u':Value} {b:Bool} {A:Around},A.units+k < cLine->Den X.K H μ x v->Den X.K H μ y w->RelV v u->RelV w u'->M3.eqG G k x y=some b->
 EqAt A s u u' b/\RcAt A s u u' b/\RcNeAt A s u u' (!b)
 |0,_,_,_,_,_,_,_,_,_,_,_,_,_,h=>by cases h
 |k+1,x,y,v,w,u,u',b,A,hu,dx,dy,ru,ru',h=>by
  have hu0:A.units < cLine:=by omega
  have hu1:A.in1.units+k < cLine:=by show A.units+1+k < cLine;omega
  have items:∀{xs ys:List M3.D} {vs ws:List V} {is js:List Value} {p:Bool},aH X.K H μ xs vs->aH X.K H μ ys ws->Vals vs is->Vals ws js->M3.eqZ (M3.eqG G k) xs ys=some p->
   ∃e:Nat->Bool,(∀j (h1:j < is.toArray.size) (h2:j < js.toArray.size),EqAt A.in1 s is.toArray[j] js.toArray[j] (e j))/\p=(List.range (min is.toArray.size js.toArray.size)).all e:=by
   intro xs ys vs ws is js p r1 r2 q1 q2 hz
   obtain⟨e,he,rfl⟩:=oJ hz
   refine⟨e,fun j h1 h2=>?_,?_⟩
   · obtain⟨d1,v1,a1,b1,c1⟩:=yd r1 q1 h1
     obtain⟨d2,v2,a2,b2,c2⟩:=yd r2 q2 h2
     exact(yb I S k hu1 b1 b2 c1 c2 (he j _ _ a1 a2)).1
   · have l1:=r1.length
     have l2:=r2.length
     have l3:=q1.length
     have l4:=q2.length
     rw[show min is.toArray.size js.toArray.size=min xs.length ys.length by simp;omega]
  cases x with
  |non=>
   cases (show v= .non from dx)
   cases (show u=Value.none from ru)
   cases y with
   |non=>cases (show w= .non from dy);cases (show u'=Value.none from ru');cases h;exact⟨.same _,.none_none,.none_none⟩
   |int j=>cases (show w= .int j from dy);obtain⟨t,rfl⟩:=(show ∃t,u'=Value.int j t from ru');cases h;exact⟨.none_int _ _,.none_int _ _,.none_int _ _⟩
   |str j=>cases (show w= .str j from dy);obtain⟨t,rfl⟩:=(show ∃t,u'=Value.str j t from ru');cases h;exact⟨.none_str _ _,.none_str _ _,.none_str _ _⟩
   |tup es=>obtain⟨a,vs,rfl,sq,r⟩:=dy;cases (show u'=Value.ref a from ru');cases h;obtain⟨its,_,p,_⟩:=I.tuple sq;exact⟨.none_tuple p hu0,.none_tuple p hu0,.none_tuple p hu0⟩
   |bl j=>cases h
   |ref j=>cases h
  |bl i=>
   cases (show v= .bl i from dx)
   cases (show u=Value.bool i from ru)
   cases y with
   |bl j=>cases (show w= .bl j from dy);cases (show u'=Value.bool j from ru');cases h;exact⟨.bool_bool _ _,.bool_bool _ _,.bool_bool _ _⟩
   |_=>cases h
  |int i=>
   cases (show v= .int i from dx)
   obtain⟨t,rfl⟩:=(show ∃t,u=Value.int i t from ru)
   cases y with
   |non=>cases (show w= .non from dy);cases (show u'=Value.none from ru');cases h;exact⟨.int_none _ _,.int_none _ _,.int_none _ _⟩
   |int j=>
    cases (show w= .int j from dy);obtain⟨t',rfl⟩:=(show ∃t,u'=Value.int j t from ru');cases h
    rw[<-Bool.beq_eq_decide_eq]
    exact⟨.int_int _ _ _ _,.int_int _ _ _ _,.int_int _ _ _ _⟩
   |str j=>cases (show w= .str j from dy);obtain⟨t',rfl⟩:=(show ∃t,u'=Value.str j t from ru');cases h;exact⟨.int_str _ _ _ _,.int_str _ _ _ _,.int_str _ _ _ _⟩
   |tup es=>obtain⟨a,vs,rfl,sq,r⟩:=dy;cases (show u'=Value.ref a from ru');cases h;obtain⟨its,_,p,_⟩:=I.tuple sq;exact⟨.int_tuple _ _ p hu0,.int_tuple _ _ p hu0,.int_tuple _ _ p hu0⟩
   |bl j=>cases h
   |ref j=>cases h
  |str i=>
   cases (show v= .str i from dx)
   obtain⟨t,rfl⟩:=(show ∃t,u=Value.str i t from ru)
   cases y with
   |non=>cases (show w= .non from dy);cases (show u'=Value.none from ru');cases h;exact⟨.str_none _ _,.str_none _ _,.str_none _ _⟩
   |str j=>
    cases (show w= .str j from dy);obtain⟨t',rfl⟩:=(show ∃t,u'=Value.str j t from ru');cases h
    rw[show decide (i=j)=(i==j)from rfl]
    exact⟨.str_str _ _ _ _,.str_str _ _ _ _,.str_str _ _ _ _⟩
   |int j=>cases (show w= .int j from dy);obtain⟨t',rfl⟩:=(show ∃t,u'=Value.int j t from ru');cases h;exact⟨.str_int _ _ _ _,.str_int _ _ _ _,.str_int _ _ _ _⟩
   |tup es=>cases h
   |bl j=>cases h
   |ref j=>cases h
  |tup ds=>
   obtain⟨a,vs,rfl,sq,r⟩:=dx
   cases (show u=Value.ref a from ru)
   obtain⟨is,q1,p1,_⟩:=I.tuple sq
   cases y with
   |non=>cases (show w= .non from dy);cases (show u'=Value.none from ru');cases h;exact⟨.tuple_none p1 hu0,.tuple_none p1 hu0,.tuple_none p1 hu0⟩
   |int j=>cases (show w= .int j from dy);obtain⟨t,rfl⟩:=(show ∃t,u'=Value.int j t from ru');cases h;exact⟨.tuple_int _ _ p1 hu0,.tuple_int _ _ p1 hu0,.tuple_int _ _ p1 hu0⟩
   |tup es=>
    obtain⟨c,ws,rfl,sq2,r2⟩:=dy
    cases (show u'=Value.ref c from ru')
    obtain⟨js,q2,p2,_⟩:=I.tuple sq2
    obtain⟨p,hz,hb⟩:=oS h
    obtain⟨e,he,hp⟩:=items r r2 q1 q2 hz
    have l1:=r.length
    have l2:=r2.length
    have l3:=q1.length
    have l4:=q2.length
    have hb':b=((List.range (min is.toArray.size js.toArray.size)).all e&&is.toArray.size==js.toArray.size):=by
     rw[hb,hp]
     congr 1
     rw[Bool.beq_eq_decide_eq]
     exact decide_eq_decide.mpr (by simp;omega)
    have rc:RcAt A s (.ref a) (.ref c) b:=by rw[hb'];exact .tuples p1 p2 hu0 he
    have rn:RcNeAt A s (.ref a) (.ref c) (!b):=by rw[hb'];exact .tuples p1 p2 hu0 he
    refine⟨?_,rc,rn⟩
    by_cases hac:a=c
    · subst hac
      have d2:Den X.K H μ (.tup ds) (.ref a):=⟨a,vs,rfl,sq,r⟩
      have d3:Den X.K H μ (.tup es) (.ref a):=⟨a,ws,rfl,sq2,r2⟩
      rw[uw I S (k+1) d2 d3 h]
      exact .same _
    · exact .of_refs hac rc
   |_=>cases h
  |ref n=>
   cases y with
   |ref m=>
    obtain⟨xs,ys,l1,l2,hz⟩:=kS h
    obtain⟨a,ea,rfl⟩:=id dx
    obtain⟨c,ec,rfl⟩:=id dy
    cases (show u=Value.ref a from ru)
    cases (show u'=Value.ref c from ru')
    obtain⟨vs,sq,r⟩:=fF S ea l1
    obtain⟨ws,sq2,r2⟩:=fF S ec l2
    obtain⟨is,q1,p1,_⟩:=I.list sq
    obtain⟨js,q2,p2,_⟩:=I.list sq2
    have z1:=r.length
    have z2:=r2.length
    have z3:=q1.length
    have z4:=q2.length
    have two:RcAt A s (.ref a) (.ref c) b/\RcNeAt A s (.ref a) (.ref c) (!b):=by
     by_cases hl:xs.length=ys.length
     · rw[if_pos hl]at hz
       obtain⟨e,he,hp⟩:=items r r2 q1 q2 hz
       have hsz:is.toArray.size=js.toArray.size:=by simp;omega
       rw[show min is.toArray.size js.toArray.size=is.toArray.size by omega]at hp
       rw[hp]
       exact⟨.lists p1.isList p2.isList hsz hu0 he,.lists p1.isList p2.isList hsz hu0 he⟩
     · rw[if_neg hl]at hz
       cases hz
       have hsz:(is.toArray.size !=js.toArray.size)=true:=by simp;omega
       exact⟨.lists_lengths p1.isList p2.isList hsz hu0,.lists_lengths p1.isList p2.isList hsz hu0⟩
    refine⟨?_,two.1,two.2⟩
    by_cases hac:a=c
    · subst hac
      rw[uw I S (k+1) dx dy h]
      exact .same _
    · exact .of_refs hac two.1
   |_=>cases h
end
section
variable{X:Cx}{T:Tab}{Y:EX}
def si(T:Tab)(K:PySem.W.Frag)(neg:Bool):R2:=fun v w H Q=>∃μ G x y b,Sim T K μ H G/\Den K H μ x v/\Den K H μ y w/\M3.eqG G 8 x y=some b/\Q (.bl (if neg then !b else b)) H
theorem FD(hu:X.A.units+8 < cLine):OpR X (compareOp .Eq) (si T X.K false):=by
 intro pins s σ H v w u u' Q I r r' h
 obtain⟨μ,G,x,y,b,S,dx,dy,e,q⟩:=h
 exact(yb I S 8 hu dx dy r r' e).2.1 _ _ _ _ ⟨.bl b,H,I,rfl,q⟩
theorem FT(hu:X.A.units+8 < cLine):OpR X (compareOp .NotEq) (si T X.K true):=by
 intro pins s σ H v w u u' Q I r r' h
 obtain⟨μ,G,x,y,b,S,dx,dy,e,q⟩:=h
 exact(yb I S 8 hu dx dy r r' e).2.2 _ _ _ _ ⟨.bl (!b),H,I,rfl,q⟩
theorem Fm(hu:X.A.units+8 < cLine):OpR X (compareOp .Eq) (si T X.K false)/\Br2 T X.K Y M3.oEq (si T X.K false):=⟨FD hu,by
 intro μ H G x y v w Q S dx dy h
 unfold M3.run M3.oEq at h
 cases q:M3.eqG G 8 x y with
 |none=>rw[q]at h;exact False.elim h
 |some b=>
  rw[q]at h
  exact⟨μ,G,x,y,b,S,dx,dy,q,h _ H μ (Up.refl _ _) S rfl⟩⟩
theorem Et(hu:X.A.units+8 < cLine):OpR X (compareOp .NotEq) (si T X.K true)/\Br2 T X.K Y M3.oNe (si T X.K true):=⟨FT hu,by
 intro μ H G x y v w Q S dx dy h
 unfold M3.run M3.oNe at h
 cases q:M3.eqG G 8 x y with
 |none=>rw[q]at h;exact False.elim h
 |some b=>
  rw[q]at h
  exact⟨μ,G,x,y,b,S,dx,dy,q,h _ H μ (Up.refl _ _) S rfl⟩⟩
end
section
variable{X:Cx}{T:Tab}{Y:EX}{pins:List (Addr×Obj)}{σ:L2.St}{H:Hp}{s:Shared}{μ:List Addr}{G:M3.Hh}
open Classical in
noncomputable def eU(K:PySem.W.Frag)(H:Hp)(μ:List Addr)(G:M3.Hh)(x:M3.D)(u:Value):Bool:=
 if h:∃b d v,Den K H μ d v/\RelV v u/\M3.eqG G 8 d x=some b then h.choose else false
theorem HQ(I:Inv X pins σ H s)(S:Sim T X.K μ H G){x d:M3.D}{v w:V}{u:Value}{b:Bool}(dx:Den X.K H μ x w)(dd:Den X.K H μ d v)(r:RelV v u)(e:M3.eqG G 8 d x=some b):eU X.K H μ G x u=b:=by
 have h:∃b d v,Den X.K H μ d v/\RelV v u/\M3.eqG G 8 d x=some b:=⟨b,d,v,dd,r,e⟩
 unfold eU
 rw[dif_pos h]
 obtain⟨d',v',dd',r',e'⟩:=h.choose_spec
 have hv:v'=v:=r'.inj r
 subst hv
 exact AO I S 8 dd' dd dx dx e' e
theorem BP(I:Inv X pins σ H s)(S:Sim T X.K μ H G){A:Around}(hu:A.units+8 < cLine){x:M3.D}{w:V}{u':Value}(dx:Den X.K H μ x w)(rx:RelV w u'):
 ∀{ys:List M3.D} {vs:List V} {its:List Value} {b:Bool},aH X.K H μ ys vs->Vals vs its->M3.rH G x ys=some b->(∀u∈its,EqAt A s u u' (eU X.K H μ G x u))/\its.any (eU X.K H μ G x)=b
 | [],_,_,_,r,q,h=>by
   cases (show _=[]from r)
   cases q
   cases h
   exact⟨fun u z=>(by cases z),rfl⟩
 |y :: ys,_,its,b,⟨v,vs,e,d,r⟩,q,h=>by
  subst e
  cases q with
  |@cons _ u _ us rv q=>
   unfold M3.rH at h
   cases e1:M3.eqG G 8 y x with
   |none=>rw[e1]at h;cases h
   |some p=>
    cases e2:M3.rH G x ys with
    |none=>rw[e1,e2]at h;cases h
    |some p2=>
     rw[e1,e2]at h
     cases h
     obtain⟨h1,h2⟩:=BP I S hu dx rx r q e2
     have eu:=HQ I S dx d rv e1
     refine⟨fun u' hu'=>?_,?_⟩
     · rcases qS_.mp hu' with rfl |z
       · rw[eu];exact(yb I S 8 hu d dx rv rx e1).1
       · exact h1 u' z
     · rw[List.any_cons,eu,h2]
theorem uy{κ:Type} [DecidableEq κ]{K:PySem.W.Frag}:∀{kvs:List (κ×M3.D)} {ws:List (κ×V)} (k:κ),Paired (fun(p:κ×M3.D) (q:κ×V)=>p.1=q.1/\Den K H μ p.2 q.2) kvs ws->
 (M3.look kvs k=none/\kM ws k=none)\/∃d v,M3.look kvs k=some d/\kM ws k=some v/\Den K H μ d v
 |_,_,k,.nil=>.inl ⟨rfl,rfl⟩
 |(k1,d) :: kvs,(k2,v) :: ws,k,.cons ⟨h1,h2⟩ t=>by
  cases (show k1=k2 from h1)
  by_cases h:k1=k
  · subst h
    exact .inr ⟨d,v,by simp [M3.look],by simp [kM],h2⟩
  · have e1:M3.look ((k1,d) :: kvs) k=M3.look kvs k:=by simp [M3.look,h]
    have e2:kM ((k1,v) :: ws) k=kM ws k:=by simp [kM,h]
    rw[e1,e2]
    exact uy k t
theorem uu{x:M3.D}{k:M3.Key}{K:PySem.W.Frag}{v:V}(h:M3.rA x=some k)(d:Den K H μ x v):v=kV k:=by
 cases x with
 |int i=>cases h;exact d
 |str z=>cases h;exact d
 |_=>cases h
end
section
variable{X:Cx}{T:Tab}{Y:EX}
def uK(T:Tab)(K:PySem.W.Frag)(neg:Bool):R2:=fun v w H Q=>∃μ G x y b,Sim T K μ H G/\Den K H μ x v/\Den K H μ y w/\M3.inG G x y=some b/\Q (.bl (if neg then !b else b)) H
theorem yi(hu:X.A.units+9 < cLine)(neg:Bool){pins:List (Addr×Obj)}{s:Shared}{σ:L2.St}{H:Hp}{v w:V}{u u':Value}{Q:VK}(I:Inv X pins σ H s)(r:RelV v u)(r':RelV w u')(h:uK T X.K neg v w H Q):
 wpAny (model X.prog X.w) X.A (compareOp (if neg then .NotIn else .In) u u') (EP X pins σ Q) X.xe s:=by
 obtain⟨μ,G,x,y,b,S,dx,dy,e,q⟩:=h
 have hu1:X.A.in1.units+8 < cLine:=by show X.A.units+1+8 < cLine;omega
 have lists:∀{a:Addr} {vs:List V} {ys:List M3.D},SqL X.K H a vs->aH X.K H μ ys vs->M3.rH G x ys=some b->u'= .ref a->wpAny (model X.prog X.w) X.A (compareOp (if neg then .NotIn else .In) u u') (EP X pins σ Q) X.xe s:=by
  intro a vs ys sq rs hm eu
  subst eu
  obtain⟨its,qv,p,_⟩:=I.list sq
  obtain⟨h1,h2⟩:=BP I S hu1 dx r rs qv hm
  have h3:its.toArray.any (eU X.K H μ G x)=b:=by simpa using h2
  cases neg with
  |false=>exact in_listAt _ p.isList (fun y hy=>h1 y (by simpa using hy)) ⟨.bl b,H,I,by rw[h3];rfl,q⟩
  |true=>exact notIn_listAt _ p.isList (fun y hy=>h1 y (by simpa using hy)) ⟨.bl (!b),H,I,by rw[h3];rfl,q⟩
 cases y with
 |tup ys=>
  obtain⟨a,vs,rfl,sq,rs⟩:=dy
  cases (show u'=Value.ref a from r')
  obtain⟨its,qv,p,_⟩:=I.tuple sq
  obtain⟨h1,h2⟩:=BP I S hu1 dx r rs qv e
  have h3:its.toArray.any (eU X.K H μ G x)=b:=by simpa using h2
  cases neg with
  |false=>exact in_tupleAt _ p (fun y hy=>h1 y (by simpa using hy)) ⟨.bl b,H,I,by rw[h3];rfl,q⟩
  |true=>exact notIn_tupleAt _ p (fun y hy=>h1 y (by simpa using hy)) ⟨.bl (!b),H,I,by rw[h3];rfl,q⟩
 |ref n=>
  obtain⟨a,ea,rfl⟩:=dy
  cases (show u'=Value.ref a from r')
  unfold M3.inG at e
  dsimp only at e
  cases qn:G[n]? with
  |none=>rw[qn]at e;cases e
  |some o=>
   rw[qn]at e
   have ob:=S.obj n a o ea qn
   cases o with
   |lst ys=>
    obtain⟨vs,e1,rs⟩:=ob
    exact lists (SqL.of e1) rs e rfl
   |frz ys=>
    obtain⟨vs,e1,rs⟩:=ob
    exact lists e1.sq rs e rfl
   |dK kvs=>
    obtain⟨ws,e1,rs⟩:=ob
    dsimp only at e
    cases qk:M3.rA x with
    |none=>rw[qk]at e;cases e
    |some k=>
     rw[qk]at e
     have e:some (M3.look kvs k).isSome=some b:=e
     have hb:(kM ws k).isSome=b:=by
      rcases uy k rs with ⟨h1,h2⟩ |⟨d,v',h1,h2,_⟩
      · rw[h2];rw[h1]at e;cases e;rfl
      · rw[h2];rw[h1]at e;cases e;rfl
     cases uu qk dx
     cases neg with
     |false=>exact Ik (by omega) I (rK.k e1) r fun s' I'=>⟨.bl b,H,I',by rw[hb];rfl,q⟩
     |true=>exact CW (by omega) I (rK.k e1) r fun s' I'=>⟨.bl (!b),H,I',by rw[hb];rfl,q⟩
   |dF kvs=>cases e
   |dT kvs=>cases e
   |ins C fs=>cases e
 |_=>cases e
theorem GA(hu:X.A.units+9 < cLine):OpR X (compareOp .In) (uK T X.K false)/\Br2 T X.K Y M3.oIn (uK T X.K false):=⟨fun pins s σ H v w u u' Q I r r' h=>yi hu false I r r' h,by
 intro μ H G x y v w Q S dx dy h
 unfold M3.run M3.oIn at h
 cases q:M3.inG G x y with
 |none=>rw[q]at h;exact False.elim h
 |some b=>
  rw[q]at h
  exact⟨μ,G,x,y,b,S,dx,dy,q,h _ H μ (Up.refl _ _) S rfl⟩⟩
theorem yX(hu:X.A.units+9 < cLine):OpR X (compareOp .NotIn) (uK T X.K true)/\Br2 T X.K Y M3.oY (uK T X.K true):=⟨fun pins s σ H v w u u' Q I r r' h=>yi hu true I r r' h,by
 intro μ H G x y v w Q S dx dy h
 unfold M3.run M3.oY at h
 cases q:M3.inG G x y with
 |none=>rw[q]at h;exact False.elim h
 |some b=>
  rw[q]at h
  exact⟨μ,G,x,y,b,S,dx,dy,q,h _ H μ (Up.refl _ _) S rfl⟩⟩
end
end L3
namespace HT
open PySem PyProof.Rows
theorem AZ(A:Around)(s:Shared)(a:Int)(t:Tok)(c:Int)(u:Tok)(prog:Program)(w:World)(E:Value->Shared->Prop)(Q:Value->Shared->Prop)(h:Q (.bool (decide (c < a))) s):
 wpAny (model prog w) A (richCompare .Gt (.int a t) (.int c u)) Q E s:=
 (PyProof.Rows.gt_int h:wpAny (model prog w) A (compareOp .Gt (.int a t) (.int c u)) Q E s)
section
open PySem.SeqAt
open PySem.AutoSeq1 (wpAny_loadPart')
open PySem.MeetsSeq PySem.MeetsSeq2 PySem.MeetsSeq3
theorem sy(l b:Addr)(items items2:Array Value)(n n2:Nat)(dd dd2:Option Addr)(sl sl2:Array (Option Value))(ns ms:List Int)(hi:IntsAre items.toList ns)(hj:IntsAre items2.toList ms):
 Meets (Builtin.«tuple.__gt__» ⟨[.ref l,.ref b],[]⟩)
  (fun _ R s=>s.heap.get? l=some {cls:= .type "tuple",dict:=dd,data:= .seq items n,slots:=sl}/\s.heap.get? b=some {cls:= .type "tuple",dict:=dd2,data:= .seq items2 n2,slots:=sl2}/\
    R (.ok (.ret (.bool (lexLt ms ns)))) s):=
 .of_wp fun prog w A R s h=>by
  obtain⟨hp,g,d,tk,os⟩:=s;obtain⟨hl,hb,h⟩:=h
  have f2:=AutoSeq1.sub_tuple_tuple
  have z1:items.size=ns.length:=by rw[<-hi.length];simp
  have z2:items2.size=ms.length:=by rw[<-hj.length];simp
  wp_walk using wpAny_loadPart' hl,wpAny_loadPart' hb,wpAny_forIn_list _ (fun rest b s'=>b.1=none/\s'=⟨hp,g,d,tk,os⟩/\∃(vs ws:List Value) (ns' ms':List Int),rest=vs.zip ws/\
   IntsAre vs ns'/\IntsAre ws ms'/\ns'.length+items2.size=ms'.length+items.size/\R (.ok (.ret (.bool (lexLt ms' ns')))) ⟨hp,g,d,tk,os⟩) _
  case turn=>
   rintro⟨y,x⟩ rest b s' ⟨hb',rfl,vs,ws,ns',ms',hz,hvi,hwi,hlen,hR⟩
   cases hvi with
   |nil=>rw[List.zip_nil_left]at hz;cases hz
   |cons a t hvi'=>
    cases hwi with
    |nil=>rw[List.zip_nil_right]at hz;cases hz
    |cons c u hwi'=>
     rw[List.zip_cons_cons]at hz
     injection hz with hyx hrest
     injection hyx with hy hx
     subst hy hx
     rw[rC]at hR
     simp only[List.length_cons]at hlen
     obtain⟨e,he,hiff⟩:=wJ A.in1 ⟨hp,g,d,tk,os⟩ a t c u
     refine wpAny_bind (he prog w _ _ ?_)
     cases e with
     |true=>
      rw[if_pos (hiff.mp rfl).symm]at hR
      wp_walk
      exact⟨rfl,rfl,_,_,_,_,hrest,hvi',hwi',by omega,hR⟩
     |false=>
      rw[if_neg (fun q=>absurd (hiff.mpr (Eq.symm q)) qC_)]at hR
      have hri:=AZ A.in1 ⟨hp,g,d,tk,os⟩ a t c u prog w
      wp_walk using hri
      exact⟨_,rfl,by simpa using hR⟩
  case fin=>
   rintro⟨b1,b2⟩ s' ⟨hb',rfl,vs,ws,ns',ms',hz,hvi,hwi,hlen,hR⟩
   simp only at hb'
   subst hb'
   have hv:lexLt ms' ns'=decide (items2.size < items.size):=by
    cases hvi with
    |nil=>
     cases hwi with
     |nil=>
      simp only[List.length_nil]at hlen
      rw[m5]
      exact(qa_ (by omega)).symm
     |cons c u hw=>
      simp only[List.length_nil,List.length_cons]at hlen
      rw[kQ]
      exact(qa_ (by omega)).symm
    |cons a t hv=>
     cases hwi with
     |nil=>
      simp only[List.length_nil,List.length_cons]at hlen
      rw[kW]
      exact(qZ_ (by omega)).symm
     |cons c u hw=>
      rw[List.zip_cons_cons]at hz
      cases hz
   rw[hv]at hR
   wp_walk
   exact⟨_,rfl,by simpa [Builtin.Tuple.tupleCompareSizes] using hR⟩
  case h=>
   exact⟨rfl,rfl,items.toList,items2.toList,ns,ms,rfl,hi,hj,by omega,h⟩
end
theorem xf{prog:Program}{w:World}{A:Around}{E:Value->Shared->Prop}{s:Shared}{l b:Addr}{items items2:Array Value}{ns ms:List Int}{Q:Value->Shared->Prop}(hl:IsTup s.heap l items)(hb:IsTup s.heap b items2)(hi:IntsAre items.toList ns)(hj:IntsAre items2.toList ms)
 (hu:A.units < cLine) (h:Q (.bool (lexLt ms ns)) s):wpAny (model prog w) A (compareOp .Gt (.ref l) (.ref b)) Q E s:=by
 obtain⟨⟨cls,dd,data,sl⟩,ho,hc,n,hd⟩:=id hl
 obtain⟨⟨cls2,dd2,data2,sl2⟩,ho2,hc2,n2,hd2⟩:=id hb
 simp only at hc hd hc2 hd2
 subst hc hd hc2 hd2
 exact richCompare_meets_room (op:= .Gt) ⟨_,ho,rfl⟩ ⟨_,ho2,rfl⟩ PySem.F.slot_tuple_gt PySem.F.entry_tuple_gt (PySem.F.args_tuple_gt_2 _ _) (sy l b items items2 n n2 dd dd2 sl sl2 ns ms hi hj)
  ⟨ho,ho2,show Value.bool (lexLt ms ns)≠Value.notImplemented/\Q (.bool (lexLt ms ns)) s from⟨(fun x=>nomatch x),h⟩⟩ hu
end HT
namespace L3
open PySem PySem.Spec PyProof.Rows L2 PySem.SeqAt
section
variable{X:Cx}{T:Tab}{Y:EX}{a b e:Expr}{es:List Expr}{fa fb:M3.E3}{ta tb:M3.T3}{f3:M3.A3}{pos:Pos}{rest:List Expr}
def Ic(K:PySem.W.Frag):R2:=fun x y H Q=>∃a b ns ms,x= .ref a/\y= .ref b/\SqT K H a (ns.map V.int)/\SqT K H b (ms.map V.int)/\Q (.bl (HT.lexLt ms ns)) H
theorem GF(hu:X.A.units < cLine):OpR X (compareOp .Gt) (Ic X.K):=by
 intro pins s σ H x y v u Q I rx ry h
 obtain⟨a,b,ns,ms,rfl,rfl,ha,hb,q⟩:=h
 cases rx
 cases ry
 obtain⟨its,r1,p1,_⟩:=I.tuple ha
 obtain⟨its2,r2,p2,_⟩:=I.tuple hb
 have i1:IntsAre its.toArray.toList ns:=intsAre_of r1
 have i2:IntsAre its2.toArray.toList ms:=intsAre_of r2
 exact HT.xf p1 p2 i1 i2 hu ⟨.bl (HT.lexLt ms ns),H,I,rfl,q⟩
def Ds(K:PySem.W.Frag):R2:=fun x y H Q=>rI0 (fun i j=>.bl (decide (j < i))) x y H Q\/Ic K x y H Q
theorem Eu(hu:X.A.units < cLine):OpR X (compareOp .Gt) (Ds X.K)/\Br2 T X.K Y M3.oGt (Ds X.K):=⟨HG.or (GF hu),by
 intro μ H G x y v w Q S dx dy h
 cases x with
 |int i=>cases y with
  |int j=>exact .inl ⟨i,j,dx,dy,h _ H μ (Up.refl _ _) S rfl⟩
  |_=>exact False.elim h
 |tup ds=>cases y with
  |tup es=>
   unfold M3.oGt at h
   dsimp only at h
   cases q1:M3.intsOf ds with
   |none=>rw[q1]at h;exact False.elim h
   |some m=>
    cases q2:M3.intsOf es with
    |none=>rw[q1,q2]at h;exact False.elim h
    |some n=>
     rw[q1,q2]at h
     rw[gZ q1]at dx
     rw[gZ q2]at dy
     obtain⟨p,vs,rfl,sp,rp⟩:=dx
     obtain⟨q,ws,rfl,sq,rq⟩:=dy
     rw[aH.ints rp]at sp
     rw[aH.ints rq]at sq
     refine .inr ⟨p,q,m,n,rfl,rfl,sp,sq,?_⟩
     rw[<-uZ]
     exact h _ H μ (Up.refl _ _) S rfl
  |_=>exact False.elim h
 |_=>exact False.elim h⟩
theorem xU{K:PySem.W.Frag}{H:Hp}{μ:List Addr}{xs:List M3.D}{vs:List V}{i:Int}{d:M3.D}(r:aH K H μ xs vs)(h:M3.atI xs i=some d):∃v,L2.atI vs i=some v/\Den K H μ d v:=by
 unfold M3.atI at h
 unfold L2.atI
 rw[r.length]at h
 have e:M3.ixN vs.length i=L2.ixN vs.length i:=rfl
 rw[e]at h
 cases q:L2.ixN vs.length i with
 |none=>rw[q]at h;cases h
 |some j=>rw[q]at h;exact r.get h
theorem oM{Z:Nat->M3.Hh->Prop}{o:Option M3.D}{G:M3.Hh}{P:M3.D->M3.Hh->Prop}(h:M3.run (M3.nZ o) G P Z):∃d,o=some d/\P d G:=by
 cases o with
 |none=>exact False.elim h
 |some d=>exact⟨d,rfl,h⟩
theorem Dp(hu:X.A.units+1 < cLine):IxR X (fun x y H Q=>∃a v,x= .ref a/\rK H a y (some v)/\Q v H):=by
 intro value slice pins s σ H x y v u Q I rx ry h hs
 obtain⟨a,z,rfl,g,q⟩:=h
 cases (show v=Value.ref a from rx)
 exact tail_any (vE I g) PySem.F.slot_dict_getitem.lookup (zt hu I g ry fun w' s3 I3 rw'=>⟨z,H,I3,rw',q⟩) hs
def Iz(K:PySem.W.Frag):R2:=fun x y H Q=>GH K x y H Q\/(fun x y H Q=>Hn K x y H Q\/∃a v,x= .ref a/\rK H a y (some v)/\Q v H) x y H Q
theorem FC{K:PySem.W.Frag}:Br2 T K Y M3.oIx (Iz K):=by
 intro μ H G x y v w Q S dx dy h
 cases x with
 |tup xs=>
  cases y with
  |int i=>
   obtain⟨d,e,q⟩:=oM h
   obtain⟨p,vs,rfl,sq,r⟩:=dx
   obtain⟨z,e2,r2⟩:=xU r e
   exact .inr (.inl ⟨p,vs,i,z,rfl,dy,sq,e2,q z H μ (Up.refl _ _) S r2⟩)
  |_=>exact False.elim h
 |ref n=>
  unfold M3.run M3.oIx at h
  dsimp only at h
  obtain⟨p,ep,rfl⟩:=dx
  cases qn:G[n]? with
  |none=>rw[qn]at h;exact False.elim h
  |some o=>
   have ob:=S.obj n p o ep qn
   cases o with
   |lst xs=>
    cases y with
    |int i=>
     rw[qn]at h
     obtain⟨d,e,q⟩:=oM (P:=fX T K μ H Q) h
     obtain⟨vs,e1,r⟩:=ob
     obtain⟨z,e2,r2⟩:=xU r e
     exact .inl ⟨p,vs,i,z,rfl,dy,SqL.of e1,e2,q z H μ (Up.refl _ _) S r2⟩
    |_=>rw[qn]at h;exact False.elim h
   |frz xs=>
    cases y with
    |int i=>
     rw[qn]at h
     obtain⟨d,e,q⟩:=oM (P:=fX T K μ H Q) h
     obtain⟨vs,e1,r⟩:=ob
     obtain⟨z,e2,r2⟩:=xU r e
     exact .inl ⟨p,vs,i,z,rfl,dy,e1.sq,e2,q z H μ (Up.refl _ _) S r2⟩
    |_=>rw[qn]at h;exact False.elim h
   |dK kvs=>
    have h2:M3.run (fun G=>match M3.rA y with
     |some k=>M3.nZ (M3.look kvs k) G
     |none=>none) G (fX T K μ H Q) (Y.x μ H):=by
     rw[qn]at h
     cases y <;> exact h
    unfold M3.run at h2
    dsimp only at h2
    cases qk:M3.rA y with
    |none=>rw[qk]at h2;exact False.elim h2
    |some k=>
     rw[qk]at h2
     obtain⟨d,e,q⟩:=oM (P:=fX T K μ H Q) h2
     obtain⟨ws,e1,r⟩:=ob
     cases uu qk dy
     rcases uy k r with ⟨z,_⟩ |⟨d',z,l1,l2,r2⟩
     · rw[z]at e;cases e
     · rw[l1]at e;cases e
       exact .inr (.inr ⟨p,z,rfl,by rw[<-l2];exact rK.k e1,q z H μ (Up.refl _ _) S r2⟩)
   |dF kvs=>rw[qn]at h;cases y <;> exact False.elim h
   |dT kvs=>rw[qn]at h;cases y <;> exact False.elim h
   |ins C fs=>rw[qn]at h;cases y <;> exact False.elim h
 |_=>exact False.elim h
theorem IY(hu:X.A.units+1 < cLine)(ha:PE X a (tE T X.K Y fa))(hb:PE X b (tE T X.K Y fb))(hs:uX b:=by intro _ _;rfl):PE X (.Subscript a b pos) (tE T X.K Y (M3.eOp M3.oIx fa fb)):=
 PE.of (Hg (Cd.or (E8.or (Dp hu))) ha hb hs) fun _ _ _ h=>De FC h
end
section
variable{X:Cx}{T:Tab}{Y:EX}{a b e o:Expr}{es:List Expr}{fa fb:M3.E3}{ta tb:M3.T3}{f3:M3.A3}{pos p:Pos}{rest:List Expr}{g:List M3.D->M3.M M3.D}
def BrA(T:Tab)(K:PySem.W.Frag)(Y:EX)(g:List M3.D->M3.M M3.D)(r:List V->Hp->VK->Prop):Prop:=
 ∀μ H G ds vs Q,Sim T K μ H G->aH K H μ ds vs->M3.run (g ds) G (fX T K μ H Q) (Y.x μ H)->r vs H Q
theorem AF{K:PySem.W.Frag}{r:List V->Hp->VK->Prop}(br:BrA T K Y g r){σ:L2.St}{H:Hp}{Q:VK}(h:tE T K Y (M3.aP g f3) σ H Q):tCB r (tA T K Y f3) σ H Q:=by
 obtain⟨μ,σ3,G,S,sd,h⟩:=h
 exact⟨μ,σ3,G,S,sd,pJ h fun ds G1 vs H1 μ1 u1 S1 d1 h1=>br μ1 H1 G1 ds vs Q S1 d1 (eI h1 fun _ _ q=>q.up u1)⟩
theorem yt{x:Str}{id:String}{r:List V->Hp->VK->Prop}(hc:iz X (.builtin id) r)(br:BrA T X.K Y g r)(hm:X.mg x=none)(hv:bootBuiltins x=some (.builtin id))(ha:PA X (e :: es) (tA T X.K Y f3))(hg:Gl X x:=by rfl)(hn:x≠"__name__":=by decide)(hdb:(x==("__debug__":Str))=false:=by decide)
 (he:starEach (e :: es) X.env=(false,eval e X.env) :: starEach es X.env:=by rfl) (hpl:(backTo pos (starEach es X.env)).any (·.1)=false:=by rfl):PE X (.Call (.Name x p) (e :: es) [] pos) (tE T X.K Y (M3.aP g f3)):=
 PE.of (vD hc hg hm hv ha hn hdb he hpl) fun _ _ _ h=>AF br h
theorem wj{x:Str}{id:String}{r:List V->Hp->VK->Prop}(hc:iz X (.type id) r)(br:BrA T X.K Y g r)(hm:X.mg x=none)(hv:bootBuiltins x=some (.type id))(ha:PA X (e :: es) (tA T X.K Y f3))(hg:Gl X x:=by rfl)(hn:x≠"__name__":=by decide)(hdb:(x==("__debug__":Str))=false:=by decide)
 (he:starEach (e :: es) X.env=(false,eval e X.env) :: starEach es X.env:=by rfl) (hpl:(backTo pos (starEach es X.env)).any (·.1)=false:=by rfl):PE X (.Call (.Name x p) (e :: es) [] pos) (tE T X.K Y (M3.aP g f3)):=
 PE.of (yZ hc hg hm hv ha hn hdb he hpl) fun _ _ _ h=>AF br h
theorem mY{K:PySem.W.Frag}{H:Hp}{μ:List Addr}{d:M3.D}{vs:List V}(h:aH K H μ [d] vs):∃v,vs=[v]/\Den K H μ d v:=by
 obtain⟨v,r,rfl,h,t⟩:=h
 cases (show r=[]from t)
 exact⟨v,rfl,h⟩
theorem Hy{K:PySem.W.Frag}{H:Hp}{μ:List Addr}{d c:M3.D}{vs:List V}(h:aH K H μ [d,c] vs):∃v w,vs=[v,w]/\Den K H μ d v/\Den K H μ c w:=by
 obtain⟨v,r,rfl,h,t⟩:=h
 obtain⟨w,rfl,h2⟩:=mY t
 exact⟨v,w,rfl,h,h2⟩
def Ip(K:PySem.W.Frag):List V->Hp->VK->Prop:=fun xs H Q=>(∃x n,xs=[x]/\GU K x H n/\Q (.int n) H)\/∃a kvs,xs=[V.ref a]/\H a=some (.dK kvs)/\Q (.int kvs.length) H
theorem Gy{K:PySem.W.Frag}:BrA T K Y M3.fw (Ip K):=by
 intro μ H G ds vs Q S d h
 unfold M3.run M3.fw at h
 match ds,d,h with
 | [.tup xs],d,h=>
   obtain⟨v,rfl,a,ws,rfl,sq,r⟩:=mY d
   dsimp only at h
   by_cases c:xs.length<=M3.aM
   · rw[if_pos c]at h
     refine .inl ⟨_,xs.length,rfl,.inr ⟨ws,sq,r.length⟩,h _ H μ (Up.refl _ _) S rfl⟩
   · rw[if_neg c]at h;exact False.elim h
 | [.str x],d,h=>
   obtain⟨v,rfl,d'⟩:=mY d
   cases (show v= .str x from d')
   dsimp only at h
   by_cases c:x.length<=M3.aM
   · rw[if_pos c]at h
     exact .inl ⟨_,x.length,rfl,⟨by rw[<-ek];exact c,rfl⟩,h _ H μ (Up.refl _ _) S rfl⟩
   · rw[if_neg c]at h;exact False.elim h
 | [.ref n],d,h=>
   obtain⟨v,rfl,a,ea,rfl⟩:=mY d
   dsimp only at h
   cases q:G[n]? with
   |none=>rw[q]at h;exact False.elim h
   |some o=>
    rw[q]at h
    have ob:=S.obj n a o ea q
    cases o with
    |lst xs=>obtain⟨ws,e1,r⟩:=ob;exact .inl ⟨_,xs.length,rfl,.inl ⟨ws,SqL.of e1,r.length⟩,h _ H μ (Up.refl _ _) S rfl⟩
    |frz xs=>obtain⟨ws,e1,r⟩:=ob;exact .inl ⟨_,xs.length,rfl,.inl ⟨ws,e1.sq,r.length⟩,h _ H μ (Up.refl _ _) S rfl⟩
    |dK kvs=>obtain⟨ws,e1,r⟩:=ob;exact .inr ⟨a,ws,rfl,e1,by rw[<-Paired.length r];exact h _ H μ (Up.refl _ _) S rfl⟩
    |dF kvs=>exact False.elim h
    |dT kvs=>exact False.elim h
    |ins C fs=>exact False.elim h
 | [],_,h=>exact False.elim h
 | [.non],_,h=>exact False.elim h
 | [.bl _],_,h=>exact False.elim h
 | [.int _],_,h=>exact False.elim h
 |x :: _ :: _,_,h=>cases x <;> exact False.elim h
theorem dP(hm:X.mg "len"=none)(ha:PA X (e :: es) (tA T X.K Y f3))(hg:Gl X "len":=by rfl)(he:starEach (e :: es) X.env=(false,eval e X.env) :: starEach es X.env:=by rfl)(hpl:(backTo pos (starEach es X.env)).any (·.1)=false:=by rfl):
 PE X (.Call (.Name "len" p) (e :: es) [] pos) (tE T X.K Y (M3.aP M3.fw f3)):=yt (Br.or zE) Gy hm boot_len ha hg (by decide) (by decide) he hpl
theorem vI:∀(r:List Int) (m:Int),M3.nX m r∈m :: r
 | [],m=>qI_
 |x :: r,m=>by
  have h:=vI r (if x > m then x else m)
  show M3.nX (if x > m then x else m) r∈m :: x :: r
  rcases qS_.mp h with h |h
  · rw[h];split
    · exact qR_ _ qI_
    · exact qI_
  · exact qR_ _ (qR_ _ h)
theorem uR:∀(r:List Int) (m a:Int),a∈m :: r->a<=M3.nX m r
 | [],m,a,h=>by simp at h;exact Int.le_of_eq h
 |x :: r,m,a,h=>by
  show a<=M3.nX (if x > m then x else m) r
  have h1:=uR r (if x > m then x else m) (if x > m then x else m) qI_
  rcases qS_.mp h with h |h
  · subst h;split at h1 <;> (try split) <;> omega
  · rcases qS_.mp h with h |h
    · subst h;split at h1 <;> (try split) <;> omega
    · exact uR r _ a (qR_ _ h)
theorem zO(hc:X.calm=true):iz X (.builtin "max") (fun xs H Q=>∃a m r,xs=[.ref a]/\SqL X.K H a ((m :: r).map V.int)/\Q (.int (M3.nX m r)) H):=by
 intro pins s σ H xs us Q I rv h
 obtain⟨a,m,r,rfl,sq,q⟩:=h
 obtain⟨u,rfl,ru⟩:=vals1 rv
 cases ru
 obtain⟨its,qv,pl,_⟩:=I.list sq
 have hi:IntsAre its (m :: r):=intsAre_of qv
 obtain⟨xs,e⟩:=hi.allInts.items
 have hns:m :: r=xs.toList.map (·.1):=by rw[<-hi.numsOf,<-nums_intItems,<-e]
 have hsz:0 < xs.size:=by
  have h3:=congrArg List.length hns
  rw[qM_,Array.length_toList]at h3
  simp at h3;omega
 have hl:=pl.isList
 rw[e]at hl
 refine max_intList (I.ok.hd hc) hl hsz fun v h' tk hv hk=>?_
 obtain⟨t,rfl⟩:=intItems_at hv
 obtain⟨h1,h2⟩:=argBest_gt (numAt xs) (xs.size - 1)
 have hmem:numAt xs (argBest (fun i j=>decide (numAt xs i > numAt xs j)) (xs.size - 1))∈m :: r:=by
  rw[hns,numAt_eq];exact getD_mem (by rw[qM_,Array.length_toList];omega)
 have hle:M3.nX m r<=numAt xs (argBest (fun i j=>decide (numAt xs i > numAt xs j)) (xs.size - 1)):=by
  have hM:=vI r m
  rw[hns]at hM
  obtain⟨j,hj,ej⟩:=mem_getD hM
  rw[qM_,Array.length_toList]at hj
  rw[<-ej,<-numAt_eq];exact h2 j (by omega)
 have heq:numAt xs (argBest (fun i j=>decide (numAt xs i > numAt xs j)) (xs.size - 1))=M3.nX m r:=Int.le_antisymm (uR r m _ hmem) hle
 exact⟨.int _,H,I.kept hk,⟨t,by rw[heq]⟩,q⟩
def IE(K:PySem.W.Frag):List V->Hp->VK->Prop:=fun xs H Q=>(∃i j,xs=[.int i,.int j]/\Q (.int (if j > i then j else i)) H)\/∃a m r,xs=[.ref a]/\SqL K H a ((m :: r).map V.int)/\Q (.int (M3.nX m r)) H
theorem E5{K:PySem.W.Frag}:BrA T K Y M3.yU (IE K):=by
 intro μ H G ds vs Q S d h
 unfold M3.run M3.yU at h
 match ds,d,h with
 | [.int i,.int j],d,h=>
   obtain⟨v,w,rfl,d1,d2⟩:=Hy d
   cases d1;cases d2
   exact .inl ⟨_,_,rfl,h _ H μ (Up.refl _ _) S rfl⟩
 | [.ref n],d,h=>
   obtain⟨v,rfl,a,ea,rfl⟩:=mY d
   dsimp only at h
   cases q:G[n]? with
   |none=>rw[q]at h;exact False.elim h
   |some o=>
    rw[q]at h
    have ob:=S.obj n a o ea q
    cases o with
    |lst xs=>
     obtain⟨ws,e1,r⟩:=ob
     dsimp only at h
     cases qi:M3.intsOf xs with
     |none=>rw[qi]at h;exact False.elim h
     |some ns=>
      rw[qi]at h
      cases ns with
      |nil=>exact False.elim h
      |cons m t=>
       rw[gZ qi]at r
       rw[aH.ints r]at e1
       exact .inr ⟨a,m,t,rfl,SqL.of e1,h _ H μ (Up.refl _ _) S rfl⟩
    |_=>exact False.elim h
 | [],_,h=>exact False.elim h
 | [.non],_,h=>exact False.elim h
 | [.bl _],_,h=>exact False.elim h
 | [.int _],_,h=>exact False.elim h
 | [.str _],_,h=>exact False.elim h
 | [.tup _],_,h=>exact False.elim h
 | .non :: _ :: _,_,h=>exact False.elim h
 | .bl _ :: _ :: _,_,h=>exact False.elim h
 | .str _ :: _ :: _,_,h=>exact False.elim h
 | .tup _ :: _ :: _,_,h=>exact False.elim h
 | .ref _ :: _ :: _,_,h=>exact False.elim h
 | .int _ :: .non :: _,_,h=>exact False.elim h
 | .int _ :: .bl _ :: _,_,h=>exact False.elim h
 | .int _ :: .str _ :: _,_,h=>exact False.elim h
 | .int _ :: .tup _ :: _,_,h=>exact False.elim h
 | .int _ :: .ref _ :: _,_,h=>exact False.elim h
 | .int _ :: .int _ :: _ :: _,_,h=>exact False.elim h
theorem Gx(hc:X.calm=true)(hm:X.mg "max"=none)(ha:PA X (e :: es) (tA T X.K Y f3))(hg:Gl X "max":=by rfl)(he:starEach (e :: es) X.env=(false,eval e X.env) :: starEach es X.env:=by rfl)(hpl:(backTo pos (starEach es X.env)).any (·.1)=false:=by rfl):
 PE X (.Call (.Name "max" p) (e :: es) [] pos) (tE T X.K Y (M3.aP M3.yU f3)):=yt ((zQ hc).or (zO hc)) E5 hm boot_max ha hg (by decide) (by decide) he hpl
theorem B7{K:PySem.W.Frag}:BrA T K Y M3.sQ (fun xs H Q=>∃p ys,xs=[.ref p]/\(SqL K H p ys\/SqT K H p ys)/\∀l,H l=none->Q (.ref l) (upd H l (.lst ys))):=by
 intro μ H G ds vs Q S d h
 have fin:∀{xs:List M3.D} {ws:List V},aH K H μ xs ws->fX T K μ H Q (.ref G.length) (G++[.lst xs])->∀l,H l=none->Q (.ref l) (upd H l (.lst ws)):=by
  intro xs ws r q l hl
  have u2:=Up.new (μ:=μ) (.lst ws) hl
  refine q _ _ (μ++[l]) u2 (S.new hl rfl ⟨ws,bi,aH.up u2 r⟩) ⟨l,?_,rfl⟩
  rw[<-S.len];simp
 unfold M3.run M3.sQ at h
 match ds,d,h with
 | [.tup xs],d,h=>
   obtain⟨v,rfl,a,ws,rfl,sq,r⟩:=mY d
   dsimp only at h
   by_cases c:xs.length<=M3.aM
   · rw[if_pos c]at h
     exact⟨a,ws,rfl,.inr sq,fin r h⟩
   · rw[if_neg c]at h;exact False.elim h
 | [.ref n],d,h=>
   obtain⟨v,rfl,a,ea,rfl⟩:=mY d
   dsimp only at h
   cases q:G[n]? with
   |none=>rw[q]at h;exact False.elim h
   |some o=>
    rw[q]at h
    have ob:=S.obj n a o ea q
    cases o with
    |lst xs=>obtain⟨ws,e1,r⟩:=ob;exact⟨a,ws,rfl,.inl (SqL.of e1),fin r h⟩
    |frz xs=>obtain⟨ws,e1,r⟩:=ob;exact⟨a,ws,rfl,.inl e1.sq,fin r h⟩
    |_=>exact False.elim h
 | [],_,h=>exact False.elim h
 | [.non],_,h=>exact False.elim h
 | [.bl _],_,h=>exact False.elim h
 | [.int _],_,h=>exact False.elim h
 | [.str _],_,h=>exact False.elim h
 |x :: _ :: _,_,h=>cases x <;> exact False.elim h
theorem Dz(hm:X.mg "list"=none)(ha:PA X (e :: es) (tA T X.K Y f3))(hg:Gl X "list":=by rfl)(he:starEach (e :: es) X.env=(false,eval e X.env) :: starEach es X.env:=by rfl)(hpl:(backTo pos (starEach es X.env)).any (·.1)=false:=by rfl):
 PE X (.Call (.Name "list" p) (e :: es) [] pos) (tE T X.K Y (M3.aP M3.sQ f3)):=wj t9 B7 hm boot_list ha hg (by decide) (by decide) he hpl
theorem zS:iz X (.type "int") (fun xs H Q=>∃x n,xs=[.str x]/\PySem.intText? x=some n/\x.length<=640/\Q (.int n) H):=by
 intro pins s σ H xs us Q I r h
 obtain⟨x,n,rfl,hn,hl,q⟩:=h
 obtain⟨u,rfl,t,rfl⟩:=vals1 r
 exact PySem.W.KIN.call_text hn hl ⟨.int n,H,I.tok _,⟨_,rfl⟩,q⟩
def IK:List V->Hp->VK->Prop:=fun xs H Q=>((∃i,xs=[.int i]/\Q (.int i) H)\/∃k,xs=[.bl k]/\Q (.int (if k then 1 else 0)) H)\/∃x n,xs=[.str x]/\PySem.intText? x=some n/\x.length<=640/\Q (.int n) H
theorem Gw{K:PySem.W.Frag}:BrA T K Y M3.uH IK:=by
 intro μ H G ds vs Q S d h
 unfold M3.run M3.uH at h
 match ds,d,h with
 | [.int i],d,h=>obtain⟨v,rfl,d'⟩:=mY d;cases d';exact .inl (.inl ⟨_,rfl,h _ H μ (Up.refl _ _) S rfl⟩)
 | [.bl i],d,h=>obtain⟨v,rfl,d'⟩:=mY d;cases d';exact .inl (.inr ⟨_,rfl,h _ H μ (Up.refl _ _) S rfl⟩)
 | [.str x],d,h=>
   obtain⟨v,rfl,d'⟩:=mY d
   cases (show v= .str x from d')
   dsimp only at h
   cases q:PySem.intText? x with
   |none=>rw[q]at h;exact False.elim h
   |some n=>
    rw[q]at h
    dsimp only at h
    by_cases c:x.length<=640
    · rw[if_pos c]at h
      exact .inr ⟨x,n,rfl,q,c,h _ H μ (Up.refl _ _) S rfl⟩
    · rw[if_neg c]at h;exact False.elim h
 | [],_,h=>exact False.elim h
 | [.non],_,h=>exact False.elim h
 | [.ref _],_,h=>exact False.elim h
 | [.tup _],_,h=>exact False.elim h
 |x :: _ :: _,_,h=>cases x <;> exact False.elim h
theorem xF(hm:X.mg "int"=none)(ha:PA X (e :: es) (tA T X.K Y f3))(hg:Gl X "int":=by rfl)(he:starEach (e :: es) X.env=(false,eval e X.env) :: starEach es X.env:=by rfl)(hpl:(backTo pos (starEach es X.env)).any (·.1)=false:=by rfl):
 PE X (.Call (.Name "int" p) (e :: es) [] pos) (tE T X.K Y (M3.aP M3.uH f3)):=wj (zD.or zS) Gw hm boot_int ha hg (by decide) (by decide) he hpl
def kn:M3.Kd->String
 | .non=>"NoneType" | .bl=>"bool" | .int=>"int" | .str=>"str" | .tup=>"tuple" | .lst=>"list" | .dic=>"dict"
def TyD(K:PySem.W.Frag)(H:Hp):V->M3.Kd->Prop
 | .non,k=>k= .non
 | .bl _,k=>k= .bl
 | .int _,k=>k= .int
 | .str _,k=>k= .str
 | .ref a,k=>(k= .lst/\∃xs,SqL K H a xs)\/(k= .tup/\∃xs,SqT K H a xs)\/(k= .dic/\((∃kvs,H a=some (.dK kvs))\/∃kvs,H a=some (.dT kvs)))
 |_,_=>False
theorem lN(K:PySem.W.Frag)(k c:M3.Kd):PySem.W.kitOne K (.type (kn k)) (.type (kn c))=some (M3.Cp k c):=by
 cases k <;> cases c <;> rfl
theorem Dv:iz X (.builtin "isinstance") (fun xs H Q=>∃x k c,xs=[x,.ty (kn c)]/\TyD X.K H x k/\Q (.bl (M3.Cp k c)) H):=by
 intro pins s σ H xs us Q I r h
 obtain⟨x,k,c,rfl,ty,q⟩:=h
 obtain⟨u,w',rfl,ru,rc⟩:=vals2 r
 cases (show w'=Value.type (kn c)from rc)
 have fin:∀tk,EP X pins σ Q (.bool (M3.Cp k c)) {s with toks:=tk}:=fun tk=>⟨.bl _,H,I.tok tk,rfl,q⟩
 cases x with
 |non=>cases (show u=Value.none from ru);cases (show k= .non from ty);exact PySem.W.kia_one PySem.W.kitx_none I.kIn True.intro (lN X.K .non c) (fun z=>nomatch z) fin
 |bl y=>cases (show u=Value.bool y from ru);cases (show k= .bl from ty);exact PySem.W.kia_one PySem.W.kitx_bool I.kIn True.intro (lN X.K .bl c) (fun z=>nomatch z) fin
 |int y=>obtain⟨t,rfl⟩:=(show ∃t,u=Value.int y t from ru);cases (show k= .int from ty);exact PySem.W.kia_one PySem.W.kitx_int I.kIn True.intro (lN X.K .int c) (fun z=>nomatch z) fin
 |str y=>obtain⟨t,rfl⟩:=(show ∃t,u=Value.str y t from ru);cases (show k= .str from ty);exact PySem.W.kia_one PySem.W.kitx_str I.kIn True.intro (lN X.K .str c) (fun z=>nomatch z) fin
 |ref a=>
  cases (show u=Value.ref a from ru)
  rcases ty with ⟨rfl,xs,sq⟩ |⟨rfl,xs,sq⟩ |⟨rfl,⟨kvs,ea⟩ |⟨kvs,ea⟩⟩
  · obtain⟨its,_,⟨ob,n,h1,h2,_⟩,_⟩:=I.list sq
    exact PySem.W.kia_one PySem.W.kitx_list I.kIn ⟨ob,h1,h2⟩ (lN X.K .lst c) (fun z=>nomatch z) fin
  · obtain⟨its,_,⟨ob,h1,h2,_⟩,_⟩:=I.tuple sq
    exact PySem.W.kia_one PySem.W.kitx_tuple I.kIn ⟨ob,h1,h2⟩ (lN X.K .tup c) (fun z=>nomatch z) fin
  · obtain⟨_,_,vs,_,pd⟩:=(show dO X.prog X.w H s.heap a (.dK kvs)from I.hok a _ ea)
    obtain⟨ob,es,ep,h1,h2,_⟩:=pd
    exact PySem.W.kia_one PySem.W.kitx_dict I.kIn ⟨ob,h1,h2.1⟩ (lN X.K .dic c) (fun z=>nomatch z) fin
  · obtain⟨_,_,xs,_,ob,es,ep,h1,h2,_⟩:=(show dO X.prog X.w H s.heap a (.dT kvs)from I.hok a _ ea)
    exact PySem.W.kia_one PySem.W.kitx_dict I.kIn ⟨ob,h1,h2.1⟩ (lN X.K .dic c) (fun z=>nomatch z) fin
 |_=>exact False.elim ty
theorem Hv{K:PySem.W.Frag}{μ:List Addr}{H:Hp}{G:M3.Hh}(S:Sim T K μ H G){d:M3.D}{v:V}{k:M3.Kd}(r:Den K H μ d v)(h:M3.kdOf G d=some k):TyD K H v k:=by
 cases d with
 |non=>cases (show v= .non from r);cases h;rfl
 |bl _=>cases r;cases h;rfl
 |int _=>cases r;cases h;rfl
 |str _=>cases r;cases h;rfl
 |tup ds=>obtain⟨a,vs,rfl,sq,_⟩:=r;cases h;exact .inr (.inl ⟨rfl,vs,sq⟩)
 |ref n=>
  obtain⟨a,ea,rfl⟩:=r
  unfold M3.kdOf at h
  dsimp only at h
  cases q:G[n]? with
  |none=>rw[q]at h;cases h
  |some ob=>
   rw[q]at h
   have od:=S.obj n a ob ea q
   cases ob with
   |lst xs=>cases h;obtain⟨vs,e1,_⟩:=od;exact .inl ⟨rfl,vs,SqL.of e1⟩
   |frz xs=>cases h;obtain⟨vs,e1,_⟩:=od;exact .inl ⟨rfl,vs,e1.sq⟩
   |dK kvs=>cases h;obtain⟨vs,e1,_⟩:=od;exact .inr (.inr ⟨rfl,.inl ⟨vs,e1⟩⟩)
   |dF kvs=>cases h
   |dT kvs=>cases h;obtain⟨vs,e1,_⟩:=od;exact .inr (.inr ⟨rfl,.inr ⟨vs,e1⟩⟩)
   |ins C fs=>cases h
theorem vB(c:M3.Kd){n:Str}{p2:Pos}(hi:X.mg "isinstance"=none)(hm:X.mg n=none)(ha:PE X e (tE T X.K Y fa))(hn:bootBuiltins n=some (.type (kn c)):=by first |exact boot_int |exact boot_bool |exact boot_str |exact boot_tuple |exact boot_list |exact boot_dict)
 (hg:Gl X "isinstance":=by rfl) (hg2:Gl X n:=by rfl) (hn2:n≠"__name__":=by decide) (hdb:(n==("__debug__":Str))=false:=by decide)
 (he:starEach [e,.Name n p2] X.env=(false,eval e X.env) :: starEach [.Name n p2] X.env:=by rfl) (he2:starEach [.Name n p2] X.env=(false,eval (.Name n p2) X.env) :: starEach [] X.env:=by rfl)
 (hpl:(backTo pos (starEach [.Name n p2] X.env)).any (·.1)=false:=by rfl):PE X (.Call (.Name "isinstance" p) [e,.Name n p2] [] pos) (tE T X.K Y (M3.aP (M3.bIs c) (M3.ah fa M3.ax))):=by
 refine PE.of (vD Dv hg hi boot_isinstance (jw ha (jw (Cb hg2 hm hn (v:= .ty (kn c)) rfl hn2 hdb) nI he2) he) (by decide) (by decide) he hpl) fun σ H Q ⟨μ,σ3,G,S,sd,h⟩=>?_
 refine⟨μ,σ3,G,S,sd,cQ (M3.bt h) fun d G1 v H1 μ1 u1 S1 d1 h1=>?_⟩
 have h2:M3.run (M3.bIs c [d]) G1 (fX T X.K μ H Q) (Y.x μ H):=h1
 unfold M3.run M3.bIs at h2
 dsimp only at h2
 cases q:M3.kdOf G1 d with
 |none=>rw[q]at h2;exact False.elim h2
 |some k=>
  rw[q]at h2
  exact⟨v,k,c,rfl,Hv S1 d1 q,h2 _ H1 μ1 u1 S1 rfl⟩
theorem xt{Z:Nat->M3.Hh->Prop}{x:M3.D}{G:M3.Hh}{P:Unit->M3.Hh->Prop}(h:M3.run (M3.isL x) G P Z):∃n xs,x= .ref n/\G[n]? =some (.lst xs)/\P () G:=by
 unfold M3.run M3.isL at h
 cases x with
 |ref n=>
  dsimp only at h
  cases q:G[n]? with
  |none=>rw[q]at h;exact False.elim h
  |some o=>
   rw[q]at h
   cases o with
   |lst xs=>exact⟨n,xs,rfl,q,h⟩
   |_=>exact False.elim h
 |_=>exact False.elim h
theorem zx{Z:Nat->M3.Hh->Prop}{n:Nat}{y:M3.D}{G:M3.Hh}{P:M3.D->M3.Hh->Prop}(h:M3.run (M3.iM (.ref n) y) G P Z):∃xs,G[n]? =some (.lst xs)/\xs.length < M3.aM/\P .non (G.set n (.lst (xs++[y]))):=by
 unfold M3.run M3.iM at h
 dsimp only at h
 cases q:G[n]? with
 |none=>rw[q]at h;exact False.elim h
 |some o=>
  rw[q]at h
  cases o with
  |lst xs=>
   dsimp only at h
   by_cases c:xs.length < M3.aM
   · rw[if_pos c]at h;exact⟨xs,rfl,c,h⟩
   · rw[if_neg c]at h;exact False.elim h
  |_=>exact False.elim h
theorem ie{apos:Pos}(ho:PE X o (tE T X.K Y fa))(he:PE X e (tE T X.K Y fb))
 (hbase:attributeBase o "append" X.env (eval o X.env)=eval o X.env:=by rfl)
 (hfew:((backTo pos (starEach (e :: []) X.env)).all (fun x=>!x.1)&&(backToKw pos (keywordEach [] X.env)).all (fun x=>x.1.isSome)
   &&decide ((e :: ([]:List Expr)).length+([]:List Keyword).length+(if ([]:List Keyword).isEmpty then 0 else 1) < 30))=true:=by rfl)
 (hline:(apos.endLine==pos.line)=true:=by rfl) (hs:starEach (e :: []) X.env=(false,eval e X.env) :: starEach [] X.env:=by rfl) (hplain:(backTo pos (starEach [] X.env)).any (·.1)=false:=by rfl):
 PE X (.Call (.Attribute o "append" apos) [e] [] pos) (tE T X.K Y (M3.pY fa fb)):=by
 refine PE.of (AG PySem.F.plainAttrs_list PySem.F.slot_list_append PySem.F.type_list_append sH ho (jw he nI hs) hbase hfew hline hs hplain) fun σ H Q ⟨μ,σ3,G,S,sd,h⟩=>⟨μ,σ3,G,S,sd,cQ h fun d G1 v H1 μ1 u1 S1 d1 h1=>?_⟩
 obtain⟨n,xs,rfl,q,h1⟩:=xt (M3.bt h1)
 obtain⟨a,ea,rfl⟩:=id d1
 obtain⟨vs,e1,r1⟩:=S1.obj n a _ ea q
 refine⟨.inl ⟨rfl,vs,SqL.of e1⟩,μ1,σ3,G1,S1,sd.up u1,cQ h1 fun y G2 w H2 μ2 u2 S2 d2 h2=>?_⟩
 obtain⟨xs2,q2,hl,h3⟩:=zx h2
 have ea2:=u2.at ea
 obtain⟨vs2,e2,r2⟩:=S2.obj n a _ ea2 q2
 have up:=Up.set S2 (.lst (vs2++[w])) ea2 q2 rfl
 refine⟨a,vs2,w,rfl,rfl,e2,by rw[<-r2.length,<-ek];exact hl,?_⟩
 exact h3 _ _ μ2 ((u1.trans u2).trans up) (S2.set ea2 q2 rfl rfl ⟨_,bi,aH.up up (r2.append (aH.one d2))⟩) rfl
structure xr (T:Tab) (K:PySem.W.Frag) (μ:List Addr) (H:Hp) (src:M3.Src) (J:It):Prop where
 go:∀(i:Nat) d μ' H' G',Up μ μ' H H'->Sim T K μ' H' G'->src.ck G'=true->src.xs[i]? =some d->J.go i H'
 yld:∀(i:Nat) d v μ' H' H'' G',Up μ μ' H H'->Sim T K μ' H' G'->src.ck G'=true->src.xs[i]? =some d->J.yld i H' v H''->ji H' H''/\Den K H'' μ' d v
 stop:∀μ' H' G',Up μ μ' H H'->Sim T K μ' H' G'->src.ck G'=true->J.stop src.xs.length H'
def GP(T:Tab)(K:PySem.W.Frag)(μ:List Addr)(H:Hp)(R:It->Hp->Prop)(src:M3.Src)(G':M3.Hh):Prop:=∀J H' μ',Up μ μ' H H'->Sim T K μ' H' G'->xr T K μ' H' src J->R J H'
def tI(T:Tab)(K:PySem.W.Frag)(Y:EX)(f:M3.I3):TI:=fun σ H R=>∃μ σ3 G,Sim T K μ H G/\StD K H μ σ3 σ/\M3.run (f σ3) G (GP T K μ H R) (Y.x μ H)
theorem PI.of{tg it:Expr}{t u:TI}(h:PI X tg it t)(f:∀σ H R,u σ H R->t σ H R):PI X tg it u:=fun pins s σ H R I q=>h pins s σ H R I (f σ H R q)
def IJ(K:PySem.W.Frag)(tl:TE):TI:=fun σ H R=>tl σ H fun x H1=>∃a,x= .ref a/\(((∃xs,SqL K H1 a xs)/\R (Itl K a) H1)\/((∃xs,SqT K H1 a xs)/\R (Itt K a) H1))
theorem Fe{tg l:Expr}{tl:TE}(hl:PE X l tl):PI X tg l (IJ X.K tl):=by
 intro pins s σ H R I h
 refine thn (hl pins s σ H _ I h) fun v s1 ⟨x,H1,I1,r1,q1⟩=>?_
 obtain⟨a,e,q⟩:=q1
 subst e
 cases r1
 rcases q with ⟨⟨xs,hq⟩,q⟩ |⟨⟨xs,hq⟩,q⟩
 · obtain⟨its,rv,pl,hz⟩:=I1.list hq
   refine wpAny_pyIter_list pl.isList ?_
   refine⟨s1.heap.objs.size,[s1.heap.objs.size],_,_,H1,rfl,I1.kept (t':=s1.toks) fun b o e=>Heap.get?_push_of_some _ e,zY a _,⟨_,Heap.get?_push_size _ rfl,rfl,rfl⟩,fun b hb=>?_,q⟩
   have e:b=s1.heap.objs.size:=by simpa using hb
   subst e
   exact I1.Ab (qO_ _) (I1.hok.fresh (qO_ _))
 · obtain⟨its,rv,pl,hz⟩:=I1.tuple hq
   refine wpAny_pyIter_tuple (show s1.heap.IsTuple a its.toArray from pl) ?_
   refine⟨s1.heap.objs.size,[s1.heap.objs.size],_,_,H1,rfl,I1.kept (t':=s1.toks) fun b o e=>Heap.get?_push_of_some _ e,x6 a _,⟨_,Heap.get?_push_size _ rfl,rfl,rfl⟩,fun b hb=>?_,q⟩
   have e:b=s1.heap.objs.size:=by simpa using hb
   subst e
   exact I1.Ab (qO_ _) (I1.hok.fresh (qO_ _))
theorem src_list{K:PySem.W.Frag}{μ:List Addr}{H:Hp}{n:Nat}{a:Addr}{xs:List M3.D}{o:M3.O}{ck:M3.Hh->Bool}(ea:μ[n]? =some a)(hck:∀G',ck G'=true->G'[n]? =some o)(ho:o= .lst xs\/o= .frz xs):xr T K μ H ⟨xs,ck⟩ (Itl K a):=by
 have key:∀{μ' H' G'},Up μ μ' H H'->Sim T K μ' H' G'->ck G'=true->∃vs,SqL K H' a vs/\aH K H' μ' xs vs:=by
  intro μ' H' G' u S c
  have ob:=S.obj n a o (u.at ea) (hck G' c)
  rcases ho with rfl |rfl
  · obtain⟨vs,e1,r⟩:=ob;exact⟨vs,SqL.of e1,r⟩
  · obtain⟨vs,e1,r⟩:=ob;exact⟨vs,e1.sq,r⟩
 refine⟨fun i d μ' H' G' u S c e=>?_,fun i d v μ' H' H'' G' u S c e y=>?_,fun μ' H' G' u S c=>?_⟩
 · obtain⟨vs,sq,r⟩:=key u S c
   obtain⟨v,e1,_⟩:=r.get e
   exact⟨vs,v,sq,e1⟩
 · obtain⟨vs,sq,r⟩:=key u S c
   obtain⟨w,e1,dw⟩:=r.get e
   have:=y.2 vs sq
   rw[e1]at this
   cases this
   obtain⟨rfl,_⟩:=y;exact⟨fun _ _ z=>z,dw⟩
 · obtain⟨vs,sq,r⟩:=key u S c
   exact⟨vs,sq,Nat.le_of_eq r.length.symm⟩
theorem nT{tg:Expr}{f:M3.E3}(h:PE X e (tE T X.K Y f)):PI X tg e (tI T X.K Y (M3.iOf f)):=by
 refine PI.of (Fe h) fun σ H R ⟨μ,σ3,G,S,sd,h⟩=>⟨μ,σ3,G,S,sd,cQ h fun d G1 v H1 μ1 u1 S1 d1 h1=>?_⟩
 cases d with
 |tup ds=>
  obtain⟨a,vs,rfl,sq,r⟩:=d1
  refine⟨a,rfl,.inr ⟨⟨vs,sq⟩,h1 _ H1 μ1 u1 S1 ⟨fun i d μ' H' G' u S c e=>?_,fun i d v μ' H' H'' G' u S c e y=>?_,fun μ' H' G' u S c=>?_⟩⟩⟩
  · obtain⟨v,e1,_⟩:=r.get e
    exact⟨vs,v,SqT.keeps u.keeps sq,e1⟩
  · obtain⟨w,e1,dw⟩:=r.get e
    have:=y.2 vs (SqT.keeps u.keeps sq)
    rw[e1]at this
    cases this
    obtain⟨rfl,_⟩:=y;exact⟨fun _ _ z=>z,Den.up u dw⟩
  · exact⟨vs,SqT.keeps u.keeps sq,Nat.le_of_eq r.length.symm⟩
 |ref n=>
  obtain⟨a,ea,rfl⟩:=d1
  unfold M3.run M3.srcOf at h1
  dsimp only at h1
  cases q:G1[n]? with
  |none=>rw[q]at h1;exact False.elim h1
  |some o=>
   have ob:=S1.obj n a o ea q
   cases o with
   |lst xs=>
    rw[q]at h1
    obtain⟨vs,e1,r⟩:=ob
    exact⟨a,rfl,.inl ⟨⟨vs,SqL.of e1⟩,h1 _ H1 μ1 u1 S1 (src_list ea (fun G' c=>of_decide_eq_true c) (.inl rfl))⟩⟩
   |frz xs=>
    rw[q]at h1
    obtain⟨vs,e1,r⟩:=ob
    exact⟨a,rfl,.inl ⟨⟨vs,e1.sq⟩,h1 _ H1 μ1 u1 S1 (src_list ea (fun G' c=>of_decide_eq_true c) (.inr rfl))⟩⟩
   |_=>rw[q]at h1;exact False.elim h1
 |_=>exact False.elim h1
theorem Ii{K:PySem.W.Frag}{μ:List Addr}{H:Hp}(i:Int)(n:Nat):xr T K μ H ⟨M3.rng i n,fun _=>true⟩ (Itr i n):=by
 refine⟨fun j d μ' H' G' u S c e=>(M3.oF e).2,fun j d v μ' H' H'' G' u S c e y=>?_,fun μ' H' G' u S c=>Nat.le_of_eq M3.qf.symm⟩
 obtain⟨rfl,_⟩:=M3.oF e
 obtain⟨rfl,y⟩:=y;exact⟨fun _ _ z=>z,y⟩
theorem vv{i:Int}(h:M3.tf i=true):-(2 ^ 62)<=i/\i < 2 ^ 62:=of_decide_eq_true h
theorem ij{tg:Expr}(hm:X.mg "range"=none)(ha:PE X a (tE T X.K Y fa))(hg:Gl X "range":=by rfl)(hs:starEach [a] X.env=[(false,eval a X.env)]:=by rfl):PI X tg (.Call (.Name "range" p) [a] [] pos) (tI T X.K Y (M3.gI fa)):=by
 refine PI.of (yY hg hm (jw ha nI hs) hs) fun σ H R ⟨μ,σ3,G,S,sd,h⟩=>⟨μ,σ3,G,S,sd,cQ h fun d G1 v H1 μ1 u1 S1 d1 h1=>?_⟩
 cases d with
 |int j=>
  cases (show v= .int j from d1)
  obtain⟨c,h1⟩:=kG (c:=M3.tf j=true) h1
  exact⟨j,rfl,(vv c).1,(vv c).2,h1 _ H1 μ1 u1 S1 (Ii 0 j.toNat)⟩
 |_=>exact False.elim h1
theorem wG{Z:Nat->M3.Hh->Prop}{ck:M3.Hh->Bool}{body:M3.D->M3.St->M3.M (M3.Fl×M3.St)}{σ:M3.St}{G:M3.Hh}{P:M3.Fl×M3.St->M3.Hh->Prop}(h:M3.run (M3.forL ck body [] σ) G P Z):ck G=true/\P (.next,σ) G:=by
 unfold M3.run M3.forL at h
 by_cases c:ck G=true
 · rw[if_pos c]at h;exact⟨c,h⟩
 · rw[if_neg c]at h;exact False.elim h
def DW(ck:M3.Hh->Bool)(body:M3.D->M3.St->M3.M (M3.Fl×M3.St))(r:List M3.D)(p:M3.Fl×M3.St):M3.M (M3.Fl×M3.St):=match p.1 with
 | .next=>M3.forL ck body r p.2
 | .cont=>M3.forL ck body r p.2
 | .brk=>M3.ret (.next,p.2)
 | .ret d=>M3.ret (.ret d,p.2)
theorem sX{Z:Nat->M3.Hh->Prop}{ck:M3.Hh->Bool}{body:M3.D->M3.St->M3.M (M3.Fl×M3.St)}{x:M3.D}{r:List M3.D}{σ:M3.St}{G:M3.Hh}{P:M3.Fl×M3.St->M3.Hh->Prop}(h:M3.run (M3.forL ck body (x :: r) σ) G P Z):
 ck G=true/\M3.run (M3.bnd (body x σ) (DW ck body r)) G P Z:=by
 have e:M3.forL ck body (x :: r) σ G=if ck G then M3.bnd (body x σ) (DW ck body r) G else none:=by
  conv=>lhs;unfold M3.forL
  rfl
 unfold M3.run at h
 rw[e]at h
 by_cases c:ck G=true
 · rw[if_pos c]at h;exact⟨c,h⟩
 · rw[if_neg c]at h;exact False.elim h
theorem jP{tg iter:Expr}{body:List Stmt}{it:M3.I3}{g:M3.D->M3.St->M3.M M3.St}{f:M3.S3}(hp:PassesOwn (model X.prog X.w) X.A X.env X.xe)(hc:X.calm=true)(hi:PI X tg iter (tI T X.K Y it))(hg:PG X tg (tG T X.K Y g))(hb:PSs X body (tS T X.K Y f))
 (hs:∀x,foldedSetIterable iter X.env x=pure x:=by intro _;rfl):PS X (.For tg iter body [] pos) (tS T X.K Y (M3.kJ it g f)):=by
 refine PS.of (AI hp hc hi hg hb hs) fun D σ H ⟨μ,σ3,G,S,sd,h⟩=>⟨μ,σ3,G,S,sd,eI (M3.bt h) fun src G1 q J H1 μ1 u1 S1 sr=>?_⟩
 have q:M3.run (M3.forL src.ck (fun x σ=>M3.bnd (g x σ) f) src.xs σ3) G1 (gm T X.K μ H D) (Y.x μ1 H1):=Y.upE u1 q
 refine⟨fun i m σ' H'=>m=src.xs.length - i/\i<=src.xs.length/\∃μ' σ3' G',Up μ1 μ' H1 H'/\Sim T X.K μ' H' G'/\StD X.K H' μ' σ3' σ'/\M3.run (M3.forL src.ck (fun x σ=>M3.bnd (g x σ) f) (src.xs.drop i) σ3') G' (gm T X.K μ H D) (Y.x μ' H'),
  ⟨_,rfl,qf_ _,μ1,σ3,G1,Up.refl _ _,S1,sd.up u1,q⟩,?_⟩
 rintro i m σ' H' ⟨rfl,hi,μ',σ3',G',u',S',sd',q'⟩
 by_cases hlt:i < src.xs.length
 · rw[List.drop_eq_getElem_cons hlt]at q'
   obtain⟨c,q2⟩:=sX q'
   have ex:src.xs[i]? =some src.xs[i]:=qA_ hlt
   refine .inr ⟨sr.go i _ μ' H' G' u' S' c ex,fun σ2 H2=>∃μ2 σ4 G2,Up μ1 μ2 H1 H2/\Sim T X.K μ2 H2 G2/\StD X.K H2 μ2 σ4 σ2/\M3.run (M3.forL src.ck (fun x σ=>M3.bnd (g x σ) f) (src.xs.drop (i+1)) σ4) G2 (gm T X.K μ H D) (Y.x μ2 H2),
    fun σ2 H2 hN=>⟨_,by omega,rfl,hlt,hN⟩,fun x H'' y=>?_⟩
   obtain⟨sm,dx⟩:=sr.yld i _ x μ' H' H'' G' u' S' c ex y
   have us:Up μ' μ' H' H'':=Up.same sm
   refine⟨μ',σ3',G',_,S'.same sm,sd'.up us,dx,eI (Y.upE us (M3.bt (M3.bt q2))) fun σ5 G5 q5 σ6 H6 μ6 u6 S6 sd6=>?_⟩
   have u6:=us.trans u6
   refine⟨μ6,σ5,G5,S6,sd6,eI (Y.upE u6 q5) fun p G7 q7 σ7 H7 μ7 u7 S7 sd7=>?_⟩
   obtain⟨fl,σ8⟩:=p
   have up:=(u1.trans u').trans (u6.trans u7)
   cases fl with
   |next=>exact⟨μ7,σ8,G7,u'.trans (u6.trans u7),S7,sd7,Y.upE (u6.trans u7) q7⟩
   |cont=>exact⟨μ7,σ8,G7,u'.trans (u6.trans u7),S7,sd7,Y.upE (u6.trans u7) q7⟩
   |brk=>exact q7 σ7 H7 μ7 up S7 sd7
   |ret d=>exact q7 σ7 H7 μ7 up S7 sd7
 · have e:i=src.xs.length:=by omega
   subst e
   rw[List.drop_length]at q'
   obtain⟨c,q2⟩:=wG q'
   exact .inl ⟨sr.stop μ' H' G' u' S' c,q2 σ' H' μ' (u1.trans u') S' sd'⟩
def EX.of(T:Tab)(K:PySem.W.Frag)(E:XK):EX:=⟨fun μ H c G=>∀Ca dx H' μ',T.cls c=some Ca->Up μ μ' H H'->Sim T K μ' H' G->E (.ref Ca) dx H',fun u h Ca dx H' μ' e u' S=>h Ca dx H' μ' e (u.trans u') S⟩
def sp3(T:Tab)(K:PySem.W.Frag)(n:Nat)(f:List M3.D->M3.M M3.D):Sp:=fun vs H Q E=>vs.length=n/\∃μ ds G,Sim T K μ H G/\aH K H μ ds vs/\M3.run (f ds) G (fX T K μ H Q) ((EX.of T K E).x μ H)
structure Fn3 (P:Program) (w:World) (K:PySem.W.Frag) (mg:Str->Option Value) (base:Heap) (CX:CXT) (T:Tab) (k:Nat) (x:Str) (n:Nat) (f:List M3.D->M3.M M3.D):Prop where
 ex:∃fa fd ps,bo P w K mg base CX k fa fd ps (sp3 T K n f)/\mg x=some (.ref fa)/\PySem.W.keepIn K (.ref fa)=true/\Binds K fd ps []
 len:∀ds G (Q:M3.D->M3.Hh->Prop) (Z:Nat->M3.Hh->Prop),M3.run (f ds) G Q Z->ds.length=n
theorem x_call{CX:CXT}{E:XK}{x:Str}{k n:Nat}{f:List M3.D->M3.M M3.D}(F:Fn3 X.prog X.w X.K X.mg X.base CX T k x n f)(hr:fM k X.A)(hx:gu CX X E)(ha:PA X (e :: es) (tA T X.K (EX.of T X.K E) f3))(hg:Gl X x:=by rfl)(hdb:(x==("__debug__":Str))=false:=by decide)
 (he:starEach (e :: es) X.env=(false,eval e X.env) :: starEach es X.env:=by rfl) (hpl:(backTo pos (starEach es X.env)).any (·.1)=false:=by rfl):PE X (.Call (.Name x p) (e :: es) [] pos) (tE T X.K (EX.of T X.K E) (M3.aP f f3)):=by
 obtain⟨fa,fd,ps,G,hm,hk,hb⟩:=F.ex
 refine PE.of (Du G hr hg hm hk hb .nil hx ha hdb he hpl) fun σ H Q ⟨μ,σ3,G,S,sd,h⟩=>⟨μ,σ3,G,S,sd,pJ h fun ds G1 vs H1 μ1 u1 S1 d1 h1=>?_⟩
 show sp3 T X.K n f (vs++[]) H1 Q E
 rw[qY_]
 exact⟨by rw[<-d1.length];exact F.len _ _ _ _ h1,μ1,ds,G1,S1,d1,eI h1 fun _ _ z=>z.up u1⟩
theorem tW{Z:Nat->M3.Hh->Prop}{n:Nat}{pad:M3.St}{body:M3.S3}{ds:List M3.D}{G:M3.Hh}{Q:M3.D->M3.Hh->Prop}(h:M3.run (M3.fnM n pad body ds) G Q Z):ds.length=n:=by
 unfold M3.fnM at h
 exact(kG h).1
theorem StD.start{K:PySem.W.Frag}{H:Hp}{μ:List Addr}:∀{ds:List M3.D} {vs:List V} (k:Nat),aH K H μ ds vs->StD K H μ (ds.map some++List.replicate k none) (vs.map some++List.replicate k none):=by
 intro ds vs k r
 refine⟨by simp [r.length],fun i d e=>?_⟩
 by_cases h:i < ds.length
 · rw[qK_ (by simpa using h),qQ_]at e
   cases q:ds[i]? with
   |none=>rw[q]at e;cases e
   |some d'=>
    rw[q]at e
    cases e
    obtain⟨v,e1,r1⟩:=r.get q
    refine⟨v,?_,r1⟩
    rw[qK_ (by simpa using (qB_.mp e1).1),qQ_,e1];rfl
 · rw[List.getElem?_append_right (by simpa using h),List.getElem?_replicate]at e
   split at e <;> cases e
theorem aY{X:Cx}{E:XK}:gu CX0 X E:=fun _ _ _ _ _ _ _ h=>h.elim
theorem bQ{P:Program}{w:World}{K:PySem.W.Frag}{mg:Str->Option Value}{base:Heap}{x qual:Str}{st:Stmt}{fa:Addr}{fd:FuncData}{N ps:List Str}{k n:Nat}{pad:M3.St}{body:M3.S3}(F:Fun K x qual st fa fd)(S:aE N ps (ak st))
 (hn:ps.length=n) (hpad:pad=List.replicate (N.length - n) none)
 (h:∀(cdv:Value) (A:Around) (outer:List Env) (s:Shared) (H:Hp) (E:XK),fM k (A.deeper (envOfC qual (ak st) s.heap.objs.size fa cdv))->PSs (nu CX0 P w K mg base N qual (ak st) fa cdv A outer s H E).nox (aB st) (tS T K (EX.of T K E) body)):
 bo P w K mg base CX0 (k+1) fa fd ps (sp3 T K n (M3.fnM n pad body)):=by
 refine F.ok S (fun vs H Q E q=>by rw[hn];exact q.1) (fun cdv A outer s H vs Q E hr q=>⟨_,h cdv A outer s H E hr,?_⟩)
 obtain⟨hl,μ,ds,G,Sm,d,q⟩:=q
 unfold M3.fnM at q
 obtain⟨c,q⟩:=kG q
 have e1:L2.start N vs=vs.map some++List.replicate (N.length - n) none:=by unfold L2.start;rw[hl]
 rw[e1]
 refine⟨μ,_,G,Sm,by rw[hpad];exact StD.start _ d,eI (M3.bt q) fun r G1 q1 σ' H' μ' u S' sd'=>?_⟩
 obtain⟨fl,σ2⟩:=r
 cases fl with
 |next=>exact q1 .non H' μ' u S' rfl
 |brk=>exact False.elim q1
 |cont=>exact False.elim q1
 |ret d=>exact fun v dv=>q1 v H' μ' u S' dv
end
structure Blk (X:Cx) (x:Str) (caps:List (Str×Nat)) (scope:Scope) (cl:List (Str×Addr)):Prop where
 kind:scope.kind= .function
 Fi:∀y∈scope.names,y.2≠.cell
 loc:∀y∈scope.names,y.2= .local->scope.names.lookup y.1=some .local
 own:scope.names.lookup x=some .local
 Co:closureFor scope X.env=pure cl
 nd:(x :: caps.map (·.1)).Nodup
 sub:∀y c,cl.lookup y=some c->X.env.cells.lookup y=some c
 has:∀y,((relabel scope X.env).names.lookup y=some .cell\/(relabel scope X.env).names.lookup y=some .free)->∃c,cl.lookup y=some c
 nox:cl.lookup x=none
 cap:∀(j:Nat) y i,caps[j]? =some (y,i)->X.N[i]? =some y/\(X.env.kindOf y=some .cell\/X.env.kindOf y=some .free)/\((relabel scope X.env).names.lookup y=some .cell\/(relabel scope X.env).names.lookup y=some .free)
def blk(X:Cx)(x:Str)(caps:List (Str×Nat))(scope:Scope)(cl:List (Str×Addr))(s₃:Shared)(H₃:Hp)(C:Addr)(fp:List Addr)(E':Value->Shared->Prop):Cx:=
 {X with N:=x :: caps.map (·.1),s₀:=s₃,H₀:=H₃,env:=compEnvC scope cl C X.env,outer:=X.stack,stack:=X.stack,ex:=fp,fn:=fun y=>decide (y=x),xe:=E'}
def σ0(σ:L2.St)(caps:List (Str×Nat)):L2.St:=none :: caps.map fun p=>(σ[p.2]?).join
section
variable{X:Cx}{x:Str}{caps:List (Str×Nat)}{scope:Scope}{cl:List (Str×Addr)}{pins:List (Addr×Obj)}{σ:L2.St}{H:Hp}{s₃:Shared}{fp:List Addr}{E':Value->Shared->Prop}
theorem E1(B:Blk X x caps scope cl)(I:L2.Inv X pins σ H s₃)(hf:∀b∈fp,oW X pins H b)(hfl:∀b∈fp,b < s₃.heap.objs.size):(blk X x caps scope cl s₃ H s₃.heap.objs.size fp E').Ok where
 mod:=I.mod
 kind:=B.kind
 glob:=I.ok.glob
 blt:=I.ok.blt
 above:=qO_ _
 inj:=fun y z c h1 h2=>I.ok.inj y z c (B.sub y c h1) (B.sub z c h2)
 has:=fun y hy=>B.has y hy
 cab:=fun y c hy h=>by
  have e:y=x:=of_decide_eq_true hy
  subst e
  rw[show (blk X y caps scope cl s₃ H s₃.heap.objs.size fp E').env.cells.lookup y=cl.lookup y from rfl,B.nox]at h
  cases h
 hd:=I.ok.hd
 frames:=I.ok.frames
 stk:= .inl rfl
 exf:=fun b hb=>⟨Nat.ne_of_lt (hfl b hb),fun y c e=>(hf b hb).2.2.2.2.1 y c (B.sub y c e)⟩
 bs:=I.bs
 bsz:=Nat.le_trans I.ok.bsz I.sz
 xD:=fun b o e hb=>by
  rcases (hf b hb).2.2.2.1 with z |z
  · exact I.ok.xD b o e z
  · exact absurd (qd_ (Heap.lt_size e) (Nat.le_trans I.ok.bsz z)) (qe_ _)
 zf:=fun b hb z=>by
  rcases qS_.mp (I.lL b z)with e |e
  · exact(hf b hb).2.1 e
  · exact(hf b hb).2.2.1 e
 nU:=I.stack
 frf:=I.qc
theorem Cc(B:Blk X x caps scope cl)(I:L2.Inv X pins σ H s₃)(hf:∀b∈fp,oW X pins H b)(hfl:∀b∈fp,b < s₃.heap.objs.size){h₁:Heap}{tk:Nat}{m:Str->Option Value}(hns:h₁.Ns s₃.heap.objs.size m)(hk:∀b o,s₃.heap.get? b=some o->h₁.get? b=some o):
 L2.Inv (blk X x caps scope cl s₃ H s₃.heap.objs.size fp E') pins (σ0 σ caps) H {s₃ with heap:=h₁,toks:=tk}:=by
 refine⟨E1 B I hf hfl,rfl,I.bare,Un.kept hk,⟨m,hns,fun i y v e1 e2 e3=>?_⟩,fun y c e=>?_,I.hok.fresh (qO_ _),fun y c e=>I.iC y c (B.sub y c e),fun p hp=>?_,I.hok.kept hk,by simp [σ0,blk]⟩
 · cases i with
   |zero=>simp [σ0]at e2
   |succ j=>
    have e2:(caps.map fun p=>(σ[p.2]?).join)[j]? =some (some v):=by simpa [σ0] using e2
    have e1:(caps.map (·.1))[j]? =some y:=by simpa [blk] using e1
    rw[qQ_]at e1 e2
    cases q:caps[j]? with
    |none=>rw[q]at e1;cases e1
    |some p=>
     obtain⟨y',i⟩:=p
     rw[q]at e1 e2
     cases e1
     have e2:(σ[i]?).join=some v:=Option.some.inj e2
     have e3:σ[i]? =some (some v):=by
      cases z:σ[i]? with
      |none=>rw[z]at e2;cases e2
      |some w=>rw[z]at e2;exact congrArg some e2
     obtain⟨h1,h2,h3⟩:=B.cap j y' i q
     obtain⟨m',_,hl⟩:=I.loc
     obtain⟨u,ru,l⟩:=hl i y' v h1 e3 (h2.elim (fun z=>.inr (.inl z)) fun z=>.inr (.inr z))
     refine⟨u,ru,.inr ⟨h3,?_⟩⟩
     rcases l with ⟨k,_⟩ |⟨_,c,ec,⟨ob,ho,hd⟩⟩
     · rcases h2 with z |z
       · rw[z]at k;cases k
       · rw[z]at k;cases k
     · obtain⟨c',ec'⟩:=B.has y' h3
       have:=B.sub y' c' ec'
       rw[ec]at this
       cases this
       exact⟨c,ec',ob,hk _ _ ho,hd⟩
 · obtain⟨v,ob,ho,hd⟩:=I.cell y c (B.sub y c e)
   exact⟨v,ob,hk _ _ ho,hd⟩
 · obtain⟨e,n,ne,nf,d⟩:=I.pin p hp
   refine⟨hk _ _ e,n,Nat.ne_of_lt (Heap.lt_size e),fun z=>?_,d⟩
   rcases qS_.mp (I.lL p.1 z)with q |q
   · exact ne q
   · exact nf q
end
theorem Sim.lt{X:Cx}{T:Tab}{pins:List (Addr×Obj)}{σ:L2.St}{H:Hp}{s:Shared}{μ:List Addr}{G:M3.Hh}(I:L2.Inv X pins σ H s)(S:Sim T X.K μ H G):∀a∈μ,a < s.heap.objs.size:=by
 intro a ha
 obtain⟨n,hn,e⟩:=List.getElem_of_mem ha
 have e1:μ[n]? =some a:=by rw[<-e];exact qA_ hn
 have hg:n < G.length:=by rw[<-S.len];exact hn
 have ob:=S.obj n a _ e1 (qA_ hg)
 generalize G[n]=o at ob
 cases q:isF o with
 |false=>
  obtain⟨u,hu⟩:=ob.live q
  exact I.hok.lt hu
 |true=>
  cases o with
  |frz xs=>
   obtain⟨vs,sq,_⟩:=ob
   obtain⟨its,_,⟨ob',n',e',_⟩,_⟩:=I.list sq.sq
   exact Heap.lt_size e'
  |_=>cases q
def PTs(X:Cx)(ifs:List Expr)(t:TT):Prop:=
 ∀(pins:List (Addr×Obj)) (s:Shared) (σ:L2.St) (H:Hp) (Q:Bool->Hp->Prop),L2.Inv X pins σ H s->t σ H Q->
  wpAny (model X.prog X.w) X.A (forIn ifs true fun c r=>if r=true then do let ok <-isTrue c X.env (eval c X.env);pure (ForInStep.yield ok)else pure (ForInStep.yield r)) (TP X pins σ Q) X.xe s
theorem fU{X:Cx}{T:Tab}{Y:EX}:PTs X [] (tT T X.K Y M3.jV):=fun pins s σ H Q I ⟨μ,σ3,G,S,sd,h⟩=>wpAny_tests_nil ⟨H,I,h H μ (Up.refl _ _) S⟩
theorem yP{X:Cx}{T:Tab}{Y:EX}{c:Expr}{f:M3.T3}(h:PT X c (tT T X.K Y f)):PTs X [c] (tT T X.K Y f):=fun pins s σ H Q I q=>wpAny_tests_one (h pins s σ H Q I q)
theorem zI{Z:Nat->M3.Hh->Prop}{ck:M3.Hh->Bool}{cond:M3.D->M3.M Bool}{elt:M3.D->M3.M M3.D}{acc:List M3.D}{G:M3.Hh}{P:List M3.D->M3.Hh->Prop}(h:M3.run (M3.dH ck cond elt [] acc) G P Z):ck G=true/\P acc G:=by
 unfold M3.run M3.dH at h
 by_cases c:ck G=true
 · rw[if_pos c]at h;exact⟨c,h⟩
 · rw[if_neg c]at h;exact False.elim h
def Aa(ck:M3.Hh->Bool)(cond:M3.D->M3.M Bool)(elt:M3.D->M3.M M3.D)(x:M3.D)(r acc:List M3.D)(c:Bool):M3.M (List M3.D):=
 if c then M3.bnd (elt x) (fun y=>if acc.length < M3.aM then M3.dH ck cond elt r (acc++[y])else M3.fail)else M3.dH ck cond elt r acc
theorem xS{Z:Nat->M3.Hh->Prop}{ck:M3.Hh->Bool}{cond:M3.D->M3.M Bool}{elt:M3.D->M3.M M3.D}{x:M3.D}{r acc:List M3.D}{G:M3.Hh}{P:List M3.D->M3.Hh->Prop}(h:M3.run (M3.dH ck cond elt (x :: r) acc) G P Z):
 ck G=true/\M3.run (M3.bnd (cond x) (Aa ck cond elt x r acc)) G P Z:=by
 have e:M3.dH ck cond elt (x :: r) acc G=if ck G then M3.bnd (cond x) (Aa ck cond elt x r acc) G else none:=by
  conv=>lhs;unfold M3.dH
  rfl
 unfold M3.run at h
 rw[e]at h
 by_cases c:ck G=true
 · rw[if_pos c]at h;exact⟨c,h⟩
 · rw[if_neg c]at h;exact False.elim h
theorem StD.fW{K:PySem.W.Frag}{H:Hp}{μ:List Addr}{σ3:M3.St}{σ:L2.St}(sd:StD K H μ σ3 σ)(caps:List (Str×Nat))(o:Option V):StD K H μ (none :: M3.fW σ3 (caps.map (·.2))) (o :: caps.map fun p=>(σ[p.2]?).join):=by
 refine⟨by simp [M3.fW],fun i d e=>?_⟩
 cases i with
 |zero=>simp at e
 |succ j=>
  have e:(M3.fW σ3 (caps.map (·.2)))[j]? =some (some d):=by simpa using e
  unfold M3.fW at e
  rw[qQ_,qQ_]at e
  cases q:caps[j]? with
  |none=>rw[q]at e;cases e
  |some p=>
   rw[q]at e
   have e:(σ3[p.2]?).join=some d:=Option.some.inj e
   have e3:σ3[p.2]? =some (some d):=by
    cases z:σ3[p.2]? with
    |none=>rw[z]at e;cases e
    |some w=>rw[z]at e;exact congrArg some e
   obtain⟨v,h1,h2⟩:=sd.at_ _ _ e3
   refine⟨v,?_,h2⟩
   show (caps.map fun p=>(σ[p.2]?).join)[j]? =some (some v)
   rw[qQ_,q]
   show some (σ[p.2]?).join=some (some v)
   rw[h1];rfl
section
variable{X:Cx}{T:Tab}{Y:EX}{elt iter:Expr}{x:Str}{px:Pos}{ifs:List Expr}{scope:Scope}{cl:List (Str×Addr)}{caps:List (Str×Nat)}{pos:Pos}{fe:M3.E3}{ft:M3.T3}
theorem Up.off{μ μ1:List Addr}{H H1:Hp}{p:Addr}{ws ws':List V}(u:Up μ μ1 H H1)(hp:H p=none)(hw:H1 p=some (.lst ws)):Up μ μ1 H (upd H1 p (.lst ws')):=by
 refine⟨u.pre,⟨fun b xs e=>?_,fun b o v e=>?_⟩,fun b o e n=>?_⟩
 · rw[aT (dY e hp)];exact u.keeps.tup b xs e
 · rw[aT (dY e hp)];exact u.keeps.frz b o v e
 · rw[aT (dY e hp)];exact u.rest b o e n
theorem Sim.off{T:Tab}{K:PySem.W.Frag}{μ:List Addr}{H:Hp}{G:M3.Hh}{p:Addr}{ws ws':List V}(S:Sim T K μ H G)(hp:p∉μ)(hw:H p=some (.lst ws)):Sim T K μ (upd H p (.lst ws')) G:=by
 have k:Keeps H (upd H p (.lst ws')):=Keeps.write hw (fun _ z=>nomatch z) (fun _ _ z=>nomatch z)
 refine⟨S.len,fun n a o e1 e2=>(S.obj n a o e1 e2).mono (List.prefix_refl _) k fun y e=>?_,S.inj⟩
 rw[aT (by rintro rfl;exact hp (qD_ e1))]
 exact e
theorem Gk{α:Type}{K:PySem.W.Frag}{μ:List Addr}{H:Hp}{m:M3.M M3.D}{k:M3.D->M3.M α}{G:M3.Hh}{P:α->M3.Hh->Prop}{R:VK}{Z:Nat->M3.Hh->Prop}(h:M3.run (M3.bnd m k) G P Z)(hz:∀c G,Z c G->Y.x μ H c G)
 (f:∀d G1 v H1 μ1,Up μ μ1 H H1->Sim T K μ1 H1 G1->Den K H1 μ1 d v->M3.run (k d) G1 P Z->R v H1):M3.run m G (fX T K μ H R) (Y.x μ H):=
 M3.aC (M3.bt h) (fun d G1 q v H1 μ1 u S r=>f d G1 v H1 μ1 u S r q) hz
theorem EM{α:Type}{K:PySem.W.Frag}{μ:List Addr}{H:Hp}{m:M3.M Bool}{k:Bool->M3.M α}{G:M3.Hh}{P:α->M3.Hh->Prop}{R:Bool->Hp->Prop}{Z:Nat->M3.Hh->Prop}(h:M3.run (M3.bnd m k) G P Z)(hz:∀c G,Z c G->Y.x μ H c G)
 (f:∀b G1 H1 μ1,Up μ μ1 H H1->Sim T K μ1 H1 G1->M3.run (k b) G1 P Z->R b H1):M3.run m G (pe T K μ H R) (Y.x μ H):=
 M3.aC (M3.bt h) (fun d G1 q H1 μ1 u S=>f d G1 H1 μ1 u S q) hz
structure II (X:Cx) (T:Tab) (pins:List (Addr×Obj)) (σ:L2.St) (μ:List Addr) (H:Hp) (P:List M3.D->M3.Hh->Prop) (sz:Nat) (p C:Addr) (s':Shared):Prop where
 ex:∃ys ws H' μ' G',L2.Inv X pins σ H' s'/\Up μ μ' H H'/\Sim T X.K μ' H' G'/\H' p=some (.lst ws)/\p∉μ'/\aH X.K H' μ' ys ws/\P ys G'/\H' C=none/\H p=none
 ns:∃m,s'.heap.Ns C m
 ge:sz<=C
theorem sZ(B:Blk X x caps scope cl)(hc:X.calm=true)(he:∀s₃ H₃ C fp E',PE (blk X x caps scope cl s₃ H₃ C fp E') elt (tE T X.K Y fe))(ht:∀s₃ H₃ C fp E',PTs (blk X x caps scope cl s₃ H₃ C fp E') ifs (tT T X.K Y ft))
 {pins:List (Addr×Obj)} {σ:L2.St} {H:Hp} {s₂:Shared} {it:Addr} {fp:List Addr} {tn:Nat->Heap->Prop} {J:It} {μ:List Addr} {σ3:M3.St} {G:M3.Hh} {src:M3.Src} {E:Value->Shared->Prop}
 (I:L2.Inv X pins σ H s₂) (Tn:Turn X.prog X.w X.K (.Name x px) J fp it tn) (st:tn 0 s₂.heap) (hf:∀b∈fp,oW X pins H b) (S:Sim T X.K μ H G) (sd:StD X.K H μ σ3 σ) (sr:xr T X.K μ H src J)
 {P:List M3.D->M3.Hh->Prop} (h:M3.run (M3.dH src.ck (fun z=>ft (some z :: M3.fW σ3 (caps.map (·.2)))) (fun z=>fe (some z :: M3.fW σ3 (caps.map (·.2)))) src.xs []) G P (Y.x μ H))
 {RR:Value->Addr->Result->Shared->Prop} (fin:∀p C s',II X T pins σ μ H P s₂.heap.objs.size p C s'->RR (.ref p) C (.ok .next) s'):
 wpAny (model X.prog X.w) X.A (newList []) (fun acc s₃=>wpAny (model X.prog X.w) X.A (newFunctionEnv scope X.env.globals cl [] X.env.qual none .none (some X.env)) (fun cenv s₄=>
  codeAny (model X.prog X.w) X.A (.compStart (.ListComp elt [⟨.Name x px,iter,ifs,0⟩] scope pos) 0 (.ref it) acc {cenv with scope:=relabel scope X.env}) (RR acc cenv.locals) s₄) E s₃) E s₂:=by
 refine wpAny_newObj_type (wpAny_newFunctionEnv B.Fi (by intro y hy;simp at hy) (fun h₁ hns₁ hsb₁=>?_) B.kind)
 have hp0:H s₂.heap.objs.size=none:=I.hok.fresh (qO_ _)
 have I3:L2.Inv X pins σ (upd H s₂.heap.objs.size (.lst [])) {s₂ with heap:=s₂.heap.push {cls:= .type "list",data:= .seq ([]:List Value).toArray},toks:=s₂.toks}:=
  I.laid (t':=s₂.toks) (fun b u e=>Heap.get?_push_of_some _ e) (qO_ _) ⟨qf_ _,[],0,.nil,Heap.get?_push_size _ rfl⟩
 have hpμ:s₂.heap.objs.size∉μ:=fun z=>qe_ _ (S.lt I _ z)
 have S3:=S.same (ji.new (.lst []) hp0)
 have up0:Up μ μ H (upd H s₂.heap.objs.size (.lst [])):=Up.same (ji.new _ hp0)
 have hfl:∀b∈fp,b < s₂.heap.objs.size:=fun b hb=>by
  obtain⟨o,e,_⟩:=Tn.obj 0 _ st b hb
  exact Heap.lt_size e
 have hf3:∀b∈fp,oW X pins (upd H s₂.heap.objs.size (.lst [])) b:=fun b hb=>⟨by rw[aT (Nat.ne_of_lt (hfl b hb))];exact(hf b hb).1,(hf b hb).2⟩
 generalize hpp:s₂.heap.objs.size=p at*
 generalize hH3:upd H p (.lst [])=H₃ at*
 have hpH:H₃ p=some (.lst []):=by rw[<-hH3];exact bi
 generalize hs3:({s₂ with heap:=s₂.heap.push {cls:= .type "list",data:= .seq ([]:List Value).toArray},toks:=s₂.toks}:Shared)=s₃ at*
 have hsz3:s₃.heap.objs.size=p+1:=by rw[<-hs3];show (s₂.heap.push _).objs.size=p+1;rw[Heap.size_push,hpp]
 have hfl3:∀b∈fp,b < s₃.heap.objs.size:=fun b hb=>by rw[hsz3];exact Nat.lt_succ_of_lt (hfl b hb)
 have e3:s₂.heap.push {cls:= .type "list",data:= .seq ([]:List Value).toArray}=s₃.heap:=by rw[<-hs3]
 have keep1:∀b o,s₃.heap.get? b=some o->h₁.get? b=some o:=fun b o e=>(hsb₁.2 b (Nat.ne_of_lt (Heap.lt_size e))).trans (Heap.get?_push_of_some _ e)
 generalize hC:s₃.heap.objs.size=C at*
 have I4:∀E',L2.Inv (blk X x caps scope cl s₃ H₃ C fp E') pins (σ0 σ caps) H₃ {s₃ with heap:=h₁,toks:=s₃.toks+([]:List (Str×Value)).length}:=fun E'=>by
  subst hC
  exact Cc B I3 hf3 hfl3 hns₁ keep1
 have hch:∀b∈fp,(b∈X.ex\/X.s₀.heap.objs.size<=b)/\b≠X.env.locals/\(∀x c,X.env.cells.lookup x=some c->c≠b)/\∀q∈X.pn++pins,q.1≠b:=fun b hb=>⟨(hf b hb).2.2.2.1,(hf b hb).2.1,(hf b hb).2.2.2.2.1,(hf b hb).2.2.2.2.2⟩
 have tn1:tn 0 h₁:=Tn.keep 0 _ _ st fun b hb o e=>keep1 b o (by rw[<-e3];exact Heap.get?_push_of_some _ e)
 have loop:∀s₄:Shared,s₄={s₃ with heap:=h₁,toks:=s₃.toks+([]:List (Str×Value)).length}->
  codeAny (model X.prog X.w) X.A (.compLoop (.ListComp elt [⟨.Name x px,iter,ifs,0⟩] scope pos) 0 (.ref it) (.ref p) (compEnvC scope cl C X.env)) (RR (.ref p) C) s₄:=by
  rintro s₄ rfl
  generalize hE:notedBy (model X.prog X.w) X.A (compEnvC scope cl C X.env) (fun e s'=>RR (.ref p) C (.error e) s')=E'
  refine codeAny_compLoop_tests (fun k s'=>∃(i:Nat),∃ys ws o H' μ' G',L2.Inv (blk X x caps scope cl s₃ H₃ C fp E') pins (o :: caps.map fun q=>(σ[q.2]?).join) H' s'/\tn i s'.heap/\(∀b∈fp,H' b=none)/\i<=src.xs.length/\k=src.xs.length+1 - i/\
   Up μ μ' H H'/\Sim T X.K μ' H' G'/\H' p=some (.lst ws)/\p∉μ'/\aH X.K H' μ' ys ws/\M3.run (M3.dH src.ck (fun z=>ft (some z :: M3.fW σ3 (caps.map (·.2)))) (fun z=>fe (some z :: M3.fW σ3 (caps.map (·.2)))) (src.xs.drop i) ys) G' P (Y.x μ H)) ?_ (src.xs.length+1)
   ⟨0,[],[],none,H₃,μ,G,I4 E',tn1,fun b hb=>(hf3 b hb).1,qf_ _,rfl,up0,S3,hpH,hpμ,rfl,h⟩
  rintro k s' ⟨i,ys,ws,o,H',μ',G',I',tn',fr',hi,rfl,up',S',hpw,hpm,dws,q'⟩
  rw[hE]
  have fpok:∀{H'':Hp},(∀b∈fp,H'' b=none)->∀b∈fp,oW (blk X x caps scope cl s₃ H₃ C fp E') pins H'' b:=fun {H''} hn b hb=>by
   refine⟨hn b hb,?_,fun z=>?_,.inl hb,fun y c e=>(hf b hb).2.2.2.2.1 y c (B.sub y c e),(hf b hb).2.2.2.2.2⟩
   · exact Nat.ne_of_lt (hfl3 b hb)
   · rcases qS_.mp (I3.lL b z)with e |e
     · exact(hf b hb).2.1 e
     · exact(hf b hb).2.2.1 e
  by_cases hlt:i < src.xs.length
  · rw[List.drop_eq_getElem_cons hlt]at q'
    obtain⟨c,q2⟩:=xS q'
    have ex:src.xs[i]? =some src.xs[i]:=qA_ hlt
    generalize src.xs[i]=d at ex q2
    refine wpAny_mono (Tn.item (blk X x caps scope cl s₃ H₃ C fp E') rfl rfl rfl hc i pins s' _ H' E' I' (fpok fr') tn' (sr.go i d μ' H' G' up' S' c ex)) (fun r s1 ⟨u,hr,h1⟩=>?_) fun _ _ z=>z
    subst hr
    have go:wpAny (model X.prog X.w) X.A (letOwnedTupleGo (.Name x px) (.ref it) u >>= fun _=>assign (.Name x px) (compEnvC scope cl C X.env) u) (fun _ s₂=>
     wpAny (model X.prog X.w) X.A (forIn ifs true fun c r=>if r=true then do let ok <-isTrue c (compEnvC scope cl C X.env) (eval c (compEnvC scope cl C X.env));pure (ForInStep.yield ok)else pure (ForInStep.yield r)) (fun ok s₃'=>
      if ok=true then wpAny (model X.prog X.w) X.A (eval elt (compEnvC scope cl C X.env)) (fun y s₄=>
       wpAny (model X.prog X.w) X.A (call (.builtin "list.append") [.ref p,y]) (fun _ s₅=>∃m,m < src.xs.length+1 - i/\∃(i:Nat),∃ys ws o H' μ' G',L2.Inv (blk X x caps scope cl s₃ H₃ C fp E') pins (o :: caps.map fun q=>(σ[q.2]?).join) H' s₅/\tn i s₅.heap/\(∀b∈fp,H' b=none)/\i<=src.xs.length/\m=src.xs.length+1 - i/\
    Up μ μ' H H'/\Sim T X.K μ' H' G'/\H' p=some (.lst ws)/\p∉μ'/\aH X.K H' μ' ys ws/\M3.run (M3.dH src.ck (fun z=>ft (some z :: M3.fW σ3 (caps.map (·.2)))) (fun z=>fe (some z :: M3.fW σ3 (caps.map (·.2)))) (src.xs.drop i) ys) G' P (Y.x μ H)) E' s₄) E' s₃'
     else ∃m,m < src.xs.length+1 - i/\∃(i:Nat),∃ys ws o H' μ' G',L2.Inv (blk X x caps scope cl s₃ H₃ C fp E') pins (o :: caps.map fun q=>(σ[q.2]?).join) H' s₃'/\tn i s₃'.heap/\(∀b∈fp,H' b=none)/\i<=src.xs.length/\m=src.xs.length+1 - i/\
    Up μ μ' H H'/\Sim T X.K μ' H' G'/\H' p=some (.lst ws)/\p∉μ'/\aH X.K H' μ' ys ws/\M3.run (M3.dH src.ck (fun z=>ft (some z :: M3.fW σ3 (caps.map (·.2)))) (fun z=>fe (some z :: M3.fW σ3 (caps.map (·.2)))) (src.xs.drop i) ys) G' P (Y.x μ H)) E' s₂) E' s1:=by
     refine wpAny_bind (thn h1 fun _ s2 ⟨xv,H'',I5,r5,y5,tn5,fr5⟩=>?_)
     obtain⟨sm,dx⟩:=sr.yld i d xv μ' H' H'' G' up' S' c ex y5
     have us:Up μ' μ' H' H'':=Up.same sm
     have up':=up'.trans us
     have S':=S'.same sm
     have hpw:=sm _ _ hpw
     have dws:=aH.up us dws
     have I5':=I5.pinned (fpok fr5) (Tn.obj _ _ tn5)
     have back:∀{σ7:L2.St} {H7:Hp} {s7:Shared},L2.Inv (blk X x caps scope cl s₃ H₃ C fp E') (pins++qE fp s2.heap) σ7 H7 s7->tn (i+1) s7.heap/\∀b∈fp,H7 b=none:=fun {σ7 H7 s7} I7=>by
      refine⟨Tn.keep _ _ _ tn5 fun b hb ob eb=>(I7.pin (b,ob) (qE_ _ (qE_ _ (kb hb eb)))).1,fun b hb=>?_⟩
      obtain⟨ob,eb,_⟩:=Tn.obj _ _ tn5 b hb
      exact(I7.pin (b,ob) (qE_ _ (qE_ _ (kb hb eb)))).2.1
     refine thn (um (X:=blk X x caps scope cl s₃ H₃ C fp E') (i:=0) (pos:=px) B.nd rfl (.inl (lookup_relabel_local B.own)) (.inl (qZ_ rfl)) _ s2 _ _ xv u (fun σ2 H2=>σ2=some xv :: caps.map (fun q=>(σ[q.2]?).join)/\H2=H'') I5' r5 ⟨rfl,rfl⟩) fun _ s3 ⟨σ6,H6,I6,e6,e7⟩=>?_
     subst e6 e7
     have sd6:StD X.K H6 μ' (some d :: M3.fW σ3 (caps.map (·.2))) (some xv :: caps.map fun q=>(σ[q.2]?).join):=((sd.up up').fW caps (some xv)).set 0 dx
     refine thn (ht s₃ H₃ C fp E' _ s3 _ H6 (fun b H8=>∃μ8 G8,Up μ' μ8 H6 H8/\Sim T X.K μ8 H8 G8/\M3.run (Aa src.ck (fun z=>ft (some z :: M3.fW σ3 (caps.map (·.2)))) (fun z=>fe (some z :: M3.fW σ3 (caps.map (·.2)))) d (src.xs.drop (i+1)) ys b) G8 P (Y.x μ H)) I6
      ⟨μ',_,G',S',sd6,EM (Y:=Y) q2 (fun _ _ z=>Y.up up' z) fun b G8 H8 μ8 u8 S8 h8=>⟨μ8,G8,u8,S8,h8⟩⟩) fun b s4 ⟨H8,I8,μ8,G8,u8,S8,h8⟩=>?_
     obtain⟨hpw8,hpm8⟩:=u8.rest p _ hpw hpm
     cases b with
     |false=>
      obtain⟨tn8,fr8⟩:=back I8
      exact⟨_,by omega,i+1,ys,ws,some xv,H8,μ8,G8,I8.lx,tn8,fr8,hlt,rfl,up'.trans u8,S8,hpw8,hpm8,aH.up u8 dws,h8⟩
     |true=>
      refine thn (he s₃ H₃ C fp E' _ s4 _ H8 (fun v H9=>∃y μ9 G9,Up μ8 μ9 H8 H9/\Sim T X.K μ9 H9 G9/\Den X.K H9 μ9 y v/\M3.run (if ys.length < M3.aM then M3.dH src.ck (fun z=>ft (some z :: M3.fW σ3 (caps.map (·.2)))) (fun z=>fe (some z :: M3.fW σ3 (caps.map (·.2)))) (src.xs.drop (i+1)) (ys++[y])else M3.fail) G9 P (Y.x μ H)) I8
       ⟨μ8,_,G8,S8,sd6.up u8,Gk (Y:=Y) h8 (fun _ _ z=>Y.up (up'.trans u8) z) fun y G9 v H9 μ9 u9 S9 d9 h9=>⟨y,μ9,G9,u9,S9,d9,h9⟩⟩) fun yv s5 ⟨v,H9,I9,rv,y,μ9,G9,u9,S9,d9,h9⟩=>?_
      obtain⟨hpw9,hpm9⟩:=u9.rest p _ hpw8 hpm8
      obtain⟨hl,h9⟩:=kG h9
      have dws9:=aH.up (u8.trans u9) dws
      refine thn (sH (X:=blk X x caps scope cl s₃ H₃ C fp E') _ s5 _ H9 (.ref p) [v] (.ref p) [yv] (fun _ H10=>H10=upd H9 p (.lst (ws++[v]))) I9 rfl (.cons rv .nil) ⟨p,ws,v,rfl,rfl,hpw9,by rw[<-dws9.length,<-ek];exact hl,rfl⟩) fun _ s6 ⟨_,H10,I10,_,e10⟩=>?_
      subst e10
      obtain⟨tn10,fr10⟩:=back I10
      have k10:Keeps H9 (upd H9 p (.lst (ws++[v]))):=Keeps.write hpw9 (fun _ z=>nomatch z) (fun _ _ z=>nomatch z)
      exact⟨_,by omega,i+1,ys++[y],ws++[v],some xv,_,μ9,G9,I10.lx,tn10,fr10,hlt,rfl,((up'.trans u8).trans u9).off hp0 hpw9,S9.off hpm9 hpw9,bi,hpm9,aH.mono (List.prefix_refl _) k10 (dws9.append (aH.one d9)),h9⟩
    exact go
  · have e:i=src.xs.length:=by omega
    subst e
    rw[List.drop_length]at q'
    obtain⟨c,q2⟩:=zI q'
    refine wpAny_mono (Tn.done (blk X x caps scope cl s₃ H₃ C fp E') rfl rfl rfl hc _ pins s' _ H' E' I' (fpok fr') tn' (sr.stop μ' H' G' up' S' c)) (fun r s1 ⟨hr,I5⟩=>?_) fun _ _ z=>z
    subst hr
    have I6:L2.Inv X pins σ H' s1:=I3.BI (ch:=fp) I5.os I5.base I5.hok I5.bare hch
    obtain⟨m,hm,_⟩:=I5.loc
    exact fin p C s1 ⟨⟨ys,ws,H',μ',G',I6,up',S',hpw,hpm,dws,q2,I5.free,hp0⟩,⟨m,hm⟩,by rw[hsz3];exact Nat.le_succ _⟩
 exact codeAny_compStart_list (loop _ rfl) (Tn.self _ 0 _ _ _ tn1 (loop _ rfl))
end
theorem Sim.adopt{T:Tab}{K:PySem.W.Frag}{μ:List Addr}{H:Hp}{G:M3.Hh}{p:Addr}{ws:List V}{ys:List M3.D}(S:Sim T K μ H G)(hp:p∉μ)(hw:H p=some (.lst ws))(d:aH K H μ ys ws):Sim T K (μ++[p]) H (G++[.lst ys]):=by
 have pre:μ <+: μ++[p]:=⟨[p],rfl⟩
 have old:∀(n:Nat) a o',(μ++[p])[n]? =some a->(G++[.lst ys])[n]? =some o'->(μ[n]? =some a/\G[n]? =some o')\/(n=G.length/\a=p/\o'= .lst ys):=by
  intro n a o' e1 e2
  by_cases h:n < G.length
  · rw[qK_ (by rw[S.len];exact h)]at e1
    rw[qK_ h]at e2
    exact .inl ⟨e1,e2⟩
  · have hn:n=G.length:=by
     have:=(qB_.mp e2).1
     rw[qN_]at this
     simp at this
     omega
    subst hn
    rw[<-S.len]at e1
    simp at e1 e2
    exact .inr ⟨rfl,e1.symm,e2.symm⟩
 refine⟨by simp [S.len],fun n a o' e1 e2=>?_,fun n m a o1 o2 hnm e1 e2 e3 e4=>?_⟩
 · rcases old n a o' e1 e2 with ⟨h1,h2⟩ |⟨_,rfl,rfl⟩
   · exact(S.obj n a o' h1 h2).mono pre (Keeps.refl _) fun _ z=>z
   · exact⟨ws,hw,aH.mono pre (Keeps.refl _) d⟩
 · rcases old n a o1 e1 e3 with ⟨h1,h2⟩ |⟨rfl,rfl,rfl⟩
   · rcases old m a o2 e2 e4 with ⟨h3,h4⟩ |⟨rfl,rfl,rfl⟩
     · exact S.inj n m a o1 o2 hnm h1 h3 h2 h4
     · exact absurd (qD_ h1) hp
   · rcases old m a o2 e2 e4 with ⟨h3,h4⟩ |⟨h3,_,_⟩
     · exact absurd (qD_ h3) hp
     · exact absurd h3.symm hnm
theorem Up.adopt{μ μ':List Addr}{H H':Hp}{p:Addr}(u:Up μ μ' H H')(hp:H p=none):Up μ (μ'++[p]) H H':=
 ⟨u.pre.trans ⟨[p],rfl⟩,u.keeps,fun b o e n=>⟨(u.rest b o e n).1,fun z=>by
   rcases qG_.mp z with z |z
   · exact(u.rest b o e n).2 z
   · simp at z;subst z;rw[hp]at e;cases e⟩⟩
section
variable{X:Cx}{T:Tab}{Y:EX}{elt iter:Expr}{x:Str}{px:Pos}{ifs:List Expr}{scope:Scope}{cl:List (Str×Addr)}{caps:List (Str×Nat)}{pos:Pos}{fe:M3.E3}{ft:M3.T3}{it:M3.I3}
theorem yF{pins:List (Addr×Obj)}{σ σ':L2.St}{H H':Hp}{s₂ s':Shared}{C:Addr}(I:L2.Inv X pins σ H s₂)(hge:s₂.heap.objs.size<=C)(I':L2.Inv X pins σ' H' s')(hC:H' C=none){h':Heap}(hs:Heap.SameBut C s'.heap h'):L2.Inv X pins σ' H' {s' with heap:=h'}:=by
 refine I'.turned (t':=s'.toks) (it:=C) (fun b o hb e=>(hs.2 b hb).trans e) hC (Nat.ne_of_gt (qd_ I.lt hge)) (.inr (Nat.le_trans I.sz hge)) (fun y c e z=>?_) fun q hq z=>?_
 · obtain⟨v,w⟩:=I.cell y c e
   exact absurd (qd_ w.lt (by rw[z];exact hge)) (qe_ _)
 · exact absurd (qd_ (Heap.lt_size (I.pin q hq).1) (by rw[z];exact hge)) (qe_ _)
theorem m8(B:Blk X x caps scope cl)(hc:X.calm=true)(hi:PI X (.Name x px) iter (tI T X.K Y it))(ht:∀s₃ H₃ C fp E',PTs (blk X x caps scope cl s₃ H₃ C fp E') ifs (tT T X.K Y ft))(he:∀s₃ H₃ C fp E',PE (blk X x caps scope cl s₃ H₃ C fp E') elt (tE T X.K Y fe))
 (hs:∀x,foldedSetIterable iter X.env x=pure x:=by intro _;rfl):PE X (.ListComp elt [⟨.Name x px,iter,ifs,0⟩] scope pos) (tE T X.K Y (M3.gL it (caps.map (·.2)) ft fe)):=by
 intro pins s σ H Q I ⟨μ,σ3,G,S,sd,h⟩
 rw[eval_ListComp]
 refine wpAny_comprehension_free (use:=none) rfl hs B.Co B.kind B.loc (thn (hi pins s σ H (fun J H1=>∃src μ1 G1,Up μ μ1 H H1/\Sim T X.K μ1 H1 G1/\xr T X.K μ1 H1 src J/\
  M3.run (M3.bnd (M3.dH src.ck (fun x=>ft (some x :: M3.fW σ3 (caps.map (·.2)))) (fun x=>fe (some x :: M3.fW σ3 (caps.map (·.2)))) src.xs []) fun ys=>M3.new (.lst ys)) G1 (fX T X.K μ H Q) (Y.x μ1 H1)) I
  ⟨μ,σ3,G,S,sd,eI (M3.bt h) fun src G1 q J H1 μ1 u1 S1 sr=>⟨src,μ1,G1,u1,S1,sr,Y.upE u1 q⟩⟩) fun v s1 h1=>thn h1 fun itv s2 h2=>?_)
 obtain⟨ita,fp,tn,J,H1,e,I2,Tn,st2,f2,src,μ1,G1,u1,S1,sr,q⟩:=h2
 subst e
 refine sZ (RR:=fun acc C=>compPost (model X.prog X.w) X.A X.xe none (EP X pins σ Q) acc C) B hc he ht I2 Tn st2 f2 S1 (sd.up u1) sr (M3.bt q) fun p C s' ce=>?_
 obtain⟨⟨ys,ws,H',μ',G',I',u',S',hpw,hpm,d,hP,hC,hp0⟩,⟨m,hm⟩,hge⟩:=ce
 refine⟨m,hm,fun h' hsb=>⟨.ref p,H',yF I2 hge I' hC hsb,rfl,?_⟩⟩
 refine hP _ H' (μ'++[p]) (u1.trans (u'.adopt hp0)) (S'.adopt hpm hpw d) ⟨p,?_,rfl⟩
 rw[<-S'.len];simp
theorem gP{i:Nat}{y:Str}{py spos:Pos}(B:Blk X x caps scope cl)(hc:X.calm=true)(hN:X.N.Nodup)(hiN:X.N[i]? =some y)(hy:X.env.scope.names.lookup y=some .local)
 (hi:PI X (.Name x px) iter (tI T X.K Y it)) (ht:∀s₃ H₃ C fp E',PTs (blk X x caps scope cl s₃ H₃ C fp E') ifs (tT T X.K Y ft)) (he:∀s₃ H₃ C fp E',PE (blk X x caps scope cl s₃ H₃ C fp E') elt (tE T X.K Y fe))
 (hsw:swapsWith (.ListComp elt [⟨.Name x px,iter,ifs,0⟩] scope pos) (some (.Name y py)) spos.line X.env=pure true:=by rfl)
 (hs:∀x,foldedSetIterable iter X.env x=pure x:=by intro _;rfl):PS X (.Assign [.Name y py] (.ListComp elt [⟨.Name x px,iter,ifs,0⟩] scope pos) spos) (tS T X.K Y (M3.bY i (M3.gL it (caps.map (·.2)) ft fe))):=by
 intro pins s σ H D I ⟨μ,σ3,G,S,sd,h⟩
 rw[exec_Assign_Name_used _ _ _ _ hsw]
 refine wpAny_bind (wpAny_standAt (wpAny_bind ?_))
 show wpAny _ X.A (do let _ <-comprehension (.ListComp elt [⟨.Name x px,iter,ifs,0⟩] scope pos) scope X.env _ (newList []) false (eval iter X.env) (some (assign (.Name y py) X.env))) _ _ s
 refine wpAny_bind (wpAny_mono (wpAny_comprehension_free (use:=some (assign (.Name y py) X.env)) (Q:=fun _ s'=>SP X pins D .next s') rfl hs B.Co B.kind B.loc
  (thn (hi pins s σ H (fun J H1=>∃src μ1 G1,Up μ μ1 H H1/\Sim T X.K μ1 H1 G1/\xr T X.K μ1 H1 src J/\
  M3.run (M3.bnd (M3.dH src.ck (fun x=>ft (some x :: M3.fW σ3 (caps.map (·.2)))) (fun x=>fe (some x :: M3.fW σ3 (caps.map (·.2)))) src.xs []) fun ys=>M3.bnd (M3.new (.lst ys)) fun d=>M3.ret (.next,σ3.set i (some d))) G1 (gm T X.K μ H D) (Y.x μ1 H1)) I
  ⟨μ,σ3,G,S,sd,eI (M3.bt (by
    have h:M3.run (M3.bnd (M3.bnd (it σ3) fun src=>M3.bnd (M3.dH src.ck (fun x=>ft (some x :: M3.fW σ3 (caps.map (·.2)))) (fun x=>fe (some x :: M3.fW σ3 (caps.map (·.2)))) src.xs []) fun ys=>M3.new (.lst ys)) fun d=>M3.ret (.next,σ3.set i (some d))) G (gm T X.K μ H D) (Y.x μ H):=h
    rw[M3.mh]at h
    exact h)) fun src G1 q J H1 μ1 u1 S1 sr=>⟨src,μ1,G1,u1,S1,sr,Y.upE u1 (by rw[M3.mh]at q;exact q)⟩⟩) fun v s1 h1=>thn h1 fun itv s2 h2=>?_)) (fun _ s' hq=>wpAny_pure (wpAny_pure hq)) fun _ _ e=>e)
 obtain⟨ita,fp,tn,J,H1,e,I2,Tn,st2,f2,src,μ1,G1,u1,S1,sr,q⟩:=h2
 subst e
 refine sZ (RR:=fun acc C=>compPost (model X.prog X.w) X.A X.xe (some (assign (.Name y py) X.env)) (fun _ s'=>SP X pins D .next s') acc C) B hc he ht I2 Tn st2 f2 S1 (sd.up u1) sr (M3.bt q) fun p C s' ce=>?_
 obtain⟨⟨ys,ws,H',μ',G',I',u',S',hpw,hpm,d,hP,hC,hp0⟩,⟨m,hm⟩,hge⟩:=ce
 show wpAny _ X.A (assign (.Name y py) X.env (.ref p)) _ _ _
 refine wpAny_assign_Name (tm I' hN hiN (.inl hy) (v:= .ref p) rfl (fun s3 I3 ⟨a,hsa,hal⟩=>?_) (.inr hy))
 have hCa:C≠a:=by
  rintro rfl
  rcases hal with z |z
  · exact absurd I2.lt (by rw[<-z];exact Nat.not_lt.mpr hge)
  · obtain⟨v,w⟩:=I2.cell _ _ z
    exact absurd (qd_ w.lt hge) (qe_ _)
 refine⟨m,hm.sameBut hsa hCa,fun h' hsb=>⟨_,H',yF I2 hge I3 hC hsb,?_⟩⟩
 have Sa:=S'.adopt hpm hpw d
 have ua:=(u1.trans (u'.adopt hp0))
 have dn:Den X.K H' (μ'++[p]) (.ref G'.length) (.ref p):=⟨p,by rw[<-S'.len];simp,rfl⟩
 exact hP _ H' (μ'++[p]) ua Sa ((sd.up ua).set i dn)
theorem Blk.nil(hkind:scope.kind= .function)(hno:scope.names.all (fun y=>decide (y.2= .local))=true)(hloc:∀y∈scope.names,scope.names.lookup y.1=some .local)(hown:scope.names.lookup x=some .local):Blk X x [] scope []:=by
 have hl:∀y∈scope.names,y.2= .local:=fun y hy=>of_decide_eq_true (List.all_eq_true.mp hno y hy)
 refine⟨hkind,fun y hy z=>?_,fun y hy _=>hloc y hy,hown,closureFor_none fun y hy z=>?_,(by simp),(fun y c e=>by cases e),(fun y hy=>?_),rfl,(fun j y i e=>by simp at e)⟩
 · rw[hl y hy]at z;cases z
 · rw[hl y hy]at z;cases z
 · exfalso
   have key:∀(l:List (Str×NameKind)),(∀z∈l,z.2= .local)->∀k,(l.map fun(n,k)=>if (k==NameKind.free&&X.env.scope.kind== .function&&X.env.kindOf n==some .cell)then (n,NameKind.cell)else (n,k)).lookup y=some k->k= .local:=by
    intro l
    induction l with
    |nil=>intro _ k e;cases e
    |cons z r ih=>
     intro hz k e
     obtain⟨n,kk⟩:=z
     have hk:kk= .local:=hz (n,kk) qI_
     subst hk
     rw[List.map_cons]at e
     simp only[show (NameKind.local==NameKind.free)=false from rfl,Bool.false_and,Bool.false_eq_true,if_false,List.lookup_cons]at e
     cases q:y==n with
     |true=>rw[q]at e;cases e;rfl
     |false=>rw[q]at e;exact ih (fun w hw=>hz w (qR_ _ hw)) k e
   rcases hy with z |z
   · exact absurd (key _ hl _ z) (by decide)
   · exact absurd (key _ hl _ z) (by decide)
end
def DR(K:PySem.W.Frag)(mg:Str->Option Value)(x:Str)(d:M3.D):Prop:=∃v u,mg x=some u/\RelV v u/\∀H μ,Den K H μ d v
section
variable{X:Cx}{T:Tab}{Y:EX}{a b e:Expr}{fa fb:M3.E3}{pos:Pos}
theorem Bz{x:Str}{d:M3.D}(h:DR X.K X.mg x d)(hg:Gl X x:=by rfl)(hd:(x==("__debug__":Str))=false:=by decide):PE X (.Name x pos) (tE T X.K Y (M3.eC d)):=by
 obtain⟨v,u,h1,h2,h3⟩:=h
 exact ow (Dd hg h1 h2 hd) h3
theorem iw(hu:X.A.units+64 < cLine):OpR X (compareOp .Eq) (si T X.K false)/\Br2 T X.K Y M3.oEq (si T X.K false):=Fm (by omega)
theorem kE(hu:X.A.units+64 < cLine):OpR X (compareOp .NotEq) (si T X.K true)/\Br2 T X.K Y M3.oNe (si T X.K true):=Et (by omega)
theorem DO(hu:X.A.units+64 < cLine):OpR X (compareOp .In) (uK T X.K false)/\Br2 T X.K Y M3.oIn (uK T X.K false):=GA (by omega)
theorem Ap(hu:X.A.units+64 < cLine):OpR X (compareOp .NotIn) (uK T X.K true)/\Br2 T X.K Y M3.oY (uK T X.K true):=yX (by omega)
theorem rN(hu:X.A.units+64 < cLine):OpR X (compareOp .Lt) (C7 X.K)/\Br2 T X.K Y M3.oLt (C7 X.K):=Gj (by omega)
theorem sS(hu:X.A.units+64 < cLine):OpR X (compareOp .Gt) (Ds X.K)/\Br2 T X.K Y M3.oGt (Ds X.K):=Eu (by omega)
theorem Bc(hu:X.A.units+64 < cLine):OpR X (compareOp .GtE) (rI0 fun i j=>.bl (decide (j<=i)))/\Br2 T X.K Y M3.oGe (rI0 fun i j=>.bl (decide (j<=i))):=Fx
theorem bw(hu:X.A.units+64 < cLine)(ha:PE X a (tE T X.K Y fa))(hb:PE X b (tE T X.K Y fb))(hs:uX b:=by intro _ _;rfl):PE X (.Subscript a b pos) (tE T X.K Y (M3.eOp M3.oIx fa fb)):=IY (by omega) ha hb hs
theorem yI{K:PySem.W.Frag}{a:Addr}{od:Option Addr}{its:Array Value}{n:Nat}{sl:Array (Option Value)}{ds:List M3.D}{vs:List V}(l:K.lookup a=some ⟨.type "tuple",od,.seq its n,sl⟩)(hz:its.size<=sizeLine)(r:Vals vs its.toList)(d:∀H μ,aH K H μ ds vs):∀H μ,Den K H μ (.tup ds) (.ref a):=
 fun H μ=>⟨a,vs,rfl,.inr ⟨_,its,n,l,rfl,rfl,hz,r⟩,d H μ⟩
theorem EG{T:Tab}{K:PySem.W.Frag}{f:List M3.D->M3.M M3.D}{n:Nat}(h:∀ns:List Int,ns.length<=n->M3.run (f [.ref 0]) [.frz (ns.map M3.D.int)] (fun d _=>d= .bl true) fun _ _=>False)
 {H:Hp} {a:Addr} {ns:List Int} (hl:ns.length<=n) (hO:BB H) (sq:SqL K H a (ns.map V.int)):sp3 T K 1 f [.ref a] H (fun v _=>v= .bl true) fun _ _ _=>False:=by
 have sf:SqF K H a (ns.map V.int):=by
  rcases sq with (sq |⟨o,sq⟩) |sq
  · rcases hO a with z |⟨o,xs,z⟩
    · rw[z]at sq;cases sq
    · rw[z]at sq;cases sq
  · exact .inl ⟨o,sq⟩
  · exact .inr sq
 refine⟨rfl,[a],[.ref 0],[.frz (ns.map M3.D.int)],⟨rfl,fun k b o e1 e2=>?_,fun k m b o o' hkm e1 e2 e3 e4=>?_⟩,⟨.ref a,[],rfl,⟨a,rfl,rfl⟩,rfl⟩,M3.aC (h ns hl) (fun d G' e v H' μ' u S r=>?_) fun _ _ z=>z.elim⟩
 · cases k with
   |zero=>cases e1;cases e2;exact⟨_,sf,aH.yw⟩
   |succ k=>simp at e1
 · cases k with
   |zero=>cases e3;exact .inl rfl
   |succ k=>simp at e1
 · subst e;exact r
end
structure fg (T:Tab) (K:PySem.W.Frag) (f:Nat):Prop where
 cl:∀C Ca,C < 1000->T.cls C=some Ca->Cls K Ca/\kC K Ca (T.nm f)
 inj:∀g,T.nm g=T.nm f->g=f
abbrev oy(T:Tab)(K:PySem.W.Frag)(H:Hp)(μ:List Addr):List (Nat×M3.D)->List (Str×V)->Prop:=Paired (fun(p:Nat×M3.D) (q:Str×V)=>q.1=T.nm p.1/\Den K H μ p.2 q.2)
section
variable{X:Cx}{T:Tab}{Y:EX}{a b e o:Expr}{es:List Expr}{fa fb:M3.E3}{f3:M3.A3}{pos pos' p apos:Pos}
theorem oy.get{K:PySem.W.Frag}{H:Hp}{μ:List Addr}{f:Nat}(hf:∀g,T.nm g=T.nm f->g=f):∀{fs:List (Nat×M3.D)} {ws:List (Str×V)} {d:M3.D},oy T K H μ fs ws->fs.lookup f=some d->∃v,ws.lookup (T.nm f)=some v/\Den K H μ d v
 |_,_,_,.nil,e=>by cases e
 |(g,x) :: fs,(s,w) :: ws,d,.cons ⟨h1,h2⟩ t,e=>by
  have h1:s=T.nm g:=h1
  subst h1
  by_cases h:g=f
  · subst h
    simp at e
    subst e
    exact⟨w,by simp,h2⟩
  · have hn:¬T.nm f=T.nm g:=fun z=>h (hf g z.symm)
    have h':(f==g)=false:=by simpa using fun z=>h (Eq.symm z)
    have hn':(T.nm f==T.nm g)=false:=by simpa using hn
    rw[List.lookup_cons,h']at e
    rw[List.lookup_cons,hn']
    exact oy.get hf t e
theorem oy.none{K:PySem.W.Frag}{H:Hp}{μ:List Addr}{m:Str}(hm:∀g,T.nm g≠m):∀{fs:List (Nat×M3.D)} {ws:List (Str×V)},oy T K H μ fs ws->ws.lookup m=Option.none
 |_,_,.nil=>rfl
 |(g,x) :: fs,(s,w) :: ws,.cons ⟨h1,h2⟩ t=>by
  have h1:s=T.nm g:=h1
  subst h1
  have hn':(m==T.nm g)=false:=by simpa using fun z=>hm g (Eq.symm z)
  rw[List.lookup_cons,hn']
  exact oy.none hm t
theorem oy.put{K:PySem.W.Frag}{H:Hp}{μ:List Addr}{f:Nat}(hf:∀g,T.nm g=T.nm f->g=f){d:M3.D}{v:V}(dv:Den K H μ d v):∀{fs:List (Nat×M3.D)} {ws:List (Str×V)},oy T K H μ fs ws->oy T K H μ (M3.putN f d fs) (jQ (T.nm f) v ws)
 |_,_,.nil=>.cons ⟨rfl,dv⟩ .nil
 |(g,x) :: fs,(s,w) :: ws,.cons ⟨h1,h2⟩ t=>by
  have h1:s=T.nm g:=h1
  subst h1
  unfold M3.putN jQ
  by_cases h:g=f
  · subst h
    rw[if_pos rfl,if_pos rfl]
    exact .cons ⟨rfl,dv⟩ t
  · rw[if_neg h,if_neg fun z=>h (hf g z)]
    exact .cons ⟨rfl,h2⟩ (oy.put hf dv t)
theorem aQ{f:Nat}{n:Str}(F:fg T X.K f)(he:PE X e (tE T X.K Y fa))(hn:n=T.nm f:=by rfl)(hb:attributeBase e n X.env (eval e X.env)=eval e X.env:=by rfl):PE X (.Attribute e n pos) (tE T X.K Y (M3.bB fa f)):=by
 subst hn
 refine PE.of (E7 he hb) fun σ H Q ⟨μ,σ3,G,S,sd,h⟩=>⟨μ,σ3,G,S,sd,cQ h fun d G1 v H1 μ1 u1 S1 d1 h1=>?_⟩
 unfold M3.run M3.AX at h1
 cases d with
 |ref k=>
  dsimp only at h1
  obtain⟨a,ea,rfl⟩:=d1
  cases q:G1[k]? with
  |none=>rw[q]at h1;exact False.elim h1
  |some ob=>
   have od:=S1.obj k a ob ea q
   rw[q]at h1
   cases ob with
   |ins C fs=>
    dsimp only at h1
    obtain⟨Ca,dx,ws,hc,e1,r⟩:=od
    by_cases hC:C < 1000
    rotate_left
    · rw[if_neg hC]at h1;exact False.elim h1
    rw[if_pos hC]at h1
    cases ql:fs.lookup f with
    |none=>rw[ql]at h1;exact False.elim h1
    |some d=>
     rw[ql]at h1
     obtain⟨w,e2,dw⟩:=oy.get F.inj r ql
     exact⟨a,Ca,dx,ws,w,rfl,e1,(F.cl C Ca hC hc).1,(F.cl C Ca hC hc).2,e2,h1 w H1 μ1 u1 S1 dw⟩
   |_=>exact False.elim h1
 |_=>exact False.elim h1
theorem cD{f:Nat}{n:Str}(F:fg T X.K f)(ho:PE X o (tE T X.K Y fa))(he:PE X e (tE T X.K Y fb))(hn:n=T.nm f:=by rfl)(hs:swapsWith e (some (.Attribute o n pos')) pos.line X.env=pure false:=by rfl):PS X (.Assign [.Attribute o n pos'] e pos) (tS T X.K Y (M3.cm fa f fb)):=by
 subst hn
 refine PS.of (Er ho he hs) fun D σ H ⟨μ,σ3,G,S,sd,h⟩=>⟨μ,σ3,G,S,sd,cQ h fun y G1 w H1 μ1 u1 S1 d1 h1=>⟨μ1,σ3,G1,S1,sd.up u1,cQ h1 fun x G2 v H2 μ2 u2 S2 d2 h2=>?_⟩⟩
 have h2:=M3.bt h2
 unfold M3.run M3.zN at h2
 cases x with
 |ref k=>
  dsimp only at h2
  obtain⟨a,ea,rfl⟩:=d2
  cases q:G2[k]? with
  |none=>rw[q]at h2;exact False.elim h2
  |some ob=>
   have od:=S2.obj k a ob ea q
   rw[q]at h2
   cases ob with
   |ins C fs=>
    dsimp only at h2
    obtain⟨Ca,dx,ws,hc,e1,r⟩:=od
    by_cases c:C < 1000/\fs.length < 1000
    · rw[if_pos c]at h2
      have up:=Up.set S2 (.ins Ca dx (jQ (T.nm f) w ws)) ea q rfl
      refine⟨a,Ca,dx,ws,rfl,e1,(F.cl C Ca c.1 hc).1,(F.cl C Ca c.1 hc).2,by rw[<-Paired.length r];exact c.2,?_⟩
      have r2:oy T X.K (upd H2 a (.ins Ca dx (jQ (T.nm f) w ws))) μ2 fs ws:=Paired.imp' (fun _ _ z=>⟨z.1,Den.up up z.2⟩) r
      exact h2 _ _ μ2 ((u1.trans u2).trans up) (S2.set ea q rfl rfl ⟨Ca,dx,_,hc,bi,oy.put F.inj (Den.up (u2.trans up) d1) r2⟩) (sd.up ((u1.trans u2).trans up))
    · rw[if_neg c]at h2;exact False.elim h2
   |_=>exact False.elim h2
 |_=>exact False.elim h2
structure Mt3 (P:Program) (w:World) (K:PySem.W.Frag) (mg:Str->Option Value) (base:Heap) (CX:CXT) (T:Tab) (k:Nat) (C:Nat) (m:Str) (n:Nat) (f:List M3.D->M3.M M3.D):Prop where
 ex:∃Ca fa fd ps,T.cls C=some Ca/\Cls K Ca/\Meth K Ca m fa/\bo P w K mg base CX k fa fd ps (sp3 T K n f)/\Binds K fd ps []
 no:∀g,T.nm g≠m
 len:∀ds G (Q:M3.D->M3.Hh->Prop) (Z:Nat->M3.Hh->Prop),M3.run (f ds) G Q Z->ds.length=n
theorem Eo{Z:Nat->M3.Hh->Prop}{C:Nat}{x:M3.D}{G:M3.Hh}{P:Unit->M3.Hh->Prop}(h:M3.run (M3.isC C x) G P Z):∃k fs,x= .ref k/\G[k]? =some (.ins C fs)/\P () G:=by
 unfold M3.run M3.isC at h
 cases x with
 |ref k=>
  dsimp only at h
  cases q:G[k]? with
  |none=>rw[q]at h;exact False.elim h
  |some ob=>
   rw[q]at h
   cases ob with
   |ins C' fs=>
    dsimp only at h
    by_cases c:C'=C
    · rw[if_pos c]at h;subst c;exact⟨k,fs,rfl,q,h⟩
    · rw[if_neg c]at h;exact False.elim h
   |_=>exact False.elim h
 |_=>exact False.elim h
theorem xK{CX:CXT}{E:XK}{P:Program}{w:World}{K:PySem.W.Frag}{mg:Str->Option Value}{base:Heap}{k n:Nat}{C:Nat}{Ca:Addr}{m:Str}{g:List M3.D->M3.M M3.D}(hc:T.cls C=some Ca)(no:∀g,T.nm g≠m)(len:∀ds G (Q:M3.D->M3.Hh->Prop) (Z:Nat->M3.Hh->Prop),M3.run (g ds) G Q Z->ds.length=n)
 {σ:L2.St} {H:Hp} {Q:VK} (h:tE T K (EX.of T K E) (M3.aZ C g fa f3) σ H Q):BS Ca m (sp3 T K n g) [] E (tE T K (EX.of T K E) fa) (tA T K (EX.of T K E) f3) σ H Q:=by
 obtain⟨μ,σ3,G,S,sd,h⟩:=h
 refine⟨μ,σ3,G,S,sd,cQ h fun x G1 v H1 μ1 u1 S1 d1 h1=>?_⟩
 obtain⟨i,fs,rfl,q,h2⟩:=Eo (M3.bt h1)
 obtain⟨a,ea,rfl⟩:=id d1
 obtain⟨Ca',dx,ws,hc',e1,r⟩:=S1.obj i a _ ea q
 rw[hc]at hc'
 cases hc'
 refine⟨a,dx,ws,rfl,e1,oy.none no r,μ1,σ3,G1,S1,sd.up u1,pJ h2 fun ds G2 vs H2 μ2 u2 S2 d2 h3=>?_⟩
 rw[qY_]
 have dd:aH K H2 μ2 (.ref i :: ds) (.ref a :: vs):=⟨_,_,rfl,Den.up u2 d1,d2⟩
 exact⟨by rw[<-dd.length];exact len _ _ _ _ h3,μ2,_,G2,S2,dd,eI h3 fun _ _ z=>z.up (u1.trans u2)⟩
theorem bj{CX:CXT}{E:XK}{k n:Nat}{C:Nat}{m:Str}{g:List M3.D->M3.M M3.D}{pl:Sem Bool}(F:Mt3 X.prog X.w X.K X.mg X.base CX T k C m n g)(hr:fM k X.A)(hx:gu CX X E)(ho:PE X o (tE T X.K (EX.of T X.K E) fa))(ha:PA X (e :: es) (tA T X.K (EX.of T X.K E) f3))
 (hst:starEach (e :: es) X.env=(false,eval e X.env) :: starEach es X.env:=by rfl) (hpl:(backTo pos (starEach es X.env)).any (·.1)=false:=by rfl)
 (ht:eval (.Call (.Attribute o m apos) (e :: es) [] pos) X.env=(do
   let ov <-eval o X.env
   standAt apos.atName
   let (f,first) <-holding [ov] (getMethod ov m pl)
   callWith pos f first (backTo pos (starEach (e :: es) X.env)) (backToKw pos (keywordEach [] X.env))):=by rfl):
 PE X (.Call (.Attribute o m apos) (e :: es) [] pos) (tE T X.K (EX.of T X.K E) (M3.aZ C g fa f3)):=by
 obtain⟨Ca,fa',fd,ps,hc,cl,hm,G,hb⟩:=F.ex
 exact PE.of (Dg (pl:=pl) ho cl hm G hr hb .nil hx ha hst hpl ht) fun _ _ _ h=>xK (CX:=CX) (P:=X.prog) (w:=X.w) (mg:=X.mg) (base:=X.base) (k:=k) hc F.no F.len h
theorem fJ{CX:CXT}{E:XK}{k n:Nat}{C:Nat}{m:Str}{g:List M3.D->M3.M M3.D}{pl:Sem Bool}(F:Mt3 X.prog X.w X.K X.mg X.base CX T k C m n g)(hr:fM k X.A)(hx:gu CX X E)(ho:PE X o (tE T X.K (EX.of T X.K E) fa))
 (ht:eval (.Call (.Attribute o m apos) [] [] pos) X.env=(do
   let ov <-eval o X.env
   standAt apos.atName
   let (f,first) <-holding [ov] (getMethod ov m pl)
   callWith pos f first (backTo pos (starEach [] X.env)) (backToKw pos (keywordEach [] X.env))):=by rfl):
 PE X (.Call (.Attribute o m apos) [] [] pos) (tE T X.K (EX.of T X.K E) (M3.aZ C g fa M3.ax)):=by
 obtain⟨Ca,fa',fd,ps,hc,cl,hm,G,hb⟩:=F.ex
 refine PE.of (Al (pl:=pl) ho cl hm G hr hb .nil hx ht) fun σ H Q h=>?_
 obtain⟨μ,σ3,G,S,sd,h⟩:=xK (f3:=M3.ax) (CX:=CX) (P:=X.prog) (w:=X.w) (mg:=X.mg) (base:=X.base) (k:=k) hc F.no F.len h
 refine⟨μ,σ3,G,S,sd,eI h fun d G1 q v H1 μ1 u1 S1 d1=>?_⟩
 obtain⟨a,dx,fs,e1,e2,e3,μ2,σ4,G2,S2,sd2,h2⟩:=q v H1 μ1 u1 S1 d1
 exact⟨a,dx,fs,e1,e2,e3,h2 [] H1 μ2 (Up.refl _ _) S2 rfl⟩
structure Ct3 (P:Program) (w:World) (K:PySem.W.Frag) (mg:Str->Option Value) (base:Heap) (CX:CXT) (T:Tab) (k:Nat) (x:Str) (C:Nat) (n:Nat) (f:List M3.D->M3.M M3.D):Prop where
 ex:∃Ca fa fd ps,T.cls C=some Ca/\Mk K Ca fa/\mg x=some (.ref Ca)/\bo P w K mg base CX k fa fd ps (sp3 T K n f)/\Binds K fd ps []
 len:∀ds G (Q:M3.D->M3.Hh->Prop) (Z:Nat->M3.Hh->Prop),M3.run (f ds) G Q Z->ds.length=n
theorem AM{E:XK}{K:PySem.W.Frag}{n:Nat}{C:Nat}{Ca:Addr}{g:List M3.D->M3.M M3.D}(hc:T.cls C=some Ca)(len:∀ds G (Q:M3.D->M3.Hh->Prop) (Z:Nat->M3.Hh->Prop),M3.run (g ds) G Q Z->ds.length=n)
 {H1:Hp} {μ μ1:List Addr} {H:Hp} {G1:M3.Hh} {ds:List M3.D} {vs:List V} {Q:VK} (u1:Up μ μ1 H H1) (S1:Sim T K μ1 H1 G1) (d1:aH K H1 μ1 ds vs) (h:M3.run (M3.bnd (M3.new (.ins C [])) fun x=>M3.bnd (g (x :: ds)) fun r=>M3.bnd (M3.yN r) fun _=>M3.ret x) G1 (fX T K μ H Q) ((EX.of T K E).x μ1 H1)):
 ∀x dx,H1 x=none->H1 dx=none->dx≠x->sp3 T K n g (.ref x :: vs) (upd (upd H1 dx (.own x)) x (.ins Ca dx [])) (fun v H2=>v= .non/\Q (.ref x) H2) E:=by
 intro x dx hx hdx hne
 have hx2:upd H1 dx (.own x) x=none:=by rw[aT (Ne.symm hne)];exact hx
 have ua:Up μ1 μ1 H1 (upd H1 dx (.own x)):=Up.same (ji.new _ hdx)
 have Sa:=S1.same (ji.new (.own x) hdx)
 have ub:=Up.new (μ:=μ1) (.ins Ca dx []) hx2
 have Sb:=Sa.new (o:= .ins C []) hx2 rfl ⟨Ca,dx,[],hc,bi,.nil⟩
 have uab:=ua.trans ub
 have dx':Den K (upd (upd H1 dx (.own x)) x (.ins Ca dx [])) (μ1++[x]) (.ref G1.length) (.ref x):=⟨x,by rw[<-S1.len];simp,rfl⟩
 have dd:aH K (upd (upd H1 dx (.own x)) x (.ins Ca dx [])) (μ1++[x]) (.ref G1.length :: ds) (.ref x :: vs):=⟨_,_,rfl,dx',aH.up uab d1⟩
 have h2:M3.run (M3.bnd (g (.ref G1.length :: ds)) fun r=>M3.bnd (M3.yN r) fun _=>M3.ret (M3.D.ref G1.length)) (G1++[.ins C []]) (fX T K μ H Q) ((EX.of T K E).x μ1 H1):=h
 refine⟨by rw[<-dd.length];exact len _ _ _ _ (M3.bt h2),_,_,_,Sb,dd,M3.aC (M3.bt h2) (fun r G2 q v H2 μ2 u2 S2 dr=>?_) fun c G2 z=>(EX.of T K E).up uab z⟩
 cases r with
 |non=>exact⟨dr,q _ H2 μ2 ((u1.trans uab).trans u2) S2 (Den.up u2 dx')⟩
 |_=>exact False.elim q
theorem u5{CX:CXT}{E:XK}{x:Str}{k n:Nat}{C:Nat}{g:List M3.D->M3.M M3.D}(F:Ct3 X.prog X.w X.K X.mg X.base CX T k x C n g)(hr:fM (k+1) X.A)(hx:gu CX X E)(ha:PA X (e :: es) (tA T X.K (EX.of T X.K E) f3))(hg:Gl X x:=by rfl)(hdb:(x==("__debug__":Str))=false:=by decide)
 (he:starEach (e :: es) X.env=(false,eval e X.env) :: starEach es X.env:=by rfl) (hpl:(backTo pos (starEach es X.env)).any (·.1)=false:=by rfl):PE X (.Call (.Name x p) (e :: es) [] pos) (tE T X.K (EX.of T X.K E) (M3.oA C g f3)):=by
 obtain⟨Ca,fa',fd,ps,hc,M,hm,G,hb⟩:=F.ex
 refine PE.of (Dn M G hr hg hm hb .nil hx ha hdb he hpl) fun σ H Q ⟨μ,σ3,G,S,sd,h⟩=>⟨μ,σ3,G,S,sd,pJ h fun ds G1 vs H1 μ1 u1 S1 d1 h1=>?_⟩
 rw[qY_]
 exact AM hc F.len u1 S1 d1 h1
theorem Dh{CX:CXT}{E:XK}{x:Str}{k n:Nat}{C:Nat}{g:List M3.D->M3.M M3.D}(F:Ct3 X.prog X.w X.K X.mg X.base CX T k x C n g)(hr:fM (k+1) X.A)(hx:gu CX X E)(hg:Gl X x:=by rfl)(hdb:(x==("__debug__":Str))=false:=by decide):
 PE X (.Call (.Name x p) [] [] pos) (tE T X.K (EX.of T X.K E) (M3.oA C g M3.ax)):=by
 obtain⟨Ca,fa',fd,ps,hc,M,hm,G,hb⟩:=F.ex
 refine PE.of (Bn M G hr hg hm hb .nil hx hdb) fun σ H Q ⟨μ,σ3,G,S,sd,h⟩=>?_
 exact AM (ds:=[]) (vs:=[]) hc F.len (Up.refl _ _) S rfl h
end
section
variable{X:Cx}{T:Tab}{Y:EX}{a b e o i:Expr}{es:List Expr}{fa fb fc:M3.E3}{ft:M3.T3}{f3:M3.A3}{pos pos' p p2 apos:Pos}
abbrev jU{κ:Type}(K:PySem.W.Frag)(H:Hp)(μ:List Addr):List (κ×M3.D)->List (κ×V)->Prop:=Paired (fun(p:κ×M3.D) (q:κ×V)=>p.1=q.1/\Den K H μ p.2 q.2)
theorem jU.any{κ:Type} [DecidableEq κ]{K:PySem.W.Frag}{H:Hp}{μ:List Addr}(k:κ):∀{kvs:List (κ×M3.D)} {ws:List (κ×V)},jU K H μ kvs ws->(kvs.any fun kv=>decide (kv.1=k))=ws.any fun kv=>decide (kv.1=k)
 |_,_,.nil=>rfl
 |(k1,d) :: kvs,(k2,v) :: ws,.cons ⟨h1,h2⟩ t=>by
  cases (show k1=k2 from h1)
  rw[List.any_cons,List.any_cons,jU.any k t]
theorem jU.map{κ:Type} [DecidableEq κ]{K:PySem.W.Frag}{H:Hp}{μ:List Addr}(k:κ){d:M3.D}{v:V}(dv:Den K H μ d v):∀{kvs:List (κ×M3.D)} {ws:List (κ×V)},jU K H μ kvs ws->jU K H μ (kvs.map fun kv=>if kv.1=k then (kv.1,d)else kv) (ws.map fun kv=>if kv.1=k then (kv.1,v)else kv)
 |_,_,.nil=>.nil
 |(k1,x) :: kvs,(k2,w) :: ws,.cons ⟨h1,h2⟩ t=>by
  cases (show k1=k2 from h1)
  rw[List.map_cons,List.map_cons]
  by_cases h:k1=k
  · rw[if_pos h,if_pos h];exact .cons ⟨rfl,dv⟩ (jU.map k dv t)
  · rw[if_neg h,if_neg h];exact .cons ⟨rfl,h2⟩ (jU.map k dv t)
theorem jU.snoc{κ:Type}{K:PySem.W.Frag}{H:Hp}{μ:List Addr}(k:κ){d:M3.D}{v:V}(dv:Den K H μ d v):∀{kvs:List (κ×M3.D)} {ws:List (κ×V)},jU K H μ kvs ws->jU K H μ (kvs++[(k,d)]) (ws++[(k,v)])
 |_,_,.nil=>.cons ⟨rfl,dv⟩ .nil
 |_,_,.cons h t=>.cons h (jU.snoc k dv t)
theorem jU.put{κ:Type} [DecidableEq κ]{K:PySem.W.Frag}{H:Hp}{μ:List Addr}(k:κ){d:M3.D}{v:V}(dv:Den K H μ d v){kvs:List (κ×M3.D)}{ws:List (κ×V)}(r:jU K H μ kvs ws):jU K H μ (M3.put kvs k d) (putK ws k v):=by
 unfold M3.put putK
 rw[jU.any k r]
 by_cases h:(ws.any fun kv=>decide (kv.1=k))=true
 · rw[if_pos h,if_pos h];exact jU.map k dv r
 · rw[if_neg h,if_neg h];exact jU.snoc k dv r
theorem ue:PE X (.Dict [] [] pos) (tE T X.K Y M3.rh):=by
 refine PE.of BD fun σ H Q ⟨μ,σ3,G,S,sd,h⟩ q hq=>?_
 have u2:=Up.new (μ:=μ) (.dK []) hq
 refine h _ _ (μ++[q]) u2 (S.new hq rfl ⟨[],bi,.nil⟩) ⟨q,?_,rfl⟩
 rw[<-S.len];simp
theorem set_dict(hu:X.A.units+64 < cLine):vt X (fun o i v H Q=>∃a H',o= .ref a/\Ba H a i v H'/\Q H'):=by
 intro pins s σ H o i v ov iv u Q I ro ri rv h
 obtain⟨a,H',rfl,g,q⟩:=h
 cases (show ov=Value.ref a from ro)
 exact zi (by omega) I g ri rv fun s' I'=>⟨H',I',q⟩
theorem vt.or{t t':Ci}(h:vt X t)(h':vt X t'):vt X (fun o i v H Q=>t o i v H Q\/t' o i v H Q):=by
 intro pins s σ H o i v ov iv u Q I ro ri rv q
 rcases q with q |q
 · exact h pins s σ H o i v ov iv u Q I ro ri rv q
 · exact h' pins s σ H o i v ov iv u Q I ro ri rv q
theorem aH.set{K:PySem.W.Frag}{H:Hp}{μ:List Addr}{d:M3.D}{v:V}(dv:Den K H μ d v):∀{ds:List M3.D} {vs:List V} (j:Nat),aH K H μ ds vs->aH K H μ (ds.set j d) (vs.set j v)
 | [],_,_,h=>by cases (show _=[]from h);rfl
 |_ :: _,_,0,⟨w,r,e,h,t⟩=>by subst e;exact⟨v,r,rfl,dv,t⟩
 |_ :: _,_,j+1,⟨w,r,e,h,t⟩=>by subst e;exact⟨w,r.set j v,rfl,h,aH.set dv j t⟩
theorem DJ(hu:X.A.units+64 < cLine)(ho:PE X o (tE T X.K Y fa))(hi:PE X i (tE T X.K Y fb))(he:PE X e (tE T X.K Y fc))
 (ha:∀v,assign (.Subscript o i pos') X.env v=(do
   let ov <-holding [v] (eval o X.env)
   let iv <-holding [v,ov] (eval i X.env)
   standAt pos'
   holding [v,ov,iv] (setItem ov iv v)
   release [v,ov,iv] []):=by intro _;rfl)
 (hs:swapsWithSole [.Subscript o i pos'] e pos.line X.env=pure false:=by rfl) (hw:swappedStores [.Subscript o i pos'] e X.env=pure none:=by rfl)
 (h1:(assignEach [.Subscript o i pos'] X.env).map (·.2)=[assign (.Subscript o i pos') X.env]:=by rfl):PS X (.Assign [.Subscript o i pos'] e pos) (tS T X.K Y (M3.yB fa fb fc)):=by
 refine PS.of (Ag he (Ei ho hi (vt.or set_list (set_dict hu)) ha) hs hw h1) fun D σ H ⟨μ,σ3,G,S,sd,h⟩=>⟨μ,σ3,G,S,sd,cQ h fun w G1 wv H1 μ1 u1 S1 d1 h1=>?_⟩
 refine⟨μ1,σ3,G1,S1,sd.up u1,cQ h1 fun x G2 xv H2 μ2 u2 S2 d2 h2=>⟨μ2,σ3,G2,S2,sd.up (u1.trans u2),cQ h2 fun y G3 yv H3 μ3 u3 S3 d3 h3=>?_⟩⟩
 have h3:=M3.bt h3
 have dw:=Den.up (u2.trans u3) d1
 unfold M3.run M3.yS at h3
 cases x with
 |ref n=>
  dsimp only at h3
  obtain⟨c,ec,rfl⟩:=Den.up u3 d2
  cases q:G3[n]? with
  |none=>rw[q]at h3;exact False.elim h3
  |some ob=>
   have od:=S3.obj n c ob ec q
   rw[q]at h3
   cases ob with
   |lst xs=>
    obtain⟨vs,e1,r⟩:=od
    cases y with
    |int k=>
     dsimp only at h3
     cases qk:M3.ixN xs.length k with
     |none=>rw[qk]at h3;exact False.elim h3
     |some j=>
      rw[qk]at h3
      have up:=Up.set S3 (.lst (vs.set j wv)) ec q rfl
      refine .inl ⟨c,vs,k,j,rfl,d3,e1,by rw[<-r.length];exact qk,?_⟩
      exact h3 _ _ μ3 (((u1.trans u2).trans u3).trans up) (S3.set ec q rfl rfl ⟨_,bi,aH.up up (aH.set dw j r)⟩) (sd.up (((u1.trans u2).trans u3).trans up))
    |_=>exact False.elim h3
   |dK kvs=>
    obtain⟨ws,e1,r⟩:=od
    dsimp only at h3
    cases qk:M3.rA y with
    |none=>rw[qk]at h3;exact False.elim h3
    |some k=>
     rw[qk]at h3
     dsimp only at h3
     by_cases cl:kvs.length < M3.aM
     · rw[if_pos cl]at h3
       cases uu qk d3
       have up:=Up.set S3 (.dK (putK ws k wv)) ec q rfl
       refine .inr ⟨c,_,rfl,Ba.k e1 (by rw[<-Paired.length r,<-ek];exact cl),?_⟩
       have r2:jU X.K (upd H3 c (.dK (putK ws k wv))) μ3 kvs ws:=Paired.imp' (fun _ _ z=>⟨z.1,Den.up up z.2⟩) r
       exact h3 _ _ μ3 (((u1.trans u2).trans u3).trans up) (S3.set ec q rfl rfl ⟨_,bi,jU.put k (Den.up up dw) r2⟩) (sd.up (((u1.trans u2).trans u3).trans up))
     · rw[if_neg cl]at h3;exact False.elim h3
   |_=>exact False.elim h3
 |_=>exact False.elim h3
def HZ(T:Tab)(K:PySem.W.Frag)(μ:List Addr)(H:Hp)(Q:Option Int->Hp->Prop)(d:Option Int)(G':M3.Hh):Prop:=∀H' μ',Up μ μ' H H'->Sim T K μ' H' G'->Q d H'
def tP(T:Tab)(K:PySem.W.Frag)(Y:EX)(f:M3.P3):TO:=fun σ H Q=>∃μ σ3 G,Sim T K μ H G/\StD K H μ σ3 σ/\M3.run (f σ3) G (HZ T K μ H Q) (Y.x μ H)
theorem PO.of{e:Option Expr}{t u:TO}(h:PO X e t)(f:∀σ H Q,u σ H Q->t σ H Q):PO X e u:=fun pins s σ H Q I q=>h pins s σ H Q I (f σ H Q q)
theorem rg:PO X none (tP T X.K Y M3.oH):=PO.of C8 fun σ H Q ⟨μ,σ3,G,S,sd,h⟩=>h H μ (Up.refl _ _) S
theorem nK(h:PE X e (tE T X.K Y fa)):PO X (some e) (tP T X.K Y (M3.lF fa)):=by
 refine PO.of (Cn h) fun σ H Q ⟨μ,σ3,G,S,sd,h⟩=>⟨μ,σ3,G,S,sd,cQ h fun d G1 v H1 μ1 u1 S1 d1 h1=>?_⟩
 cases d with
 |int k=>exact⟨k,d1,h1 H1 μ1 u1 S1⟩
 |_=>exact False.elim h1
theorem aH.cut{K:PySem.W.Frag}{H:Hp}{μ:List Addr}{ds:List M3.D}{vs:List V}(r:aH K H μ ds vs)(lo hi:Option Int):aH K H μ (M3.cutD ds lo hi) (sk vs lo hi):=by
 have dr:∀(n:Nat) {ds:List M3.D} {vs:List V},aH K H μ ds vs->aH K H μ (ds.drop n) (vs.drop n):=by
  intro n
  induction n with
  |zero=>intro ds vs r;simpa using r
  |succ n ih=>
   intro ds vs r
   cases ds with
   |nil=>cases (show vs=[]from r);rfl
   |cons d ds=>obtain⟨w,t,rfl,_,r⟩:=r;simpa using ih r
 have tk:∀(n:Nat) {ds:List M3.D} {vs:List V},aH K H μ ds vs->aH K H μ (ds.take n) (vs.take n):=by
  intro n
  induction n with
  |zero=>intro ds vs r;simp;rfl
  |succ n ih=>
   intro ds vs r
   cases ds with
   |nil=>cases (show vs=[]from r);rfl
   |cons d ds=>obtain⟨w,t,rfl,h,r⟩:=r;exact⟨w,t.take n,rfl,h,ih r⟩
 have es:∀(n d:Nat) (o:Option Int),M3.sIx n d o=HT.sIx n d o:=by
  intro n d o
  cases o <;> rfl
 unfold M3.cutD sk
 rw[es,es,r.length]
 exact tk _ (dr _ r)
theorem lW{lo hi:Option Expr}{fl fh:M3.P3}(he:PE X e (tE T X.K Y fa))(hl:PO X lo (tP T X.K Y fl))(hh:PO X hi (tP T X.K Y fh)):PE X (.Subscript e (.Slice lo hi none p2) pos) (tE T X.K Y (M3.eSl fa fl fh)):=by
 refine PE.of (BR (L2.SlR.or Fz CO) he hl hh) fun σ H Q ⟨μ,σ3,G,S,sd,h⟩=>⟨μ,σ3,G,S,sd,cQ h fun x G1 v H1 μ1 u1 S1 d1 h1=>?_⟩
 refine⟨μ1,σ3,G1,S1,sd.up u1,M3.aC (M3.bt h1) (fun l G2 h2 H2 μ2 u2 S2=>⟨μ2,σ3,G2,S2,sd.up (u1.trans u2),M3.aC (M3.bt h2) (fun k G3 h3 H3 μ3 u3 S3=>?_) fun _ _ z=>Y.up u2 z⟩) fun _ _ z=>z⟩
 have d3:=Den.up (u2.trans u3) d1
 have u:=(u1.trans u2).trans u3
 unfold M3.run M3.oSl at h3
 cases x with
 |tup xs=>
  dsimp only at h3
  obtain⟨c,vs,rfl,sq,r⟩:=d3
  by_cases cw:M3.sIx xs.length 0 l=0/\M3.sIx xs.length xs.length k=xs.length
  · rw[if_pos cw]at h3;exact False.elim h3
  · rw[if_neg cw]at h3
    refine .inl ⟨c,vs,rfl,sq,fun z=>cw ?_,fun q hq=>?_⟩
    · have es:∀(n d:Nat) (o:Option Int),M3.sIx n d o=HT.sIx n d o:=by
       intro n d o
       cases o <;> rfl
      rw[es,es,r.length];exact z
    · have u4:Up μ3 μ3 H3 (upd H3 q (.tup (sk vs l k))):=Up.same (ji.new _ hq)
      exact h3 _ _ μ3 (u.trans u4) (S3.same (ji.new _ hq)) ⟨q,_,rfl,SqT.of bi,aH.up u4 (r.cut l k)⟩
 |ref n=>
  dsimp only at h3
  obtain⟨c,ec,rfl⟩:=d3
  have fin:∀{xs:List M3.D} {vs:List V},SqL X.K H3 c vs->aH X.K H3 μ3 xs vs->fX T X.K μ H Q (.ref G3.length) (G3++[.lst (M3.cutD xs l k)])->GI X.K (.ref c) l k H3 Q:=by
   intro xs vs sq r hq
   refine⟨c,vs,rfl,sq,fun q hn=>?_⟩
   have u4:=Up.new (μ:=μ3) (.lst (sk vs l k)) hn
   refine hq _ _ (μ3++[q]) (u.trans u4) (S3.new hn rfl ⟨_,bi,aH.up u4 (r.cut l k)⟩) ⟨q,?_,rfl⟩
   rw[<-S3.len];simp
  cases qn:G3[n]? with
  |none=>rw[qn]at h3;exact False.elim h3
  |some ob=>
   have od:=S3.obj n c ob ec qn
   rw[qn]at h3
   cases ob with
   |lst xs=>obtain⟨vs,e1,r⟩:=od;exact .inr (fin (SqL.of e1) r h3)
   |frz xs=>obtain⟨vs,e1,r⟩:=od;exact .inr (fin e1.sq r h3)
   |_=>exact False.elim h3
 |_=>exact False.elim h3
theorem yj{c:Expr}{body:List Stmt}{f:M3.S3}(hp:PassesOwn (model X.prog X.w) X.A X.env X.xe)(hc:PT X c (tT T X.K Y ft))(hb:PSs X body (tS T X.K Y f)):PS X (.While c body [] pos) (tS T X.K Y (M3.uT ft f)):=by
 refine PS.of (Av hp hc hb) fun D σ H ⟨μ,σ3,G,S,sd,h⟩=>?_
 have h:M3.run (M3.ki ft f M3.uD σ3) G (gm T X.K μ H D) (Y.x μ H):=h
 generalize M3.uD=n at h
 refine⟨fun m σ' H'=>∃μ' σ3' G',Up μ μ' H H'/\Sim T X.K μ' H' G'/\StD X.K H' μ' σ3' σ'/\M3.run (M3.ki ft f m σ3') G' (gm T X.K μ H D) (Y.x μ' H'),⟨n,μ,σ3,G,Up.refl _ _,S,sd,h⟩,?_⟩
 rintro m σ' H' ⟨μ',σ3',G',u',S',sd',q⟩
 cases m with
 |zero=>exact False.elim q
 |succ m=>
  refine⟨μ',σ3',G',S',sd',sP q fun b G1 H1 μ1 u1 S1 h1=>?_⟩
  cases b with
  |false=>exact h1 σ' H1 μ1 (u'.trans u1) S1 (sd'.up u1)
  |true=>
   refine⟨fun σ2 H2=>∃μ2 σ4 G2,Up μ μ2 H H2/\Sim T X.K μ2 H2 G2/\StD X.K H2 μ2 σ4 σ2/\M3.run (M3.ki ft f m σ4) G2 (gm T X.K μ H D) (Y.x μ2 H2),fun σ2 H2 hN=>⟨m,Nat.lt_succ_self _,hN⟩,?_⟩
   refine⟨μ1,σ3',G1,S1,sd'.up u1,eI (M3.bt h1) fun p G7 q7 σ7 H7 μ7 u7 S7 sd7=>?_⟩
   obtain⟨fl,σ8⟩:=p
   have up:=(u'.trans u1).trans u7
   cases fl with
   |next=>exact⟨μ7,σ8,G7,up,S7,sd7,Y.upE u7 q7⟩
   |cont=>exact⟨μ7,σ8,G7,up,S7,sd7,Y.upE u7 q7⟩
   |brk=>exact q7 σ7 H7 μ7 up S7 sd7
   |ret d=>exact q7 σ7 H7 μ7 up S7 sd7
end
open PySem PySem.Spec PyProof.Rows L2
def Tr(h:Heap)(e:Addr)(c:Value)(t:Option (Addr×Value)):Prop:=
 ∃oe vs,h.get? e=some oe/\oe.cls=c/\oe.data= .fields vs/\match t with
  |none=>vs[1]? =some .none
  |some (g,z)=>vs[1]? =some (.ref g)/\g≠e/\∃og ts,h.get? g=some og/\og.data= .fields ts/\ts[3]? =some z
structure uO (fs:List Addr) (e:Addr) (t:Option (Addr×Value)) (g:Addr) (h h':Heap):Prop where
 same:∀b o,h.get? b=some o->b∉fs->b≠e->(∀q,t=some q->b≠q.1)->h'.get? b=some o
 plain:∀b o,h.get? b=some o->(∀ws,o.data≠.fields ws)->∃sl,h'.get? b=some {o with slots:=sl}
 head:(∃z,t=some (g,z))\/h.objs.size<=g
 size:h.objs.size<=h'.objs.size
section
variable{M:Model}{A:Around}{E:Value->Shared->Prop}{s:Shared}{base:Heap}{env:Env}{outer:List Env}{L e:Addr}{c:Value}
theorem sN{oe:Obj}{vs:Array Value}{hd0:Value}{hn:Bool}{Q:Unit->Shared->Prop}(hA:A.frames=some (env :: outer))(fr:s.heap.FunFrames base (env :: outer))(hL:env.frame=some L)
 (ge:s.heap.get? e=some oe) (de:oe.data= .fields vs) (z1:1 < vs.size)
 (k:∀h' g,s.heap.objs.size<=g->Tr h' e oe.cls (some (g,rawInt L))->(∀b o,s.heap.get? b=some o->b∉frs (env :: outer)->b≠e->h'.get? b=some o)->(∀b o,s.heap.get? b=some o->(∀ws,o.data≠.fields ws)->∃sl,h'.get? b=some {o with slots:=sl})->
   s.heap.objs.size<=h'.objs.size->Q () {s with heap:=h'}):
 wpAny M A (do let a <-frameOf env;let pl <-entryPlaceOf L hn;let b <-EntryCells.newEntry hd0 a .none (rawInt L) .none pl;setField (.ref e) 1 b) Q E s:=by
 have ne:e∉frs (env :: outer):=fun z=>by
  obtain⟨_,o,q,nf⟩:=fr.mem z
  rw[ge]at q
  cases q
  exact nf vs de
 refine wpAny_bind (wpAny_frameOf_fun hA fr hL fun h1 so=>?_)
 refine wpAny_bind (wpAny_entryPlaceOf fun pl ip=>?_)
 unfold EntryCells.newEntry newFields
 refine wpAny_bind (wpAny_newObj_type ?_ (ip.sizeOk5 _ _ _ _ _))
 have g1:h1.get? e=some oe:=(so.2.1 e ne).trans ge
 generalize hob:({cls:= .type "traceback",dict:=none,data:= .fields ([hd0,.ref L,.none,rawInt L,.none]++(if pl.isEmpty then List.replicate 6 Value.none else pl)).toArray}:Obj)=ob
 have dob:∃ts:Array Value,ob.data= .fields ts/\ts[3]? =some (rawInt L):=by
  rw[<-hob]
  exact⟨_,rfl,by simp⟩
 have fob:ob.isFreed=false:=by rw[<-hob];rfl
 have g2:(h1.push ob).get? e=some oe:=Heap.get?_push_of_some _ g1
 have net:h1.objs.size≠e:=Nat.ne_of_gt (Heap.lt_size g1)
 refine wpAny_setField g2 de z1 (k _ h1.objs.size (by rw[so.1];exact qO_ _) ?_ (fun b o q n1 n2=>?_) (fun b o q nf=>?_) ?_)
 · have d3:=Obj.data_mapFields de (·.setIfInBounds 1 (Value.ref h1.objs.size))
   obtain⟨ts,q1,q2⟩:=dob
   refine⟨_,_,Heap.get?_update_self _ g2 (Obj.isFreed_of_fields d3),Obj.cls_mapFields _ _,d3,by simp [z1],net,ob,ts,?_,q1,q2⟩
   rw[Heap.get?_update_other _ _ (Ne.symm net)]
   exact Heap.get?_push_size _ fob
 · rw[Heap.get?_update_other _ _ (Ne.symm n2)]
   exact Heap.get?_push_of_some _ ((so.2.1 b n1).trans q)
 · have nb:b≠e:=by
    rintro rfl
    rw[ge]at q
    cases q
    exact nf vs de
   obtain⟨sl,q1⟩:=so.2.2 b o q
   refine⟨sl,?_⟩
   rw[Heap.get?_update_other _ _ (Ne.symm nb)]
   exact Heap.get?_push_of_some _ q1
 · rw[Heap.size_after_update,Heap.size_push,so.1]
   exact Nat.le_succ _
theorem vC{t:Option (Addr×Value)}{Q:Unit->Shared->Prop}(hA:A.frames=some (env :: outer))(fr:s.heap.FunFrames base (env :: outer))(hL:env.frame=some L)(tr:Tr s.heap e c t)
 (k:∀h' g,uO (frs (env :: outer)) e t g s.heap h'->Tr h' e c (some (g,rawInt L))->Q () {s with heap:=h'}):wpAny M A (noteFrame (.ref e) env) Q E s:=by
 obtain⟨oe,vs,ge,ce,de,ht⟩:=tr
 subst ce
 unfold noteFrame
 simp only[hL]
 cases t with
 |none=>
  refine wpAny_bind (wpAny_field ge de ht ?_)
  rw[if_neg (by decide)]
  refine sN hA fr hL ge de (Array.getElem?_eq_some_iff.mp ht).1 fun h' g hg tr' sm pl sz=>k h' g ⟨fun b o q n1 n2 _=>sm b o q n1 n2,pl,.inr hg,sz⟩ tr'
 |some q=>
  obtain⟨g0,z⟩:=q
  obtain⟨h1,hne,og,ts,gg,dg,h3⟩:=ht
  refine wpAny_bind (wpAny_field ge de h1 ?_)
  rw[if_pos (by rfl)]
  refine wpAny_bind (wpAny_field gg dg h3 ?_)
  by_cases hz:(z==rawInt L)=true
  · rw[if_pos hz]
    have hz':z=rawInt L:=by simpa using hz
    subst hz'
    refine wpAny_pure (k s.heap g0 ⟨fun b o q _ _ _=>q,fun b o q _=>⟨o.slots,q⟩,.inl ⟨_,rfl⟩,qO_ _⟩ ⟨oe,vs,ge,rfl,de,h1,hne,og,ts,gg,dg,h3⟩)
  · rw[if_neg hz]
    refine wpAny_bind (wpAny_setField gg dg (Array.getElem?_eq_some_iff.mp h3).1 ?_)
    have oth:∀b,b≠g0->(s.heap.update g0 (Obj.mapFields (·.setIfInBounds 3 Value.none))).get? b=s.heap.get? b:=fun b n=>Heap.get?_update_other _ _ (Ne.symm n)
    have nog:∀b o,s.heap.get? b=some o->(∀ws,o.data≠.fields ws)->b≠g0:=fun b o q nf w=>by
     rw[w,gg]at q
     cases q
     exact nf ts dg
    refine sN (s:={s with heap:=s.heap.update g0 (Obj.mapFields (·.setIfInBounds 3 Value.none))}) hA (fr.of_keeps fun b o q nf=>⟨o,(oth b (nog b o q nf)).trans q,rfl⟩) hL ((oth e (Ne.symm hne)).trans ge) de (Array.getElem?_eq_some_iff.mp h1).1 fun h' g hg tr' sm pl sz=>?_
    have e0:(s.heap.update g0 (Obj.mapFields (·.setIfInBounds 3 Value.none))).objs.size=s.heap.objs.size:=Heap.size_after_update ..
    refine k h' g ⟨fun b o q n1 n2 n3=>sm b o ((oth b (n3 _ rfl)).trans q) n1 n2,fun b o q nf=>pl b o ((oth b (nog b o q nf)).trans q) nf,.inr (by rw[<-e0];exact hg),by rw[<-e0];exact sz⟩ tr'
theorem qP{g:Addr}{z:Value}{f:Option Addr}{Q:Unit->Shared->Prop}(tr:Tr s.heap e c (some (g,z)))
 (k:∀h',(∀b o,b≠g->s.heap.get? b=some o->h'.get? b=some o)->Tr h' e c (some (g,f.elim .none fun f=>rawInt f))->s.heap.objs.size<=h'.objs.size->(∀b o,s.heap.get? b=some o->(∀ws,o.data≠.fields ws)->h'.get? b=some o)->Q () {s with heap:=h'}):wpAny M A (setFlight (.ref e) f) Q E s:=by
 obtain⟨oe,vs,ge,ce,de,h1,hne,og,ts,gg,dg,h3⟩:=tr
 unfold setFlight
 refine wpAny_bind (wpAny_field ge de h1 ?_)
 rw[if_pos (by rfl)]
 have z3:=(Array.getElem?_eq_some_iff.mp h3).1
 refine wpAny_setField gg dg z3 (k _ (fun b o n q=>?_) ?_ ?_ fun b o q nf=>?_)
 · rw[Heap.get?_update_other _ _ (Ne.symm n)];exact q
 · have d3:=Obj.data_mapFields dg (·.setIfInBounds 3 (f.elim Value.none fun f=>rawInt f))
   exact⟨oe,vs,by rw[Heap.get?_update_other _ _ hne];exact ge,ce,de,h1,hne,_,_,Heap.get?_update_self _ gg (Obj.isFreed_of_fields d3),d3,by simp [z3]⟩
 · rw[Heap.size_after_update];exact qO_ _
 · have n:b≠g:=by
    rintro rfl
    rw[gg]at q
    cases q
    exact nf ts dg
   rw[Heap.get?_update_other _ _ (Ne.symm n)];exact q
end
def Fly(k:Heap)(H:Hp)(h:Heap)(e:Addr)(c:Value)(t:Option (Addr×Value)):Prop:=Tr h e c t/\H e=none/\k.get? e=none/\∀q,t=some q->H q.1=none/\k.get? q.1=none
theorem Fly.old{n m:Heap}{H:Hp}{h:Heap}{e:Addr}{c:Value}{t:Option (Addr×Value)}(f:Fly n H h e c t)(hm:∀b o,m.get? b=some o->∃o',n.get? b=some o'):Fly m H h e c t:=by
 have go:∀b,n.get? b=none->m.get? b=none:=fun b z=>by
  cases q:m.get? b with
  |none=>rfl
  |some o=>
   obtain⟨o',w⟩:=hm b o q
   rw[z]at w;cases w
 exact⟨f.1,f.2.1,go _ f.2.2.1,fun q z=>⟨(f.2.2.2 q z).1,go _ (f.2.2.2 q z).2⟩⟩
def CX1(P:Program)(w:World):CXT:=fun outer H s E x s'=>∃e H' c dx t,x= .ref e/\s'.os=s.os/\AllBare s'.gens/\Un (frs outer) [] H H' s.heap s'.heap/\HOk P w H' s'.heap/\Fly s.heap H' s'.heap e c t/\E c dx H'
def XOk(X:Cx)(E:XK):Prop:=∀σ H s e c dx t,L2.Inv X [] σ H s->Fly X.s₀.heap H s.heap e c t->E c dx H->X.xe (.ref e) s
structure Own (X:Cx):Prop where
 stk:X.stack=X.env :: X.outer
 fr:X.env.frame=some X.env.locals
 pn:X.pn=[]
 ex:X.ex=[]
section
variable{X:Cx}{σ:L2.St}{H:Hp}{s:Shared}{e:Addr}{c:Value}{t:Option (Addr×Value)}
theorem Inv.turn(I:L2.Inv X [] σ H s)(O:Own X)(f:Fly X.s₀.heap H s.heap e c t){g:Addr}{h':Heap}(tn:uO (frs X.stack) e t g s.heap h'):L2.Inv X [] σ H {s with heap:=h'}:=by
 obtain⟨tr,he,ne,nt⟩:=f
 have nex:∀b,b∉X.ex:=fun b z=>by rw[O.ex]at z;simp at z
 have fro:∀b,b∈frs X.stack->∃o,s.heap.get? b=some o/\∀vs,o.data≠.fields vs:=fun b hb=>(I.stack.mem hb).2
 have sub:∀b,b∈X.fs->b∈frs X.stack:=fun b hb=>by
  rw[O.stk]
  unfold frs
  rw[List.filterMap_cons,O.fr]
  exact qR_ _ hb
 have older:∀b o,X.s₀.heap.get? b=some o->b≠e/\(∀q,t=some q->b≠q.1)/\b≠X.env.locals:=fun b o q=>
  ⟨fun z=>(by rw[z,ne]at q;cases q),fun p w z=>(by rw[z,(nt p w).2]at q;cases q),Nat.ne_of_lt (qd_ (Heap.lt_size q) I.ok.above)⟩
 have cel:∀{d:Addr} {v:Option Value},s.heap.IsCell d v->h'.IsCell d v:=fun {d v} ⟨o,q,dd⟩=>by
  obtain⟨sl,z⟩:=tn.plain d o q fun ws w=>by rw[dd]at w;cases w
  exact⟨_,z,dd⟩
 refine⟨I.ok,I.os,I.bare,⟨fun b o q n nf nx=>?_,fun b o q n hf nx=>?_,I.base.free,fun b o q nx=>?_,I.base.rD,I.base.oU,I.base.qS⟩,?_,fun x d q=>?_,I.free,I.iC,fun p hp=>?_,fun b u q=>?_,I.len⟩
 · obtain⟨n1,n2,n3⟩:=older b o q
   refine tn.same b o (I.base.keep b o q n nf nx) (fun z=>?_) n1 n2
   rcases qS_.mp (I.lL b z)with w |w
   · exact n3 w
   · exact nf w
 · obtain⟨sl,q1⟩:=I.base.slot b o q n hf nx
   obtain⟨o',q2,nf⟩:=fro b (sub b hf)
   rw[q1]at q2;cases q2
   obtain⟨sl2,z⟩:=tn.plain b _ q1 nf
   exact⟨sl2,z⟩
 · obtain⟨n1,n2,n3⟩:=older b o q
   obtain⟨o1,q1⟩:=I.base.there b o q nx
   by_cases hf:b∈frs X.stack
   · obtain⟨o',q2,nf⟩:=fro b hf
     obtain⟨sl,z⟩:=tn.plain b o' q2 nf
     exact⟨_,z⟩
   · exact⟨o1,tn.same b o1 q1 hf n1 n2⟩
 · obtain⟨m,⟨o,es,ep,q,d,r⟩,hm⟩:=I.loc
   obtain⟨sl,z⟩:=tn.plain _ o q fun ws w=>by rw[d]at w;cases w
   refine⟨m,⟨_,es,ep,z,d,r⟩,fun i x v h1 h2 h3=>?_⟩
   obtain⟨u,ru,lk⟩:=hm i x v h1 h2 h3
   refine⟨u,ru,?_⟩
   rcases lk with lk |⟨k,d',hd,ic⟩
   · exact .inl lk
   · exact .inr ⟨k,d',hd,cel ic⟩
 · obtain⟨v,w⟩:=I.cell x d q
   exact⟨v,cel w⟩
 · rw[O.pn]at hp;simp at hp
 · refine(I.hok b u q).ky (fun d v hc w=>?_) (fun _ z=>z) fun _ _ z=>z
   have hd:∃u',H d=some u':=by
    rcases hc with z |z
    · rw[z];exact⟨u,q⟩
    · exact⟨_,z⟩
   obtain⟨u',hu'⟩:=hd
   refine tn.same d v w (fun z=>?_) (fun z=>?_) fun p y z=>?_
   · rw[I.qc d z]at hu';cases hu'
   · rw[z,he]at hu';cases hu'
   · rw[z,(nt p y).1]at hu';cases hu'
theorem Fly.turn(I:L2.Inv X [] σ H s)(f:Fly X.s₀.heap H s.heap e c t){g:Addr}{z:Value}{h':Heap}{fs:List Addr}(tn:uO fs e t g s.heap h')(tr:Tr h' e c (some (g,z))):Fly X.s₀.heap H h' e c (some (g,z)):=by
 refine⟨tr,f.2.1,f.2.2.1,fun q w=>?_⟩
 cases w
 rcases tn.head with ⟨y,w⟩ |w
 · exact f.2.2.2 (g,y) w
 · exact⟨I.hok.fresh w,Heap.get?_none_of_le (Nat.le_trans I.sz w)⟩
theorem Ar{M:Model}{A:Around}{EE:Value->Shared->Prop}{Q:Unit->Shared->Prop}(O:Own X)(hA:A.frames=some X.stack)(I:L2.Inv X [] σ H s)(f:Fly X.s₀.heap H s.heap e c t)
 (k:∀h' g,L2.Inv X [] σ H {s with heap:=h'}->Fly X.s₀.heap H h' e c (some (g,rawInt X.env.locals))->Q () {s with heap:=h'}):wpAny M A (noteFrame (.ref e) X.env) Q EE s:=by
 have fr:=I.stack
 rw[O.stk]at fr hA
 refine vC hA fr O.fr f.1 fun h' g tn tr=>k h' g (Inv.turn I O f (by rw[O.stk];exact tn)) (Fly.turn I f tn tr)
theorem xA{M:Model}{A:Around}{EE:Value->Shared->Prop}{Q:Unit->Shared->Prop}{g:Addr}{z:Value}{fo:Option Addr}(O:Own X)(I:L2.Inv X [] σ H s)(f:Fly X.s₀.heap H s.heap e c (some (g,z)))
 (k:∀h',L2.Inv X [] σ H {s with heap:=h'}->Fly X.s₀.heap H h' e c (some (g,fo.elim .none fun f=>rawInt f))->Q () {s with heap:=h'}):wpAny M A (setFlight (.ref e) fo) Q EE s:=
 qP f.1 fun h' sm tr sz pl=>k h' (Inv.turn (g:=g) I O f ⟨fun b o q _ _ n=>sm b o (n _ rfl) q,fun b o q nf=>⟨o.slots,pl b o q nf⟩,.inl ⟨_,rfl⟩,sz⟩) ⟨tr,f.2.1,f.2.2.1,fun q w=>by cases w;exact f.2.2.2 (g,z) rfl⟩
theorem ff{E:XK}(O:Own X)(h:XOk X E):gu (CX1 X.prog X.w) X E:=by
 rintro pins σ H s x s' I ⟨e,H',c,dx,t,rfl,os,bare,un,hok,f,q⟩
 have I':L2.Inv X pins σ H' s':=I.BI (ch:=[]) os un hok bare (fun b z=>absurd z (by simp))
 have I0:L2.Inv X [] σ H' s':=I'.qe fun p hp=>absurd hp (by simp)
 exact h σ H' s' e c dx t I0 (f.old fun b o z=>I.base.there b o z (by rw[O.ex];simp)) q
end
theorem cq{P:Program}{w:World}{K:PySem.W.Frag}{mg:Str->Option Value}{base:Heap}{N:List Str}{qual:Str}{scope:Scope}{fa:Addr}{cd:Value}{A:Around}{outer:List Env}{s:Shared}{H:Hp}{E:XK}:
 XOk (nu (CX1 P w) P w K mg base N qual scope fa cd A outer s H E) E:=by
 intro σ H' s' e c dx t I f q
 have O:Own (nu (CX1 P w) P w K mg base N qual scope fa cd A outer s H E):=⟨rfl,rfl,rfl,rfl⟩
 show wpAny _ _ (leaving _ _) _ _ _
 unfold leaving
 refine wpAny_bind (Ar O I.ok.frames I f fun h1 g I1 f1=>?_)
 refine xA O I1 f1 fun h2 I2 f2=>?_
 exact⟨e,H',c,dx,_,rfl,I2.os,I2.bare,I2.base,I2.hok,f2,q⟩
theorem cz{CX:CXT}{P:Program}{w:World}{K:PySem.W.Frag}{mg:Str->Option Value}{base:Heap}{N:List Str}{qual:Str}{scope:Scope}{fa:Addr}{cd:Value}{A:Around}{outer:List Env}{s:Shared}{H:Hp}{E:XK}:
 Own (nu CX P w K mg base N qual scope fa cd A outer s H E):=⟨rfl,rfl,rfl,rfl⟩
theorem BH{CX:CXT}{P:Program}{w:World}{K:PySem.W.Frag}{mg:Str->Option Value}{base:Heap}{N:List Str}{qual:Str}{scope:Scope}{fa:Addr}{cd:Value}{A:Around}{outer:List Env}{s:Shared}{H:Hp}{E:XK}:
 PassesOwn (model P w) (nu CX P w K mg base N qual scope fa cd A outer s H E).A (nu CX P w K mg base N qual scope fa cd A outer s H E).env (nu CX P w K mg base N qual scope fa cd A outer s H E).xe:=by
 intro x s' h
 have h:wpAny (model P w) (A.deeper (envOfC qual scope s.heap.objs.size fa cd)) (leaving (envOfC qual scope s.heap.objs.size fa cd) x) (fun _ s''=>CX outer H s E x s'') (fun e' s''=>CX outer H s E e' s'') s':=h
 exact PassesOwn.leaving (Q₁:=fun x s''=>CX outer H s E x s'') x s' h
section
variable{T:Tab}
theorem ib{P:Program}{w:World}{K:PySem.W.Frag}{mg:Str->Option Value}{base:Heap}{x qual:Str}{st:Stmt}{fa:Addr}{fd:FuncData}{N ps:List Str}{k n:Nat}{pad:M3.St}{body:M3.S3}(F:Fun K x qual st fa fd)(S:aE N ps (ak st))
 (hn:ps.length=n) (hpad:pad=List.replicate (N.length - n) none)
 (h:∀(cdv:Value) (A:Around) (outer:List Env) (s:Shared) (H:Hp) (E:XK),fM k (A.deeper (envOfC qual (ak st) s.heap.objs.size fa cdv))->PSs (nu (CX1 P w) P w K mg base N qual (ak st) fa cdv A outer s H E) (aB st) (tS T K (EX.of T K E) body)):
 bo P w K mg base (CX1 P w) (k+1) fa fd ps (sp3 T K n (M3.fnM n pad body)):=by
 obtain⟨oc,od,kV,doc,pm,an,cdv,ct,osl,rfl,lk,hcd⟩:=F.ex
 refine DL lk hcd S (fun vs H Q E q=>by rw[hn];exact q.1) fun A outer s H vs Q E hr q=>⟨_,h cdv A outer s H E hr,?_⟩
 obtain⟨hl,μ,ds,G,Sm,d,q⟩:=q
 unfold M3.fnM at q
 obtain⟨c,q⟩:=kG q
 have e1:L2.start N vs=vs.map some++List.replicate (N.length - n) none:=by unfold L2.start;rw[hl]
 rw[e1]
 refine⟨μ,_,G,Sm,by rw[hpad];exact StD.start _ d,eI (M3.bt q) fun r G1 q1 σ' H' μ' u S' sd'=>?_⟩
 obtain⟨fl,σ2⟩:=r
 cases fl with
 |next=>exact q1 .non H' μ' u S' rfl
 |brk=>exact False.elim q1
 |cont=>exact False.elim q1
 |ret d=>exact fun v dv=>q1 v H' μ' u S' dv
end
theorem dO.at{P:Program}{w:World}{H:Hp}{h:Heap}{a:Addr}{o:HO}(x:dO P w H h a o):∃u,h.get? a=some u:=by
 cases o with
 |lst xs=>obtain⟨_,_,_,_,z⟩:=x;exact⟨_,z⟩
 |tup xs=>
  obtain⟨_,_,_,z⟩:=x
  obtain⟨u,z,_⟩:=z
  exact⟨u,z⟩
 |dK kvs=>obtain⟨_,_,_,_,_,_,_,z,_⟩:=x;exact⟨_,z⟩
 |dT kvs=>obtain⟨_,_,_,_,_,_,_,z,_⟩:=x;exact⟨_,z⟩
 |set S n=>obtain⟨_,_,_,_,z,_⟩:=x;exact⟨_,z⟩
 |ins C dx fs=>obtain⟨_,_,_,z,_⟩:=x;exact⟨_,z⟩
 |own y=>exact x
 |xd fs=>obtain⟨_,⟨_,_,_,z,_⟩,_⟩:=x;exact⟨_,z⟩
 |rng lo hi=>obtain⟨_,_,_,z⟩:=x;exact⟨_,z⟩
 |frz ob u=>exact⟨_,x.1⟩
 |tbl ps=>exact⟨_,x⟩
 |met f y=>exact⟨_,x⟩
 |ext φ=>exact x.2.1
def veM:List Value:=[.type "ValueError",.type "Exception",.type "BaseException",.type "object"]
structure XCl (K:PySem.W.Frag) (mg:Str->Option Value) (x:Str) (C:Addr):Prop where
 bd:mg x=some (.ref C)
 ex:PySem.W.excIn K C veM "ValueError.__new__"=true
theorem XCl.obj{K:PySem.W.Frag}{mg:Str->Option Value}{x:Str}{C:Addr}(z:XCl K mg x C){h₁:Heap}(X₁:K.In h₁):
 ∃bm N nm q bs hdct sn sub ab col dd k0 k1 k2 k3 k5 mN,∀h:Heap,K.In h->h.get? C=some (excClassObj nm q C N bs bm hdct sn sub ab col dd k0 k1 k2 k3 k5 "ValueError.__new__")/\h.Ns N mN/\mN "__init__"=none/\OwnTail h veM bm:=by
 have q:=z.ex
 unfold PySem.W.excIn at q
 split at q
 case h_2=>cases q
 rename_i dd cd sl at_
 split at q
 case h_2=>cases q
 rename_i C' bm k0 k1 k2 k3 n k5 em es
 simp only[Bool.and_eq_true,beq_iff_eq,Bool.not_eq_true']at q
 obtain⟨⟨⟨⟨⟨e1,e2⟩,e3⟩,e4⟩,e5⟩,e6⟩:=q
 subst e1 e2
 obtain⟨nm,bs,mro,ns,qn,hd,sn,sub,ab,col,del⟩:=cd
 have em:mro= .ref C' :: bm:=em
 have e3:del=false:=e3
 subst em e3
 have e7:sl=#[k0,k1,k2,k3,some (.builtin "ValueError.__new__"),k5]:=by
  cases sl with
  |mk l=>exact congrArg Array.mk es
 subst e7
 have n1:h₁.Ns ns (h₁.nsMap ns):= .of_isNs (PySem.W.isNs_of_in X₁ e5)
 refine⟨bm,ns,nm,qn,bs,hd,sn,sub,ab,col,dd,k0,k1,k2,k3,k5,h₁.nsMap ns,fun h Xh=>⟨Xh _ _ at_,?_,PySem.W.nsMap_none_of_in X₁ e5 e6,PySem.W.tail_of_in Xh e4⟩⟩
 refine n1.at fun o eo=>?_
 have e5:=e5
 unfold PySem.W.nsOkIn at e5
 split at e5
 case h_2=>cases e5
 rename_i lk
 have:=X₁ _ _ lk
 rw[eo]at this
 cases this
 exact Xh _ _ lk
section
variable{X:Cx}{T:Tab}{E:XK}
theorem BA{σ:L2.St}{H:Hp}{s:Shared}{pins:List (Addr×Obj)}{h':Heap}{e C:Addr}{us:List Value}{dx:Option Addr}(O:Own X)(ok:XOk X E)(I:L2.Inv X pins σ H s)(m:Heap.MadeExcOf s.heap h' e (.ref C) us)(q:E (.ref C) dx H):X.xe (.ref e) {s with heap:=h'}:=by
 have I1:L2.Inv X pins σ H {s with heap:=h'}:=I.kept (t':=s.toks) m.keeps
 have I0:L2.Inv X [] σ H {s with heap:=h'}:=I1.qe fun p hp=>absurd hp (by simp)
 obtain⟨t,g,_,_⟩:=m.there
 refine ok σ H _ e (.ref C) dx none I0 ⟨⟨_,_,g,rfl,rfl,rfl⟩,?_,?_,fun q z=>nomatch z⟩ q
 · cases z:H e with
   |none=>rfl
   |some u=>
    obtain⟨u',w⟩:=dO.at (I.hok e u z)
    rw[m.new]at w;cases w
 · cases z:X.s₀.heap.get? e with
   |none=>rfl
   |some o=>
    obtain⟨o',w⟩:=I.base.there e o z (by rw[O.ex];simp)
    rw[m.new]at w;cases w
variable{x:Str}{np cpos pos:Pos}{e0:Expr}{es:List Expr}{fa:M3.A3}{c:Nat}{C:Addr}
theorem y_raise(O:Own X)(ok:XOk X E)(hh:X.A.handled=none)(k:XCl X.K X.mg x C)(hc:T.cls c=some C)(ha:PA X (e0 :: es) (tA T X.K (EX.of T X.K E) fa))(hg:Gl X x:=by rfl)(hdb:(x==("__debug__":Str))=false:=by decide)
 (he:starEach (e0 :: es) X.env=(false,eval e0 X.env) :: starEach es X.env:=by rfl) (hpl:(backTo cpos (starEach es X.env)).any (·.1)=false:=by rfl):PS X (.Raise (some (.Call (.Name x np) (e0 :: es) [] cpos)) none pos) (tS T X.K (EX.of T X.K E) (M3.m9 c fa)):=by
 intro pins s σ H D I ⟨μ,σ3,G,S,sd,h⟩
 obtain⟨bm,N,nm,q,bs,hdct,sn,sub,ab,col,dd,k0,k1,k2,k3,k5,mN,hk⟩:=k.obj I.kIn
 obtain⟨hC,hN,hni,tl⟩:=hk s.heap I.kIn
 have hbase:bm.contains (.type "BaseException")=true:=tl.hasType (by decide)
 refine wpAny_Raise_call_subT (C:=C) (nm:=nm) (q:=q) (N:=N) (bs:=bs) (bm:=bm) (hdct:=hdct) (sn:=sn) (sub:=sub) (ab:=ab) (col:=col) (dd:=dd) (k0:=k0) (k1:=k1) (k2:=k2) (k3:=k3) (k5:=k5) (bmB:=veM) PySem.F.excBase_ValueError (mN:=mN) hbase hh
  (by rw[he];show (false||(backTo cpos (starEach es X.env)).any (·.1))=false;rw[hpl];rfl) hni (mr I hg k.bd ⟨rfl,?_⟩ hdb)
 have key:=ha cpos pins s σ H (fun vs H1=>vs.length<=sizeLine/\∃dx,E (.ref C) dx H1) I ⟨μ,σ3,G,S,sd,pJ h fun ds G1 vs H1 μ1 u1 S1 d1 h1=>?_⟩
 · rw[he]at key ⊢
   refine Calls.evalArgs_plain (thn key fun us s2 ⟨vs,H1,I1,r1,hl,dx,q1⟩=>?_)
   obtain⟨hC',hN',hni',tl'⟩:=hk s2.heap I1.kIn
   exact⟨rfl,by rw[<-r1.length];exact hl,hC',hN',tl',fun h' e m=>BA O ok I1 m q1⟩
 · obtain⟨hl,h1⟩:=kG h1
   exact⟨by rw[<-d1.length,<-ek];exact hl,none,h1 C none H1 μ1 hc (Up.refl _ _) S1⟩
end
theorem lG{α β:Type} [BEq α] [LawfulBEq α]:∀{l:List (α×β)} {a:α} {b:β},l.lookup a=some b->(a,b)∈l
 | [],_,_,h=>by cases h
 |(c,d) :: r,a,b,h=>by
  rw[List.lookup_cons]at h
  cases q:a==c with
  |true=>
   rw[q]at h
   cases h
   rw[eq_of_beq q]
   exact qI_
  |false=>
   rw[q]at h
   exact qR_ _ (lG h)
theorem Blk.of{X:Cx}{x:Str}{caps:List (Str×Nat)}{scope:Scope}{cl:List (Str×Addr)}(kind:scope.kind= .function)(h1:(scope.names.all fun y=>decide (y.2≠.cell))=true)
 (h2:(scope.names.all fun y=>decide (y.2= .local->scope.names.lookup y.1=some .local))=true) (own:scope.names.lookup x=some .local) (Co:closureFor scope X.env=pure cl) (nd:(x :: caps.map (·.1)).Nodup)
 (sub:(cl.map fun p=>X.env.cells.lookup p.1)=cl.map fun p=>some p.2) (has:((relabel scope X.env).names.all fun p=>decide ((p.2= .cell\/p.2= .free)->(cl.lookup p.1).isSome=true))=true) (nox:cl.lookup x=none)
 (cap1:(caps.map fun p=>X.N[p.2]?)=caps.map fun p=>some p.1) (cap2:(caps.all fun p=>decide ((X.env.kindOf p.1=some .cell\/X.env.kindOf p.1=some .free)/\((relabel scope X.env).names.lookup p.1=some .cell\/(relabel scope X.env).names.lookup p.1=some .free)))=true):Blk X x caps scope cl:=by
 refine⟨kind,fun y hy=>of_decide_eq_true (List.all_eq_true.mp h1 y hy),fun y hy=>of_decide_eq_true (List.all_eq_true.mp h2 y hy),own,Co,nd,fun y c e=>?_,fun y hy=>?_,nox,fun j y i e=>?_⟩
 · have m:=lG e
   obtain⟨j,hj,e1⟩:=List.getElem_of_mem m
   have e2:=congrArg (·[j]?) sub
   simp only[qQ_,qA_ hj,e1,Option.map_some]at e2
   exact Option.some.inj e2
 · have go:∀k,(relabel scope X.env).names.lookup y=some k->(k= .cell\/k= .free)->∃c,cl.lookup y=some c:=fun k hk hz=>
    Option.isSome_iff_exists.mp (of_decide_eq_true (List.all_eq_true.mp has _ (lG hk)) hz)
   rcases hy with z |z
   · exact go _ z (.inl rfl)
   · exact go _ z (.inr rfl)
 · have hm:(y,i)∈caps:=qD_ e
   obtain⟨q1,q2⟩:=of_decide_eq_true (List.all_eq_true.mp cap2 _ hm)
   refine⟨?_,q1,q2⟩
   have e2:=congrArg (·[j]?) cap1
   simp only[qQ_,e,Option.map_some]at e2
   exact Option.some.inj e2
theorem zC{Z:Nat->M3.Hh->Prop}{n:Nat}{y:M3.D}{G:M3.Hh}{P:M3.D->M3.Hh->Prop}(h:M3.run (M3.kg (.ref n) y) G P Z):∃m xs ys,y= .ref m/\G[n]? =some (.lst xs)/\G[m]? =some (.lst ys)/\xs.length+ys.length<=M3.aM/\P .non (G.set n (.lst (xs++ys))):=by
 unfold M3.run M3.kg at h
 cases y with
 |ref m=>
  dsimp only at h
  cases q:G[n]? with
  |none=>rw[q]at h;exact False.elim h
  |some o=>
   rw[q]at h
   cases q2:G[m]? with
   |none=>rw[q2]at h;cases o <;> exact False.elim h
   |some o2=>
    rw[q2]at h
    cases o with
    |lst xs=>
     cases o2 with
     |lst ys=>
      dsimp only at h
      by_cases c:xs.length+ys.length<=M3.aM
      · rw[if_pos c]at h;exact⟨m,xs,ys,rfl,rfl,q2,c,h⟩
      · rw[if_neg c]at h;exact False.elim h
     |_=>exact False.elim h
    |_=>exact False.elim h
 |_=>exact False.elim h
theorem A9{Z:Nat->M3.Hh->Prop}{n:Nat}{y:M3.D}{G:M3.Hh}{P:M3.D->M3.Hh->Prop}(h:M3.run (M3.nG (.ref n) y) G P Z):∃i xs k z,y= .int i/\G[n]? =some (.lst xs)/\M3.ixN xs.length i=some k/\xs[k]? =some z/\-(2 ^ 62)<=i/\i < 2 ^ 62/\P z (G.set n (.lst (xs.eraseIdx k))):=by
 unfold M3.run M3.nG at h
 cases y with
 |int i=>
  dsimp only at h
  cases q:G[n]? with
  |none=>rw[q]at h;exact False.elim h
  |some o=>
   rw[q]at h
   cases o with
   |lst xs=>
    dsimp only at h
    cases qk:M3.ixN xs.length i with
    |none=>rw[qk]at h;exact False.elim h
    |some k=>
     rw[qk]at h
     dsimp only at h
     cases qz:xs[k]? with
     |none=>rw[qz]at h;exact False.elim h
     |some z=>
      rw[qz]at h
      dsimp only at h
      by_cases c:-(2 ^ 62)<=i/\i < 2 ^ 62
      · rw[if_pos c]at h;exact⟨i,xs,k,z,rfl,rfl,qk,qz,c.1,c.2,h⟩
      · rw[if_neg c]at h;exact False.elim h
   |_=>exact False.elim h
 |_=>exact False.elim h
theorem aH.erase{K:PySem.W.Frag}{μ:List Addr}{H:Hp}:∀{ds:List M3.D} {vs:List V} (k:Nat),aH K H μ ds vs->aH K H μ (ds.eraseIdx k) (vs.eraseIdx k)
 | [],vs,k,h=>by cases (show vs=[]from h);simp [aH]
 |_ :: ds,_,0,⟨v,r,e,h,t⟩=>by subst e;exact t
 |_ :: ds,_,k+1,⟨v,r,e,h,t⟩=>by subst e;exact⟨v,r.eraseIdx k,rfl,h,aH.erase k t⟩
section
variable{X:Cx}{T:Tab}{Y:EX}{o e:Expr}{fa fb:M3.E3}{pos apos:Pos}
theorem vU(ho:PE X o (tE T X.K Y fa))(he:PE X e (tE T X.K Y fb))
 (hbase:attributeBase o "extend" X.env (eval o X.env)=eval o X.env:=by rfl)
 (hfew:((backTo pos (starEach (e :: []) X.env)).all (fun x=>!x.1)&&(backToKw pos (keywordEach [] X.env)).all (fun x=>x.1.isSome)&&decide ((e :: ([]:List Expr)).length+([]:List Keyword).length+(if ([]:List Keyword).isEmpty then 0 else 1) < 30))=true:=by rfl)
 (hline:(apos.endLine==pos.line)=true:=by rfl) (hs:starEach (e :: []) X.env=(false,eval e X.env) :: starEach [] X.env:=by rfl) (hplain:(backTo pos (starEach [] X.env)).any (·.1)=false:=by rfl):
 PE X (.Call (.Attribute o "extend" apos) [e] [] pos) (tE T X.K Y (M3.vi fa fb)):=by
 refine PE.of (AG PySem.F.plainAttrs_list PySem.F.slot_list_extend PySem.F.type_list_extend y0 ho (jw he nI hs) hbase hfew hline hs hplain) fun σ H Q ⟨μ,σ3,G,S,sd,h⟩=>⟨μ,σ3,G,S,sd,cQ h fun d G1 v H1 μ1 u1 S1 d1 h1=>?_⟩
 obtain⟨n,xs,rfl,q,h1⟩:=xt (M3.bt h1)
 obtain⟨a,ea,rfl⟩:=id d1
 obtain⟨vs,e1,r1⟩:=S1.obj n a _ ea q
 refine⟨.inl ⟨rfl,vs,SqL.of e1⟩,μ1,σ3,G1,S1,sd.up u1,cQ h1 fun y G2 w H2 μ2 u2 S2 d2 h2=>?_⟩
 obtain⟨m,xs2,ys2,rfl,q2,q3,hl,h3⟩:=zC h2
 have ea2:=u2.at ea
 obtain⟨b,eb,rfl⟩:=id d2
 obtain⟨vs2,e2,r2⟩:=S2.obj n a _ ea2 q2
 obtain⟨ws2,e3,r3⟩:=S2.obj m b _ eb q3
 have up:=Up.set S2 (.lst (vs2++ws2)) ea2 q2 rfl
 refine⟨a,b,vs2,ws2,rfl,rfl,e2,e3,by rw[<-r2.length,<-r3.length,<-ek];exact hl,?_⟩
 exact h3 _ _ μ2 ((u1.trans u2).trans up) (S2.set ea2 q2 rfl rfl ⟨_,bi,aH.up up (r2.append r3)⟩) rfl
theorem B6(ho:PE X o (tE T X.K Y fa))(he:PE X e (tE T X.K Y fb))
 (hbase:attributeBase o "pop" X.env (eval o X.env)=eval o X.env:=by rfl)
 (hfew:((backTo pos (starEach (e :: []) X.env)).all (fun x=>!x.1)&&(backToKw pos (keywordEach [] X.env)).all (fun x=>x.1.isSome)&&decide ((e :: ([]:List Expr)).length+([]:List Keyword).length+(if ([]:List Keyword).isEmpty then 0 else 1) < 30))=true:=by rfl)
 (hline:(apos.endLine==pos.line)=true:=by rfl) (hs:starEach (e :: []) X.env=(false,eval e X.env) :: starEach [] X.env:=by rfl) (hplain:(backTo pos (starEach [] X.env)).any (·.1)=false:=by rfl):
 PE X (.Call (.Attribute o "pop" apos) [e] [] pos) (tE T X.K Y (M3.uz fa fb)):=by
 refine PE.of (AG PySem.F.plainAttrs_list PySem.F.slot_list_pop PySem.F.type_list_pop Bm ho (jw he nI hs) hbase hfew hline hs hplain) fun σ H Q ⟨μ,σ3,G,S,sd,h⟩=>⟨μ,σ3,G,S,sd,cQ h fun d G1 v H1 μ1 u1 S1 d1 h1=>?_⟩
 obtain⟨n,xs,rfl,q,h1⟩:=xt (M3.bt h1)
 obtain⟨a,ea,rfl⟩:=id d1
 obtain⟨vs,e1,r1⟩:=S1.obj n a _ ea q
 refine⟨.inl ⟨rfl,vs,SqL.of e1⟩,μ1,σ3,G1,S1,sd.up u1,cQ h1 fun y G2 w H2 μ2 u2 S2 d2 h2=>?_⟩
 obtain⟨i,xs2,k,z,rfl,q2,qk,qz,hi,hj,h3⟩:=A9 h2
 have ea2:=u2.at ea
 obtain⟨vs2,e2,r2⟩:=S2.obj n a _ ea2 q2
 obtain⟨zv,ez,dz⟩:=r2.get qz
 rw[r2.length]at qk
 have sq:=uU (show L2.ixN vs2.length i=some k from qk)
 have up:=Up.set S2 (.lst (vs2.eraseIdx k)) ea2 q2 rfl
 have ei:w=V.int i:=d2
 subst ei
 refine⟨a,vs2,i,k,zv,rfl,rfl,e2,by omega,by omega,sq.1,ez,?_⟩
 exact h3 _ _ μ2 ((u1.trans u2).trans up) (S2.set ea2 q2 rfl rfl ⟨_,bi,aH.up up (aH.erase k r2)⟩) (Den.up up dz)
end
theorem rG:∀{kvs:List (L2.Key×V)} {vs:List (L2.Key×Value)},KV kvs vs->Vals (kvs.map (·.2)) (vs.map (·.2))
 |_,_,.nil=>.nil
 |_,_,.cons r t=>.cons r.2 (rG t)
section
variable{X:Cx}{T:Tab}{Y:EX}{o:Expr}{fa:M3.E3}{p pos apos ipos:Pos}
theorem wo{to:TE}(hc:X.A.handled=none)(ho:PE X o to)(hm:X.mg "list"=none)(hg:Gl X "list":=by rfl)
 (hbase:attributeBase o "values" X.env (eval o X.env)=eval o X.env:=by rfl) (hline:(apos.endLine==ipos.line)=true:=by rfl)
 (he:starEach [.Call (.Attribute o "values" apos) [] [] ipos] X.env=(false,eval (.Call (.Attribute o "values" apos) [] [] ipos) X.env) :: starEach [] X.env:=by rfl) (hpl:(backTo pos (starEach [] X.env)).any (·.1)=false:=by rfl):
 PE X (.Call (.Name "list" p) [.Call (.Attribute o "values" apos) [] [] ipos] [] pos) (fun σ H Q=>to σ H fun x H1=>∃a kvs,x= .ref a/\H1 a=some (.dK kvs)/\∀l,H1 l=none->Q (.ref l) (upd H1 l (.lst (kvs.map (·.2))))):=by
 intro pins s σ H Q I h
 refine wpAny_Call_Name_kw (o9 I hg hm boot_list ?_ (by decide) (by decide))
 refine PyProof.Rows.callWith_type1 (Q:=EP X pins σ Q) ?_ he hpl
 rw[he]
 show wpAny _ _ (spliced ((false,eval (.Call (.Attribute o "values" apos) [] [] ipos) X.env) :: backTo pos (starEach [] X.env))) _ _ s
 refine Calls.spliced_cons ?_
 refine wpAny_Call_method0_late hbase hline (thn (ho pins s σ H _ I h) fun v s1 ⟨x,H1,I1,r1,a,kvs,e,ha,q⟩=>?_)
 subst e
 cases r1
 obtain⟨h1,h2⟩:=w4 I1 (x:= .ref a) rfl (T:="dict") (.inr (.inr (.inl ⟨rfl,.inl ⟨kvs,ha⟩⟩)))
 refine⟨"dict","dict.values",PySem.F.plainAttrs_dict,PySem.F.slot_dict_values,PySem.F.type_dict_values,h1,h2,Calls.callWith_builtin rfl (PySem.evalArgs_none ?_)⟩
 obtain⟨hz,hS,vs,rv,dd⟩:=BE I1.hok ha
 refine call_meetsIn PySem.F.slot_dict_values dd.typeIs PySem.F.entry_dict_values (PySem.F.args_dict_values_1 _) (meets_dict_values (du X.prog X.w) a hS) ⟨⟨vs,dd⟩,?_⟩
 show wpAny _ _ (spliced []) _ _ _
 refine Calls.spliced_nil ?_
 have I2:L2.Inv X pins σ H1 {s1 with heap:=s1.heap.push {cls:= .type "dict_values",data:= .fields #[.ref a]}}:=I1.kept (t':=s1.toks) fun b u e=>Heap.get?_push_of_some _ e
 obtain⟨ep,hat⟩:=dd.dictAt
 refine PySem.W.kdl_call (PySem.W.kdl_values (knd:=du X.prog X.w) (d:=a) (r:=s1.heap.objs.size) (kvs:=vs) (ep:=ep)) hc ⟨⟨_,Heap.get?_push_size _ rfl,rfl,rfl⟩,hat.push _⟩ (by rw[<-rv.length];exact hz) fun h' tk acc c' hk hS' items=>?_
 have ev:acc.toList=vs.map (·.2):=PySem.W.kdl_vals_eq acc.toList (by rw[Array.length_toList];exact items.1) fun j v e=>items.2 j v (by rw[<-Array.getElem?_toList];exact e)
 have rr:Vals (kvs.map (·.2)) acc.toList:=by rw[ev];exact rG rv
 refine⟨.ref (s1.heap.push {cls:= .type "dict_values",data:= .fields #[.ref a]}).objs.size,_,I2.laid (t':=tk) hk (qO_ _) (show dO X.prog X.w _ h' _ (.lst (kvs.map (·.2)))from⟨by rw[qM_];exact hz,acc.toList,c',rr,by rw[Array.toArray_toList];exact hS'⟩),rfl,q _ (I2.hok.fresh (qO_ _))⟩
theorem aH.DP{K:PySem.W.Frag}{H:Hp}{μ:List Addr}:∀{kvs:List (M3.Key×M3.D)} {ws:List (L2.Key×V)},Paired (fun(p:M3.Key×M3.D) (q:L2.Key×V)=>p.1=q.1/\Den K H μ p.2 q.2) kvs ws->aH K H μ (kvs.map (·.2)) (ws.map (·.2))
 |_,_,.nil=>rfl
 |_,_,.cons r t=>⟨_,_,rfl,r.2,aH.DP t⟩
theorem xI(hc:X.A.handled=none)(ho:PE X o (tE T X.K Y fa))(hm:X.mg "list"=none)(hg:Gl X "list":=by rfl)
 (hbase:attributeBase o "values" X.env (eval o X.env)=eval o X.env:=by rfl) (hline:(apos.endLine==ipos.line)=true:=by rfl)
 (he:starEach [.Call (.Attribute o "values" apos) [] [] ipos] X.env=(false,eval (.Call (.Attribute o "values" apos) [] [] ipos) X.env) :: starEach [] X.env:=by rfl) (hpl:(backTo pos (starEach [] X.env)).any (·.1)=false:=by rfl):
 PE X (.Call (.Name "list" p) [.Call (.Attribute o "values" apos) [] [] ipos] [] pos) (tE T X.K Y (M3.Aq fa)):=by
 refine PE.of (wo hc ho hm hg hbase hline he hpl) fun σ H Q ⟨μ,σ3,G,S,sd,h⟩=>⟨μ,σ3,G,S,sd,cQ h fun d G1 v H1 μ1 u1 S1 d1 h1=>?_⟩
 unfold M3.run M3.wM at h1
 cases d with
 |ref n=>
  dsimp only at h1
  obtain⟨a,ea,rfl⟩:=id d1
  cases q:G1[n]? with
  |none=>rw[q]at h1;exact False.elim h1
  |some ob=>
   have od:=S1.obj n a ob ea q
   rw[q]at h1
   cases ob with
   |dK kvs=>
    obtain⟨ws,e1,r⟩:=od
    refine⟨a,ws,rfl,e1,fun l hl=>?_⟩
    have up:=Up.new (μ:=μ1) (.lst (ws.map (·.2))) hl
    exact h1 _ _ (μ1++[l]) (u1.trans up) (S1.new hl rfl ⟨_,bi,aH.up up (aH.DP r)⟩) ⟨l,by rw[<-S1.len];simp,rfl⟩
   |_=>exact False.elim h1
 |_=>exact False.elim h1
end
def ApP(pins:List (Addr×Obj))(e:Addr)(t:Option (Addr×Value)):Prop:=∀p∈pins,p.1≠e/\∀q,t=some q->p.1≠q.1
section
variable{X:Cx}{σ:L2.St}{H:Hp}{s:Shared}{e:Addr}{c:Value}{t:Option (Addr×Value)}{pins:List (Addr×Obj)}
theorem Inv.DH(I:L2.Inv X pins σ H s)(O:Own X)(f:Fly X.s₀.heap H s.heap e c t)(ap:ApP pins e t){g:Addr}{h':Heap}(tn:uO (frs X.stack) e t g s.heap h'):L2.Inv X pins σ H {s with heap:=h'}:=by
 obtain⟨tr,he,ne,nt⟩:=f
 have nex:∀b,b∉X.ex:=fun b z=>by rw[O.ex]at z;simp at z
 have fro:∀b,b∈frs X.stack->∃o,s.heap.get? b=some o/\∀vs,o.data≠.fields vs:=fun b hb=>(I.stack.mem hb).2
 have sub:∀b,b∈X.fs->b∈frs X.stack:=fun b hb=>by
  rw[O.stk]
  unfold frs
  rw[List.filterMap_cons,O.fr]
  exact qR_ _ hb
 have older:∀b o,X.s₀.heap.get? b=some o->b≠e/\(∀q,t=some q->b≠q.1)/\b≠X.env.locals:=fun b o q=>
  ⟨fun z=>(by rw[z,ne]at q;cases q),fun p w z=>(by rw[z,(nt p w).2]at q;cases q),Nat.ne_of_lt (qd_ (Heap.lt_size q) I.ok.above)⟩
 have cel:∀{d:Addr} {v:Option Value},s.heap.IsCell d v->h'.IsCell d v:=fun {d v} ⟨o,q,dd⟩=>by
  obtain⟨sl,z⟩:=tn.plain d o q fun ws w=>by rw[dd]at w;cases w
  exact⟨_,z,dd⟩
 refine⟨I.ok,I.os,I.bare,⟨fun b o q n nf nx=>?_,fun b o q n hf nx=>?_,I.base.free,fun b o q nx=>?_,I.base.rD,I.base.oU,I.base.qS⟩,?_,fun x d q=>?_,I.free,I.iC,fun p hp=>?_,fun b u q=>?_,I.len⟩
 · obtain⟨n1,n2,n3⟩:=older b o q
   refine tn.same b o (I.base.keep b o q n nf nx) (fun z=>?_) n1 n2
   rcases qS_.mp (I.lL b z)with w |w
   · exact n3 w
   · exact nf w
 · obtain⟨sl,q1⟩:=I.base.slot b o q n hf nx
   obtain⟨o',q2,nf⟩:=fro b (sub b hf)
   rw[q1]at q2;cases q2
   obtain⟨sl2,z⟩:=tn.plain b _ q1 nf
   exact⟨sl2,z⟩
 · obtain⟨n1,n2,n3⟩:=older b o q
   obtain⟨o1,q1⟩:=I.base.there b o q nx
   by_cases hf:b∈frs X.stack
   · obtain⟨o',q2,nf⟩:=fro b hf
     obtain⟨sl,z⟩:=tn.plain b o' q2 nf
     exact⟨_,z⟩
   · exact⟨o1,tn.same b o1 q1 hf n1 n2⟩
 · obtain⟨m,⟨o,es,ep,q,d,r⟩,hm⟩:=I.loc
   obtain⟨sl,z⟩:=tn.plain _ o q fun ws w=>by rw[d]at w;cases w
   refine⟨m,⟨_,es,ep,z,d,r⟩,fun i x v h1 h2 h3=>?_⟩
   obtain⟨u,ru,lk⟩:=hm i x v h1 h2 h3
   refine⟨u,ru,?_⟩
   rcases lk with lk |⟨k,d',hd,ic⟩
   · exact .inl lk
   · exact .inr ⟨k,d',hd,cel ic⟩
 · obtain⟨v,w⟩:=I.cell x d q
   exact⟨v,cel w⟩
 · obtain⟨z1,z2,z3,z4,z5⟩:=I.pin p hp
   rw[O.pn]at hp
   obtain⟨y1,y2⟩:=ap p (by simpa using hp)
   refine⟨tn.same p.1 p.2 z1 (fun z=>?_) y1 y2,z2,z3,z4,z5⟩
   rcases qS_.mp (I.lL p.1 z)with w |w
   · exact z3 w
   · exact z4 w
 · refine(I.hok b u q).ky (fun d v hc w=>?_) (fun _ z=>z) fun _ _ z=>z
   have hd:∃u',H d=some u':=by
    rcases hc with z |z
    · rw[z];exact⟨u,q⟩
    · exact⟨_,z⟩
   obtain⟨u',hu'⟩:=hd
   refine tn.same d v w (fun z=>?_) (fun z=>?_) fun p y z=>?_
   · rw[I.qc d z]at hu';cases hu'
   · rw[z,he]at hu';cases hu'
   · rw[z,(nt p y).1]at hu';cases hu'
theorem zg{M:Model}{A:Around}{EE:Value->Shared->Prop}{Q:Unit->Shared->Prop}(O:Own X)(hA:A.frames=some X.stack)(I:L2.Inv X pins σ H s)(f:Fly X.s₀.heap H s.heap e c t)(ap:ApP pins e t)
 (k:∀h' g,L2.Inv X pins σ H {s with heap:=h'}->Fly X.s₀.heap H h' e c (some (g,rawInt X.env.locals))->ApP pins e (some (g,rawInt X.env.locals))->Q () {s with heap:=h'}):wpAny M A (noteFrame (.ref e) X.env) Q EE s:=by
 have fr:=I.stack
 rw[O.stk]at fr hA
 have pl:∀p∈pins,p.1 < s.heap.objs.size:=fun p hp=>Heap.lt_size (I.pin p (qE_ _ hp)).1
 refine vC hA fr O.fr f.1 fun h' g tn tr=>k h' g (Inv.DH I O f ap (by rw[O.stk];exact tn)) ?_ fun p hp=>⟨(ap p hp).1,fun q w=>?_⟩
 · refine⟨tr,f.2.1,f.2.2.1,fun q w=>?_⟩
   cases w
   rcases tn.head with ⟨y,w⟩ |w
   · exact f.2.2.2 (g,y) w
   · exact⟨I.hok.fresh w,Heap.get?_none_of_le (Nat.le_trans I.sz w)⟩
 · cases w
   rcases tn.head with ⟨y,w⟩ |w
   · exact(ap p hp).2 (g,y) w
   · exact Nat.ne_of_lt (qd_ (pl p hp) w)
theorem pC{M:Model}{A:Around}{EE:Value->Shared->Prop}{Q:Unit->Shared->Prop}{g:Addr}{z:Value}{fo:Option Addr}(O:Own X)(I:L2.Inv X pins σ H s)(f:Fly X.s₀.heap H s.heap e c (some (g,z)))(ap:ApP pins e (some (g,z)))
 (k:∀h',L2.Inv X pins σ H {s with heap:=h'}->Fly X.s₀.heap H h' e c (some (g,fo.elim .none fun f=>rawInt f))->ApP pins e (some (g,fo.elim .none fun f=>rawInt f))->Q () {s with heap:=h'}):wpAny M A (setFlight (.ref e) fo) Q EE s:=
 qP f.1 fun h' sm tr sz pl=>k h' (Inv.DH (g:=g) I O f ap ⟨fun b o q _ _ n=>sm b o (n _ rfl) q,fun b o q nf=>⟨o.slots,pl b o q nf⟩,.inl ⟨_,rfl⟩,sz⟩) ⟨tr,f.2.1,f.2.2.1,fun q w=>by cases w;exact f.2.2.2 (g,z) rfl⟩ fun p hp=>⟨(ap p hp).1,fun q w=>by cases w;exact(ap p hp).2 (g,z) rfl⟩
def XP(X:Cx)(pins:List (Addr×Obj))(σ:L2.St)(E:XK)(x:Value)(s':Shared):Prop:=∃e H' c dx t,x= .ref e/\L2.Inv X pins σ H' s'/\Fly X.s₀.heap H' s'.heap e c t/\ApP pins e t/\E c dx H'
def PEx(X:Cx)(e:Expr)(t:L2.St->Hp->VK->XK->Prop):Prop:=∀(pins:List (Addr×Obj)) (s:Shared) (σ:L2.St) (H:Hp) (Q:VK) (E:XK),L2.Inv X pins σ H s->t σ H Q E->wpAny (model X.prog X.w) X.A (eval e X.env) (EP X pins σ Q) (XP X pins σ E) s
theorem Ce{k:Nat}{f:Addr}{fd:FuncData}{ps:List Str}{sp:Sp}{Q:VK}{E:XK}{us:List Value}{vs:List V}(O:Own X)(F:bo X.prog X.w X.K X.mg X.base (CX1 X.prog X.w) k f fd ps sp)(hr:fM k X.A)(hb:Binds X.K fd ps [])
 (I:L2.Inv X pins σ H s) (r:Vals vs us) (h:sp vs H Q E):wpAny (model X.prog X.w) X.A (call (.ref f) us) (EP X pins σ Q) (XP X pins σ E) s:=by
 have hl:(us++[]).length=ps.length:=by rw[qY_,<-r.length];exact F.len _ _ _ _ h
 have hbd:=hb s us I.kIn hl
 rw[qY_]at hbd
 refine wpAny_call (codeAny_mono (F.run X.A X.stack s H ⟨us,[]⟩ us vs Q E hr I.FZ hbd r h) fun r s' hq=>?_)
 cases r with
 |error x=>
  obtain⟨e,H',c,dx,t,rfl,os,bare,un,hok,f,q⟩:=hq
  refine⟨e,H',c,dx,t,rfl,I.BI (ch:=[]) os un hok bare (fun b z=>absurd z (by simp)),f.old fun b o z=>I.base.there b o z (by rw[O.ex];simp),fun p hp=>?_,q⟩
  have live:=(I.pin p (qE_ _ hp)).1
  exact⟨fun z=>(by rw[z,f.2.2.1]at live;cases live),fun y w z=>(by rw[z,(f.2.2.2 y w).2]at live;cases live)⟩
 |ok fl=>
  cases fl with
  |ret u=>exact I.after hq
  |next=>exact False.elim hq
  |brk=>exact False.elim hq
  |cont=>exact False.elim hq
end
def tEx(T:Tab)(K:PySem.W.Frag)(f:M3.E3):L2.St->Hp->VK->XK->Prop:=fun σ H Q E=>tE T K (EX.of T K E) f σ H Q
section
variable{X:Cx}{T:Tab}{o e:Expr}{es:List Expr}{p pos apos:Pos}{fa:M3.E3}{f3:M3.A3}{k n C:Nat}{x m:Str}{g:List M3.D->M3.M M3.D}
theorem GR{α:Type}{M:Model}{A:Around}{t:Sem α}{Q Q':α->Shared->Prop}{E:Value->Shared->Prop}{s:Shared}(h:wpAny M A t Q (fun _ _=>False) s)(hq:∀a s,Q a s->Q' a s):wpAny M A t Q' E s:=wpAny_mono h hq fun _ _ z=>z.elim
theorem Cy{pl:Sem Bool}(O:Own X)(F:Mt3 X.prog X.w X.K X.mg X.base (CX1 X.prog X.w) T k C m n g)(hr:fM k X.A)(ho:∀E,PE X.nox o (tE T X.K (EX.of T X.K E) fa))(ha:∀E,PA X.nox (e :: es) (tA T X.K (EX.of T X.K E) f3))
 (hst:starEach (e :: es) X.env=(false,eval e X.env) :: starEach es X.env:=by rfl) (hpl:(backTo pos (starEach es X.env)).any (·.1)=false:=by rfl)
 (ht:eval (.Call (.Attribute o m apos) (e :: es) [] pos) X.env=(do
   let ov <-eval o X.env
   standAt apos.atName
   let (f,first) <-holding [ov] (getMethod ov m pl)
   callWith pos f first (backTo pos (starEach (e :: es) X.env)) (backToKw pos (keywordEach [] X.env))):=by rfl):
 PEx X (.Call (.Attribute o m apos) (e :: es) [] pos) (tEx T X.K (M3.aZ C g fa f3)):=by
 obtain⟨Ca,f,fd,ps,hc,cl,hm,ok,hb⟩:=F.ex
 intro pins s σ H Q E I h
 have h':=xK (CX:=CX1 X.prog X.w) (P:=X.prog) (w:=X.w) (mg:=X.mg) (base:=X.base) (k:=k) hc F.no F.len h
 refine PySem.W.methodCall_KW (pl:=pl) (GR (ho E pins s σ H _ (I.q8 _) h') fun u s1 ⟨y,H1,I1,rx,a,dx,fs,ex,ea,l,q⟩=>?_) ht
 subst ex
 obtain rfl:u=Value.ref a:=rx
 have J1:=I1.jh
 refine nN J1 ea cl hm l ?_
 refine PySem.W.callWith_K (first:=[.ref a]) (h₀:=X.base) I.ok.mod.kin hm.kp (GR (ha E pos pins s1 σ H1 _ I1 q) fun us s2 ⟨vs,H2,I2,r,q2⟩=>⟨I2.jh.kIn,?_⟩) hst hpl
 have q2:sp3 T X.K n g (V.ref a :: (vs++[])) H2 Q E:=q2
 rw[qY_]at q2
 exact Ce (us:= .ref a :: us) (vs:= .ref a :: vs) O ok hr hb I2.jh (.cons rfl r) q2
def mkX(X:Cx)(e:Addr):Cx:={X with A:=X.A.mark (some (.ref e)),calm:=false,xe:=fun _ _=>False}
theorem Inv.mk'{pins:List (Addr×Obj)}{σ:L2.St}{H:Hp}{s:Shared}{e:Addr}(I:L2.Inv X pins σ H s):L2.Inv (mkX X e) pins σ H s:=
 have ok:=I.ok
 ⟨⟨ok.mod,ok.kind,ok.glob,ok.blt,ok.above,ok.inj,ok.has,ok.cab,(fun z=>nomatch z),ok.frames,ok.stk,ok.exf,ok.bs,ok.bsz,ok.xD,ok.zf,ok.nU,ok.frf⟩,I.os,I.bare,I.base,I.loc,I.cell,I.free,I.iC,I.pin,I.hok,I.len⟩
theorem Inv.yT{pins:List (Addr×Obj)}{σ:L2.St}{H:Hp}{s:Shared}{e:Addr}(ok:X.Ok)(I:L2.Inv (mkX X e) pins σ H s):L2.Inv X pins σ H s:=
 ⟨ok,I.os,I.bare,I.base,I.loc,I.cell,I.free,I.iC,I.pin,I.hok,I.len⟩
theorem SP.yT{pins:List (Addr×Obj)}{D:Ends}{f:Flow}{s':Shared}{e:Addr}(ok:X.Ok)(h:SP (mkX X e) pins D f s'):SP X pins D f s':=by
 cases f with
 |next=>obtain⟨σ',H',I,q⟩:=h;exact⟨σ',H',Inv.yT ok I,q⟩
 |brk=>obtain⟨σ',H',I,q⟩:=h;exact⟨σ',H',Inv.yT ok I,q⟩
 |cont=>obtain⟨σ',H',I,q⟩:=h;exact⟨σ',H',Inv.yT ok I,q⟩
 |ret u=>obtain⟨v,σ',H',I,r,q⟩:=h;exact⟨v,σ',H',Inv.yT ok I,r,q⟩
end
inductive Hs (X:Cx) (T:Tab) (Y:EX):List ExceptHandler->List ((Nat->Bool)×M3.S3)->Prop
 |nil:Hs X T Y [] []
 |cons {x:Str} {px pos:Pos} {cv:Value} {m:Nat->Bool} {b:Stmt} {body:List Stmt} {f:M3.S3} {hs:List ExceptHandler} {ms:List ((Nat->Bool)×M3.S3)} (hx:X.mg x=some cv) (hg:Gl X x) (hdb:(x==("__debug__":Str))=false)
   (hm:∀c Ca,T.cls c=some Ca->PySem.W.exmOne X.K (.ref Ca) cv=some (m c)) (hb:∀e,PSs (mkX X e) (b :: body) (tS T X.K Y f)) (r:Hs X T Y hs ms):Hs X T Y (.ExceptHandler (some (.Name x px)) none (b :: body) pos :: hs) ((m,f) :: ms)
section
variable{X:Cx}{T:Tab}{Y:EX}{pins:List (Addr×Obj)}{σ:L2.St}{H:Hp}
theorem handle(O:Own X){D:Ends}{c:Nat}{Ca:Addr}{e:Addr}(hc:T.cls c=some Ca):∀{hs:List ExceptHandler} {ms:List ((Nat->Bool)×M3.S3)},Hs X T Y hs ms->∀{f:M3.S3},M3.pick c ms=some f->
 ∀{s:Shared} {g:Addr} {z:Value},L2.Inv X pins σ H s->Fly X.s₀.heap H s.heap e (.ref Ca) (some (g,z))->ApP pins e (some (g,z))->tS T X.K Y f D σ H->wpAny (model X.prog X.w) X.A (handleBy (.ref e) X.env hs) (SP X pins D) X.xe s:=by
 intro hs ms hh
 induction hh with
 |nil=>intro f hf;cases hf
 |@cons x px pos cv m b body f0 hs ms hx hg hdb hm hb r ih=>
  intro f hf s g z I fl ap ht
  refine wpAny_handleBy_cons (codeAny_handlers_test ?_) (by intro q;cases q)
  refine mr (X:=mkX X e) (Inv.mk' I) hg hx ?_ hdb
  have lt:PySem.W.Looks (model X.prog X.w) s.heap (typeOf (.ref e)) (.ref Ca):=by
   obtain⟨oe,vs,ge,ce,de,_⟩:=fl.1
   rw[<-ce]
   exact(PySem.W.Looks.ld ge).andThen .now
  refine PySem.W.exm_one I.kIn lt (hm c Ca hc) _ _ _ s (fun _ _ q=>q) ?_
  cases q:m c with
  |false=>
   have hf':M3.pick c ms=some f:=by
    unfold M3.pick at hf
    rw[q,if_neg qC_]at hf
    exact hf
   exact ih hf' I fl ap ht
  |true=>
   have hf':f0=f:=by
    unfold M3.pick at hf
    rw[q,if_pos rfl]at hf
    cases hf;rfl
   subst hf'
   refine codeAny_handlers_suite (pC O I fl ap fun h' I' fl' ap'=>?_)
   exact wpAny_mono (hb e pins {s with heap:=h'} σ H D (Inv.mk' I') ht) (fun fl s' q=>SP.yT I.ok q) fun _ _ z=>z.elim
theorem Gi(O:Own X){D:Ends}{hs:List ExceptHandler}{ms:List ((Nat->Bool)×M3.S3)}(hh:Hs X T Y hs ms)
 {x:Value} {s:Shared} (xp:XP X pins σ (fun cv dx H'=>∃c Ca,cv= .ref Ca/\T.cls c=some Ca/\∃f,M3.pick c ms=some f/\tS T X.K Y f D σ H') x s):
 wpAny (model X.prog X.w) X.A (noteFrame x X.env) (fun _ s₂=>wpAny (model X.prog X.w) X.A (setFlight x none) (fun _ s₃=>wpAny (model X.prog X.w) X.A (handleBy x X.env hs) (SP X pins D) X.xe s₃) X.xe s₂) X.xe s:=by
 obtain⟨e,H',cv,dx,t,rfl,I,fl,ap,c,Ca,rfl,hc,f,hf,ht⟩:=xp
 refine zg O I.ok.frames I fl ap fun h1 g I1 fl1 ap1=>?_
 refine pC O I1 fl1 ap1 fun h2 I2 fl2 ap2=>?_
 exact handle O hc hh hf I2 fl2 ap2 ht
def Hf(T:Tab)(K:PySem.W.Frag)(Y:EX)(ms:List ((Nat->Bool)×M3.S3))(D:Ends)(σ:L2.St):XK:=fun cv dx H'=>∃c Ca,cv= .ref Ca/\T.cls c=some Ca/\∃f,M3.pick c ms=some f/\tS T K Y f D σ H'
theorem As{K:PySem.W.Frag}{ms:List ((Nat->Bool)×M3.S3)}{D:Ends}{fe:M3.E3}{k:M3.D->M3.St->M3.Fl×M3.St}{μ:List Addr}{σ3:M3.St}{G:M3.Hh}{R:VK}(sd:StD K H μ σ3 σ)(h:M3.run (M3.wU fe k ms σ3) G (gm T K μ H D) (Y.x μ H))
 (ok:∀d G' v H1 μ1,Up μ μ1 H H1->Sim T K μ1 H1 G'->Den K H1 μ1 d v->gm T K μ H D (k d σ3) G'->R v H1):M3.run (fe σ3) G (fX T K μ H R) ((EX.of T K (Hf T K Y ms D σ)).x μ H):=
 M3.aC (M3.Cz h) (fun d G' q v H1 μ1 u S1 dv=>ok d G' v H1 μ1 u S1 dv q) fun c G' ⟨f,hf,hr⟩ Ca dx H' μ' hc u S'=>⟨c,Ca,rfl,hc,f,hf,μ',σ3,G',S',sd.up u,M3.aC hr (fun _ _ q=>q.up u) fun _ _ q=>Y.up u q⟩
variable{e:Expr}{fe:M3.E3}{h0:ExceptHandler}{hs:List ExceptHandler}{ms:List ((Nat->Bool)×M3.S3)}{p1 pos:Pos}
theorem BM(O:Own X)(he:PEx X e (tEx T X.K fe))(hh:Hs X T Y (h0 :: hs) ms):PS X (.Try [.Return (some e) p1] (h0 :: hs) [] [] pos) (tS T X.K Y (M3.wU fe (fun d σ=>(.ret d,σ)) ms)):=by
 intro pins s σ H D I ⟨μ,σ3,G,S,sd,h⟩
 refine wpAny_Try_except (wpAny_execs_cons (wpAny_Return_some (wpAny_mono (he pins s σ H (fun v H1=>D.rt v H1) (Hf T X.K Y ms D σ) I ⟨μ,σ3,G,S,sd,As sd h fun d G' v H1 μ1 u S1 dv q=>q σ H1 μ1 u S1 (sd.up u) v dv⟩) (fun v s1 ⟨x,H1,I1,r1,q1⟩=>?_) fun x s1 xp=>Gi O hh xp)))
 exact⟨x,σ,H1,I1,r1,q1⟩
end
section
variable{P:Program}{w:World}{K:PySem.W.Frag}{mg:Str->Option Value}{base:Heap}{CX:CXT}{T:Tab}{x m qual:Str}{st:Stmt}{fa Ca:Addr}{fd:FuncData}{N ps:List Str}{k n C:Nat}{pad:M3.St}{body:M3.S3}
theorem ix(ok:bo P w K mg base CX k fa fd ps (sp3 T K n (M3.fnM n pad body)))(F:Fun K x qual st fa fd)(hm:mg x=some (.ref fa))(hb:Binds K fd ps []):Fn3 P w K mg base CX T k x n (M3.fnM n pad body):=
 ⟨⟨fa,fd,ps,ok,hm,F.kp,hb⟩,fun _ _ _ _ q=>tW q⟩
theorem cC(ok:bo P w K mg base CX k fa fd ps (sp3 T K n (M3.fnM n pad body)))(hc:T.cls C=some Ca)(cl:Cls K Ca)(me:Meth K Ca m fa)(hb:Binds K fd ps [])(no:∀g,T.nm g≠m):Mt3 P w K mg base CX T k C m n (M3.fnM n pad body):=
 ⟨⟨Ca,fa,fd,ps,hc,cl,me,ok,hb⟩,no,fun _ _ _ _ q=>tW q⟩
theorem we(ok:bo P w K mg base CX k fa fd ps (sp3 T K n (M3.fnM n pad body)))(hc:T.cls C=some Ca)(mk:Mk K Ca fa)(hm:mg x=some (.ref Ca))(hb:Binds K fd ps []):Ct3 P w K mg base CX T k x C n (M3.fnM n pad body):=
 ⟨⟨Ca,fa,fd,ps,hc,mk,hm,ok,hb⟩,fun _ _ _ _ q=>tW q⟩
end
end L3
namespace HT
open PySem PyProof.Rows
end HT
namespace L2
open PySem PySem.Spec PyProof.Rows
section
variable{X:Cx}{pins:List (Addr×Obj)}{σ:List (Option V)}{H:Hp}{s:Shared}{h':Heap}
theorem Inv.CG{t':Nat}{fp:List Addr}(I:Inv X pins σ H s)(k:∀b o,b∉fp->s.heap.get? b=some o->h'.get? b=some o)(hf:∀b∈fp,oW X pins H b):Inv X pins σ H {s with heap:=h',toks:=t'}:=by
 have nit:∀b u,H b=some u->b∉fp:=fun b u e z=>by rw[(hf b z).1]at e;cases e
 refine I.step (g':=s.gens) (d':=s.drawn) (ch:=fp) (fun b hb=>⟨(hf b hb).2.2.2.1,(hf b hb).2.1,(hf b hb).2.2.2.2.1,(hf b hb).2.2.2.2.2⟩) (fun b o _ _ hc e _=>k b o hc e) (fun b o _ _ hc e _=>⟨o.slots,k b o hc e⟩) (fun _ _ _ _ n=>n)
  (fun b o hc e=>⟨o,k b o hc e⟩) (fun _ _ e=>e) (fun _ _ _ e=>e) (fun b ps e=>⟨#[],by rw[e];simp⟩) (fun m hm=>?_) (fun b u e=>?_) I.bare
 · obtain⟨o,es,ep,ho,r⟩:=hm
   exact⟨o,es,ep,k _ o (fun z=>(hf _ z).2.1 rfl) ho,r⟩
 · refine(I.hok b u e).ky (fun c v hc q=>k c v ?_ q) (fun _ q=>q) fun _ _ q=>q
   rcases hc with z |z
   · rw[z];exact nit b u e
   · exact nit c _ z
end
def Ite(K:PySem.W.Frag)(a:Addr):It:=
 ⟨fun i H=>∃xs x,SqL K H a xs/\xs[i]? =some x,fun i H x H'=>∃y p,H p=none/\x= .ref p/\H'=upd H p (.tup [.int (i:Int),y])/\∀xs,SqL K H a xs->xs[i]? =some y,fun i H=>∃xs,SqL K H a xs/\xs.length<=i⟩
theorem y7{P:Program}{w:World}{K:PySem.W.Frag}{elts:List Expr}{k:Nat}{pos:Pos}(a e it:Addr)(hne:e≠it):Turn P w K (.Tuple elts k pos) (Ite K a) [e,it] e (fun i h=>(∃old,IsEnum h e it ((i:Nat):Int) old)/\h.IsListIter it a i) where
 mem:=by simp
 obj:=fun i h st b hb=>by
  obtain⟨⟨old,he⟩,o,eo,c,d⟩:=st
  rcases qS_.mp hb with rfl |hb
  · exact⟨_,he,fun v z=>by
     have z':Data.fields _=Data.cell v:=z
     cases z'⟩
  · have e:b=it:=by simpa using hb
    subst e
    exact⟨o,eo,fun v z=>by rw[d]at z;cases z⟩
 keep:=fun i h h' st k=>⟨let ⟨old,he⟩:=st.1;⟨old,k e (by simp) _ he⟩,st.2.at fun o eo=>k it (by simp) o eo⟩
 item:=by
  intro X hP hw hK hc i pins s σ H E I hf st hg
  subst hP hw hK
  obtain⟨⟨old,he⟩,hit⟩:=st
  obtain⟨xs,x,hq,hx⟩:=hg
  obtain⟨its,rv,p,hz⟩:=I.list hq
  obtain⟨u,hu,ru⟩:=rv.get hx
  refine wpAny_pyNext_enum_item he hit p.isList (x:=u) (by simpa using hu) hne fun h₁ heo hit₁ ht₁ hz₁ hk₁=>?_
  have hlt:∀b∈ [e,it],b < s.heap.objs.size:=fun b hb=>by
   rcases qS_.mp hb with rfl |hb
   · exact Heap.lt_size he
   · have eb:b=it:=by simpa using hb
     subst eb
     obtain⟨o,eo,_⟩:=id hit
     exact Heap.lt_size eo
  have I1:Inv X pins σ (upd H s.heap.objs.size (.tup [.int (i:Int),x])) {s with heap:=s.heap.push {cls:= .type "tuple",data:= .seq #[.int (i:Int) s.toks,u]},toks:=s.toks+1}:=
   I.laid (fun b o eb=>Heap.get?_push_of_some _ eb) (qO_ _) ⟨by rw[sizeLine_eq];exact qP_ rfl,[.int (i:Int) s.toks,u],.cons ⟨_,rfl⟩ (.cons ru .nil),⟨_,Heap.get?_push_size _ rfl,rfl,_,rfl⟩⟩
  have hf1:∀b∈ [e,it],oW X pins (upd H s.heap.objs.size (.tup [.int (i:Int),x])) b:=fun b hb=>⟨by rw[aT (Nat.ne_of_lt (hlt b hb))];exact(hf b hb).1,(hf b hb).2⟩
  have I2:Inv X pins σ (upd H s.heap.objs.size (.tup [.int (i:Int),x])) {s with heap:=h₁,toks:=s.toks+1}:=by
   refine Inv.CG (s:={s with heap:=s.heap.push {cls:= .type "tuple",data:= .seq #[.int (i:Int) s.toks,u]},toks:=s.toks+1}) (h':=h₁) (t':=s.toks+1) (fp:=[e,it]) I1 (fun b o hb eb=>?_) hf1
   rcases Heap.get?_push_cases eb with ⟨z1,z2⟩ |z
   · rw[z1,z2];exact ht₁
   · exact hk₁ b o (fun z=>hb (by simp [z])) (fun z=>hb (by simp [z])) z
  refine⟨_,rfl,wpAny_letOwnedTupleGo_enum heo fun h₂ he₂ hs₂=>?_⟩
  obtain⟨f0,f1,f2,f3,f4,f5⟩:=hf1 e (by simp)
  have hs₂:Heap.SameBut e h₁ h₂:=hs₂
  have I3:Inv X pins σ (upd H s.heap.objs.size (.tup [.int (i:Int),x])) {s with heap:=h₂,toks:=s.toks+1}:=I2.turned (t':=s.toks+1) (fun b o hb eb=>(hs₂.2 b hb).trans eb) f0 f1 f3 f4 f5
  refine⟨.ref s.heap.objs.size,_,I3,rfl,⟨x,s.heap.objs.size,I.hok.fresh (qO_ _),rfl,rfl,fun ys hy=>by rw[I.lH hy hq];exact hx⟩,⟨⟨u,?_⟩,hit₁.at fun o eo=>(hs₂.2 it (Ne.symm hne)).trans eo⟩,fun b hb=>(hf1 b hb).1⟩
  have:((i+1:Nat):Int)=(i:Int)+1:=by push_cast;rfl
  rw[this]
  exact he₂
 done:=by
  intro X hP hw hK hc i pins s σ H E I hf st hg
  subst hP hw hK
  obtain⟨⟨old,he⟩,hit⟩:=st
  obtain⟨xs,hq,hx⟩:=hg
  obtain⟨its,rv,p,hz⟩:=I.list hq
  obtain⟨f0,f1,f2,f3,f4,f5⟩:=hf it (by simp)
  have hl:=rv.length
  exact wpAny_pyNext_enum_end (I.ok.hd hc) he hit p.isList (by simp;omega) fun h' eb=>⟨rfl,I.turned (t':=s.toks) (fun b o hb e=>eb b o hb e) f0 f1 f3 f4 f5⟩
 self:=fun _ _ _ _ _ st h=>let ⟨_,he⟩:=st.1;wpAny_pyIter_enum he h
def Eg(K:PySem.W.Frag)(ta:TA):TI:=fun σ H R=>ta σ H fun vs H1=>∃a,vs=[.ref a]/\(∃xs,SqL K H1 a xs)/\R (Ite K a) H1
theorem C6{X:Cx}{l:Expr}{elts:List Expr}{k:Nat}{ptg:Pos}{ta:TA}{p pos:Pos}(hg:Gl X "enumerate")(hm:X.mg "enumerate"=none)(ha:PA X [l] ta)(hs:starEach [l] X.env=[(false,eval l X.env)]:=by rfl):PI X (.Tuple elts k ptg) (.Call (.Name "enumerate" p) [l] [] pos) (Eg X.K ta):=by
 intro pins s σ H R I h
 refine Call_ (o9 I hg hm boot_enumerate (PyProof.Rows.callWith_type1 (thn (ha pos pins s σ H _ I h) fun us s1 ⟨vs,H1,I1,r1,q1⟩=>?_) hs rfl))
 obtain⟨a,e,⟨xs,hq⟩,q⟩:=q1
 subst e
 cases r1 with
 |cons r rr=>
  cases rr
  cases r
  obtain⟨its,rv,pl,hz⟩:=I1.list hq
  refine call_enumerate_list pl.isList fun h' hE hIt hsz hk=>?_
  have I2:Inv X pins σ H1 {s1 with heap:=h'}:=I1.kept (t':=s1.toks) hk
  refine wpAny_pyIter_enum hE ?_
  refine⟨s1.heap.objs.size+1,[s1.heap.objs.size+1,s1.heap.objs.size],_,_,H1,rfl,I2,y7 a _ _ (Nat.succ_ne_self _),⟨⟨.none,hE⟩,hIt⟩,fun b hb=>?_,q⟩
  have hb:s1.heap.objs.size<=b:=by
   rcases qS_.mp hb with rfl |hb
   · exact Nat.le_succ _
   · have:b=s1.heap.objs.size:=by simpa using hb
     exact Nat.le_of_eq this.symm
  exact I1.Ab hb (I1.hok.fresh hb)
end L2
namespace L3
open PySem PySem.Spec PyProof.Rows L2 PySem.SeqAt
section
variable{X:Cx}{T:Tab}{Y:EX}{a b e o i:Expr}{es:List Expr}{fa fb fc:M3.E3}{ft:M3.T3}{f3:M3.A3}{pos pos' p p2 apos:Pos}
theorem FF{elts:List Expr}{k:Nat}{ptg:Pos}(hm:X.mg "enumerate"=none)(ha:PE X a (tE T X.K Y fa))(hg:Gl X "enumerate":=by rfl)(hs:starEach [a] X.env=[(false,eval a X.env)]:=by rfl):PI X (.Tuple elts k ptg) (.Call (.Name "enumerate" p) [a] [] pos) (tI T X.K Y (M3.AL fa)):=by
 refine PI.of (C6 hg hm (jw ha nI hs) hs) fun σ H R ⟨μ,σ3,G,S,sd,h⟩=>⟨μ,σ3,G,S,sd,cQ h fun d G1 v H1 μ1 u1 S1 d1 h1=>?_⟩
 have main:∀{n:Nat} {xs:List M3.D} {o:M3.O} {ck:M3.Hh->Bool} {q:Addr},μ1[n]? =some q->(∀G',ck G'=true->G'[n]? =some o)->(o= .lst xs\/o= .frz xs)->xr T X.K μ1 H1 ⟨M3.j6 xs,ck⟩ (Ite X.K q):=by
  intro n xs o ck q ea hck ho
  have key:∀{μ' H' G'},Up μ1 μ' H1 H'->Sim T X.K μ' H' G'->ck G'=true->∃vs,SqL X.K H' q vs/\aH X.K H' μ' xs vs:=by
   intro μ' H' G' u S c
   have ob:=S.obj n q o (u.at ea) (hck G' c)
   rcases ho with rfl |rfl
   · obtain⟨vs,e1,r⟩:=ob;exact⟨vs,SqL.of e1,r⟩
   · obtain⟨vs,e1,r⟩:=ob;exact⟨vs,e1.sq,r⟩
  have eget:∀{i:Nat} {d:M3.D},(M3.j6 xs)[i]? =some d->∃y,xs[i]? =some y/\d= .tup [.int (i:Int),y]:=by
   intro i d h
   unfold M3.j6 at h
   rw[List.getElem?_mapIdx]at h
   cases z:xs[i]? with
   |none=>rw[z]at h;cases h
   |some y=>rw[z]at h;exact⟨y,rfl,(Option.some.inj h).symm⟩
  refine⟨fun i d μ' H' G' u S c e=>?_,fun i d v μ' H' H'' G' u S c e y=>?_,fun μ' H' G' u S c=>?_⟩
  · obtain⟨vs,sq,r⟩:=key u S c
    obtain⟨y,ey,_⟩:=eget e
    obtain⟨v,e1,_⟩:=r.get ey
    exact⟨vs,v,sq,e1⟩
  · obtain⟨vs,sq,r⟩:=key u S c
    obtain⟨z,ez,rfl⟩:=eget e
    obtain⟨w,e1,dw⟩:=r.get ez
    obtain⟨yv,t,ht,rfl,rfl,hy⟩:=y
    have hy:=hy vs sq
    rw[e1]at hy
    cases hy
    have sm:ji H' (upd H' t (.tup [.int (i:Int),w])):=ji.new _ ht
    exact⟨sm,t,[.int (i:Int),w],rfl,SqT.of bi,⟨_,_,rfl,rfl,_,_,rfl,Den.up (Up.same (μ:=μ') sm) dw,rfl⟩⟩
  · obtain⟨vs,sq,r⟩:=key u S c
    refine⟨vs,sq,Nat.le_of_eq ?_⟩
    rw[<-r.length]
    simp [M3.j6]
 unfold M3.run M3.qr at h1
 cases d with
 |ref n=>
  dsimp only at h1
  obtain⟨q,eq,rfl⟩:=d1
  cases z:G1[n]? with
  |none=>rw[z]at h1;exact False.elim h1
  |some ob=>
   have od:=S1.obj n q ob eq z
   rw[z]at h1
   cases ob with
   |lst xs=>obtain⟨vs,e1,r⟩:=od;exact⟨q,rfl,⟨vs,SqL.of e1⟩,h1 _ H1 μ1 u1 S1 (main eq (fun G' c=>of_decide_eq_true c) (.inl rfl))⟩
   |frz xs=>obtain⟨vs,e1,r⟩:=od;exact⟨q,rfl,⟨vs,e1.sq⟩,h1 _ H1 μ1 u1 S1 (main eq (fun G' c=>of_decide_eq_true c) (.inr rfl))⟩
   |_=>exact False.elim h1
 |_=>exact False.elim h1
theorem yh{K:PySem.W.Frag}{H:Hp}{μ:List Addr}{x:M3.D}{v:V}(d:Den K H μ x v):(V.bl (decide (v= .non)))= .bl (decide (x= .non)):=by
 cases x with
 |non=>cases (show v= .non from d);rfl
 |bl b=>cases (show v= .bl b from d);rfl
 |int b=>cases (show v= .int b from d);rfl
 |str b=>cases (show v= .str b from d);rfl
 |ref n=>obtain⟨_,_,rfl⟩:=d;rfl
 |tup ds=>obtain⟨_,_,rfl,_⟩:=d;rfl
theorem sR{j}(ha:PE X a (tE T X.K Y fa)):PT X (.Compare a [.Is] [.Constant .none j pos'] pos) (tT T X.K Y (M3.tB (M3.eUn M3.qJ fa))):=by
 refine PT.of (Bs (Bi ha)) fun σ H Q ⟨μ,σ3,G,S,sd,h⟩=>?_
 have h:M3.run (M3.bnd (M3.bnd (fa σ3) M3.qJ) M3.asB) G (pe T X.K μ H Q) (Y.x μ H):=h
 rw[M3.mh]at h
 exact⟨μ,σ3,G,S,sd,cQ h fun x G1 v H1 μ1 u1 S1 d1 h1=>⟨decide (x= .non),yh d1,h1 H1 μ1 u1 S1⟩⟩
theorem o6{j}(ha:PE X a (tE T X.K Y fa)):PT X (.Compare a [.IsNot] [.Constant .none j pos'] pos) (tT T X.K Y (M3.tB (M3.eUn M3.mX fa))):=by
 refine PT.of (Bs (Cw ha)) fun σ H Q ⟨μ,σ3,G,S,sd,h⟩=>?_
 have h:M3.run (M3.bnd (M3.bnd (fa σ3) M3.mX) M3.asB) G (pe T X.K μ H Q) (Y.x μ H):=h
 rw[M3.mh]at h
 exact⟨μ,σ3,G,S,sd,cQ h fun x G1 v H1 μ1 u1 S1 d1 h1=>⟨!decide (x= .non),by have:=yh d1;injection this with this;rw[this],h1 H1 μ1 u1 S1⟩⟩
end
end L3
namespace HT
open PySem
theorem mK:entryFor table "dict_itemiterator.__iter__"=some Builtin.«dict_keyiterator.__iter__»:=
 entryFor_alias (id':="dict_keyiterator.__iter__") (by kernel_rfl) (by first |rfl |decide +kernel |(unfold String.splitOn;simp +decide [String.splitOnAux])) (by decide +kernel) (by kernel_rfl)
end HT
namespace L2
open PySem PySem.Spec PyProof.Rows
theorem Bl{k:Key}{u:Value}(h:rz k u=true):RelV (kV k) u:=by
 rcases dC h with ⟨i,t,rfl,rfl⟩ |⟨x,t,rfl,rfl⟩
 · exact⟨t,rfl⟩
 · exact⟨t,rfl⟩
theorem KV.get:∀{kvs:List (Key×V)} {vs:List (Key×Value)} {i:Nat} {k:Key} {v:V},KV kvs vs->kvs[i]? =some (k,v)->∃u,vs[i]? =some (k,u)/\RelV v u
 |_,_,_,_,_,.nil,e=>by simp at e
 |(k1,v1) :: kvs,(k2,u1) :: vs,0,k,v,.cons ⟨h1,h2⟩ t,e=>by
  simp at e
  obtain⟨rfl,rfl⟩:=e
  exact⟨u1,by rw[<-show k1=k2 from h1];rfl,h2⟩
 |(k1,v1) :: kvs,(k2,u1) :: vs,i+1,k,v,.cons _ t,e=>by
  obtain⟨u,h1,h2⟩:=KV.get (i:=i) t (by simpa using e)
  exact⟨u,by simpa using h1,h2⟩
def Itd(d:Addr)(ob:Obj)(kvs:List (Key×V)):It:=
 ⟨fun i H=>H d=some (.frz ob (.dK kvs))/\i < kvs.length,fun i H x H'=>∃k v p,kvs[i]? =some (k,v)/\H p=none/\x= .ref p/\H'=upd H p (.tup [kV k,v]),fun i H=>H d=some (.frz ob (.dK kvs))/\kvs.length<=i⟩
theorem AH{X:Cx}{pins:List (Addr×Obj)}{σ:St}{H:Hp}{s:Shared}{d:Addr}{ob:Obj}{kvs:List (Key×V)}{es:Array DictEntry}{ep:Nat}(I:Inv X pins σ H s)(hob:ob.data= .dict es ep)(hd:H d=some (.frz ob (.dK kvs))):
 ∃vs,KV kvs vs/\s.heap.DictAt (du X.prog X.w) d vs ep/\vs.length=kvs.length:=by
 obtain⟨hg,hz,hS,vs,rv,dd⟩:=(show dO X.prog X.w H s.heap d (.frz ob (.dK kvs))from I.hok d _ hd)
 obtain⟨ep',hat⟩:=dd.dictAt
 obtain⟨o,es',ho,hc,hdat,r⟩:=id hat
 rw[hg]at ho
 cases ho
 rw[hob]at hdat
 injection hdat with h1 h2
 subst h2
 exact⟨vs,rv,hat,rv.length.symm⟩
theorem xM{P:Program}{w:World}{K:PySem.W.Frag}{elts:List Expr}{k:Nat}{pos:Pos}(d it:Addr)(ob:Obj)(kvs:List (Key×V))(es:Array DictEntry)(ep:Nat)(hob:ob.data= .dict es ep):
 Turn P w K (.Tuple elts k pos) (Itd d ob kvs) [it] it (fun i h=>∃ok ov,IsItemIter h it d i kvs.length ep ok ov) where
 mem:=by simp
 obj:=fun i h st b hb=>by
  obtain⟨ok,ov,he⟩:=st
  have e:b=it:=by simpa using hb
  subst e
  exact⟨_,he,fun v z=>by
   have z':Data.fields _=Data.cell v:=z
   cases z'⟩
 keep:=fun i h h' st k=>let ⟨ok,ov,he⟩:=st;⟨ok,ov,k it (by simp) _ he⟩
 item:=by
  intro X hP hw hK hc i pins s σ H E I hf st hg
  subst hP hw hK
  obtain⟨ok,ov,he⟩:=st
  obtain⟨hd,hi⟩:=hg
  obtain⟨vs,rv,hat,hl⟩:=AH I hob hd
  have hkv:kvs[i]? =some (kvs[i].1,kvs[i].2):=qA_ hi
  generalize kvs[i].1=k0 at hkv
  generalize kvs[i].2=v0 at hkv
  obtain⟨u,hu,ru⟩:=KV.get rv hkv
  obtain⟨f0,f1,f2,f3,f4,f5⟩:=hf it (by simp)
  have he':IsItemIter s.heap it d i vs.length ep ok ov:=by rw[hl];exact he
  refine wpAny_pyNext_items_item he' hat hu fun key h₁ hkey heo ht₁ hz₁ hk₁=>?_
  have hlt:it < s.heap.objs.size:=Heap.lt_size he
  have I1:Inv X pins σ (upd H s.heap.objs.size (.tup [kV k0,v0])) {s with heap:=s.heap.push {cls:= .type "tuple",data:= .seq #[key,u]},toks:=s.toks}:=
   I.laid (t':=s.toks) (fun b o eb=>Heap.get?_push_of_some _ eb) (qO_ _) ⟨by rw[sizeLine_eq];exact qP_ rfl,[key,u],.cons (Bl hkey) (.cons ru .nil),⟨_,Heap.get?_push_size _ rfl,rfl,_,rfl⟩⟩
  have g0:upd H s.heap.objs.size (.tup [kV k0,v0]) it=none:=by rw[aT (Nat.ne_of_lt hlt)];exact f0
  have I2:Inv X pins σ (upd H s.heap.objs.size (.tup [kV k0,v0])) {s with heap:=h₁,toks:=s.toks}:=by
   refine Inv.turned (s:={s with heap:=s.heap.push {cls:= .type "tuple",data:= .seq #[key,u]},toks:=s.toks}) (h':=h₁) (t':=s.toks) (it:=it) I1 (fun b o hb eb=>?_) g0 f1 f3 f4 f5
   rcases Heap.get?_push_cases eb with ⟨z1,z2⟩ |z
   · rw[z1,z2];exact ht₁
   · exact hk₁ b o hb z
  refine⟨_,rfl,wpAny_letOwnedTupleGo_items heo fun h₂ he₂ hs₂=>?_⟩
  have hs₂:Heap.SameBut it h₁ h₂:=hs₂
  have I3:Inv X pins σ (upd H s.heap.objs.size (.tup [kV k0,v0])) {s with heap:=h₂,toks:=s.toks}:=I2.turned (t':=s.toks) (fun b o hb eb=>(hs₂.2 b hb).trans eb) g0 f1 f3 f4 f5
  refine⟨.ref s.heap.objs.size,_,I3,rfl,⟨k0,v0,s.heap.objs.size,hkv,I.hok.fresh (qO_ _),rfl,rfl⟩,⟨key,u,by rw[<-hl];exact he₂⟩,fun b hb=>?_⟩
  have e:b=it:=by simpa using hb
  subst e
  exact g0
 done:=by
  intro X hP hw hK hc i pins s σ H E I hf st hg
  subst hP hw hK
  obtain⟨ok,ov,he⟩:=st
  obtain⟨hd,hi⟩:=hg
  obtain⟨vs,rv,hat,hl⟩:=AH I hob hd
  obtain⟨f0,f1,f2,f3,f4,f5⟩:=hf it (by simp)
  have he':IsItemIter s.heap it d i vs.length ep ok ov:=by rw[hl];exact he
  exact wpAny_pyNext_items_end (I.ok.hd hc) he' hat (List.getElem?_eq_none (by omega)) fun h' eb=>⟨rfl,I.turned (t':=s.toks) (fun b o hb e=>eb b o hb e) f0 f1 f3 f4 f5⟩
 self:=fun A i s Q E st h=>by
  obtain⟨ok,ov,he⟩:=st
  have hT:s.TypeIs (.ref it) "dict_itemiterator":=⟨_,he,rfl⟩
  refine wpAny_pyIter_slot hT PySem.F.slot_dict_itemiterator_iter (wpAny_call_entry PySem.F.slot_dict_itemiterator_iter hT HT.mK ?_ (PySem.F.args_dict_itemiterator_iter_1 _))
  show wpAny _ _ (ret (.ref it)) _ _ s
  exact wpAny_pure ⟨_,rfl,"dict_itemiterator",_,hT,PySem.F.slot_dict_itemiterator_next.lookup,h⟩
section
variable{X:Cx}{pins:List (Addr×Obj)}{σ:St}{H:Hp}{s:Shared}{d:Addr}{kvs:List (Key×V)}
theorem Inv.freeze{ob:Obj}(I:Inv X pins σ H s)(hd:H d=some (.dK kvs))(hg:s.heap.get? d=some ob):Inv X pins σ (upd H d (.frz ob (.dK kvs))) s:=by
 have old:=(show dO X.prog X.w H s.heap d (.dK kvs)from I.hok d _ hd)
 have:=I.write (x:=d) (e:=d) (o:= .frz ob (.dK kvs)) (h':=s.heap) (t':=s.toks) (by rw[hd];exact True.intro) (.inl rfl) (fun b u _ e=>e) ⟨ob,hg⟩ ⟨hg,old⟩
 exact this
theorem Inv.HS(I:Inv X pins σ H s)(hd:H d=some (.dK kvs)):∀o u,X.H₀ d≠some (.frz o u):=fun o u z=>by
 have:=I.base.oU d o u z
 rw[hd]at this;cases this
theorem Inv.r6{ob:Obj}(I:Inv X pins σ H s)(hd:H d=some (.frz ob (.dK kvs)))(nf:∀o u,X.H₀ d≠some (.frz o u)):Inv X pins σ (upd H d (.dK kvs)) s:=by
 have ne:∀b,H b=none->b≠d:=fun b n z=>by rw[z,hd]at n;cases n
 obtain⟨hg,old⟩:=(show dO X.prog X.w H s.heap d (.frz ob (.dK kvs))from I.hok d _ hd)
 refine⟨I.ok,I.os,I.bare,⟨I.base.keep,I.base.slot,fun b o q n nx=>?_,I.base.there,fun b xs q=>?_,fun b o u q=>?_,fun b ps q=>?_⟩,I.loc,I.cell,by rw[aT (ne _ I.free)];exact I.free,fun x c e=>by rw[aT (ne _ (I.iC x c e))];exact I.iC x c e,fun p hp=>?_,fun b u q=>?_,I.len⟩
 · have:=I.base.free b o q n nx
   rw[aT (ne _ this)];exact this
 · have:=I.base.rD b xs q
   rw[aT (by rintro rfl;rw[hd]at this;cases this)];exact this
 · have:=I.base.oU b o u q
   by_cases z:b=d
   · subst z;exact absurd q (nf o u)
   · rw[aT z];exact this
 · obtain⟨more,this⟩:=I.base.qS b ps q
   exact⟨more,by rw[aT (by rintro rfl;rw[hd]at this;cases this)];exact this⟩
 · obtain⟨a1,a2,a3⟩:=I.pin p hp
   exact⟨a1,by rw[aT (ne _ a2)];exact a2,a3⟩
 · by_cases z:b=d
   · subst z
     rw[bi]at q
     cases q
     exact old
   · rw[aT z]at q
     refine(I.hok b u q).ky (fun c v hc w=>w) (fun c w=>?_) fun c xs w=>?_
     · rw[aT (by rintro rfl;rw[hd]at w;cases w)];exact w
     · rw[aT (by rintro rfl;rw[hd]at w;cases w)];exact w
end
def EJ(X:Cx)(to:TE):TI:=fun σ H R=>to σ H fun x H1=>∃d kvs,x= .ref d/\H1 d=some (.dK kvs)/\∀ob,(∀o u,X.H₀ d≠some (.frz o u))->R (Itd d ob kvs) (upd H1 d (.frz ob (.dK kvs)))
theorem B0{X:Cx}{o:Expr}{elts:List Expr}{k:Nat}{ptg apos ipos:Pos}{to:TE}(ho:PE X o to)(hbase:attributeBase o "items" X.env (eval o X.env)=eval o X.env:=by rfl)(hline:(apos.endLine==ipos.line)=true:=by rfl):
 PI X (.Tuple elts k ptg) (.Call (.Attribute o "items" apos) [] [] ipos) (EJ X to):=by
 intro pins s σ H R I h
 refine wpAny_Call_method0_late hbase hline (thn (ho pins s σ H _ I h) fun v s1 ⟨x,H1,I1,r1,d,kvs,e,hd,q⟩=>?_)
 subst e
 cases r1
 obtain⟨h1,h2⟩:=w4 I1 (x:= .ref d) rfl (T:="dict") (.inr (.inr (.inl ⟨rfl,.inl ⟨kvs,hd⟩⟩)))
 refine⟨"dict","dict.items",PySem.F.plainAttrs_dict,PySem.F.slot_dict_items,PySem.F.type_dict_items,h1,h2,Calls.callWith_builtin rfl (PySem.evalArgs_none ?_)⟩
 obtain⟨hz,hS,vs,rv,dd⟩:=BE I1.hok hd
 refine call_meetsIn PySem.F.slot_dict_items dd.typeIs PySem.F.entry_dict_items (PySem.F.args_dict_items_1 _) (meets_dict_items (du X.prog X.w) d hS) ⟨⟨vs,dd⟩,?_⟩
 obtain⟨ep,hat⟩:=dd.dictAt
 obtain⟨ob,es,hg,hc,hob,r⟩:=id hat
 have I2:Inv X pins σ H1 {s1 with heap:=s1.heap.push {cls:= .type "dict_items",data:= .fields #[.ref d]}}:=I1.kept (t':=s1.toks) fun b u e=>Heap.get?_push_of_some _ e
 refine wpAny_pyIter_items (knd:=du X.prog X.w) (d:=d) (kvs:=vs) (ep:=ep) ⟨_,Heap.get?_push_size _ rfl,rfl,rfl⟩ (hat.push _) ?_
 have I3:Inv X pins σ H1 {s1 with heap:=(s1.heap.push {cls:= .type "dict_items",data:= .fields #[.ref d]}).push {cls:= .type "dict_itemiterator",data:= .fields #[.none,.bool false,.ref d,.int 0 0,.int vs.length 0,.int ep 0,.none,.none]}}:=I2.kept (t':=s1.toks) fun b u e=>Heap.get?_push_of_some _ e
 have I4:=I3.freeze (ob:=ob) hd (Heap.get?_push_of_some _ (Heap.get?_push_of_some _ hg))
 refine⟨(s1.heap.push {cls:= .type "dict_items",data:= .fields #[.ref d]}).objs.size,[(s1.heap.push {cls:= .type "dict_items",data:= .fields #[.ref d]}).objs.size],_,_,_,rfl,I4,xM d _ ob kvs es ep hob,⟨.none,.none,?_⟩,fun b hb=>?_,q ob (I1.HS hd)⟩
 · rw[rv.length];exact Heap.get?_push_size _ rfl
 · have e:b=(s1.heap.push {cls:= .type "dict_items",data:= .fields #[.ref d]}).objs.size:=by simpa using hb
   subst e
   refine I2.Ab (qO_ _) ?_
   have hn:=I2.hok.fresh (qO_ (s1.heap.push {cls:= .type "dict_items",data:= .fields #[.ref d]}).objs.size)
   rw[aT (by intro z;rw[z]at hn;rw[hd]at hn;cases hn)]
   exact hn
end L2
namespace L3
open PySem PySem.Spec PyProof.Rows L2 PySem.SeqAt
section
variable{X:Cx}{T:Tab}{Y:EX}{a b e o i:Expr}{es:List Expr}{fa fb fc:M3.E3}{ft:M3.T3}{f3:M3.A3}{pos pos' p p2 apos ipos:Pos}
theorem Up.r6{μ μ1:List Addr}{H H1:Hp}{a:Addr}{n:Nat}{ob:Obj}{ws:List (L2.Key×V)}(ea:μ[n]? =some a)(ha:H a=some (.dK ws))(u:Up μ μ1 (upd H a (.frz ob (.dK ws))) H1):Up μ μ1 H (upd H1 a (.dK ws)):=by
 refine⟨u.pre,⟨fun b xs e=>?_,fun b q w e=>?_⟩,fun b w e nb=>?_⟩
 · have hb:b≠a:=by rintro rfl;rw[ha]at e;cases e
   rw[aT hb];exact u.keeps.tup b xs (by rw[aT hb];exact e)
 · have hb:b≠a:=by rintro rfl;rw[ha]at e;cases e
   rw[aT hb];exact u.keeps.frz b q w (by rw[aT hb];exact e)
 · have hb:b≠a:=by rintro rfl;exact nb (qD_ ea)
   rw[aT hb];exact u.rest b w (by rw[aT hb];exact e) nb
theorem Sim.r6{K:PySem.W.Frag}{μ:List Addr}{H:Hp}{G:M3.Hh}{n:Nat}{a:Addr}{ob:Obj}{kvs:List (M3.Key×M3.D)}{ws:List (L2.Key×V)}(S:Sim T K μ H G)(ea:μ[n]? =some a)(hn:G[n]? =some (.dF kvs))(ha:H a=some (.frz ob (.dK ws)))
 (k:Keeps H (upd H a (.dK ws))\/True) (r:Paired (fun(p:M3.Key×M3.D) (q:L2.Key×V)=>p.1=q.1/\Den K (upd H a (.dK ws)) μ p.2 q.2) kvs ws)
 (kd:∀d v,Den K H μ d v->Den K (upd H a (.dK ws)) μ d v) (kds:∀ds vs,aH K H μ ds vs->aH K (upd H a (.dK ws)) μ ds vs):Sim T K μ (upd H a (.dK ws)) (G.set n (.dK kvs)):=by
 have hl:=(qB_.mp hn).1
 refine⟨by rw[qX_];exact S.len,fun m b o q1 q2=>?_,fun m j b o1 o2 hmj q1 q2 q3 q4=>?_⟩
 · by_cases h:m=n
   · subst h
     rw[ea]at q1
     cases q1
     rw[qU_ hl]at q2
     cases q2
     exact⟨ws,bi,r⟩
   · rw[qV_ (Ne.symm h)]at q2
     have od:=S.obj m b o q1 q2
     have ky:isF o=false->∀x,H b=some x->upd H a (.dK ws) b=some x:=fun hf x z=>by
      have hb:b≠a:=by
       rintro rfl
       rcases S.inj m n b o (.dF kvs) h q1 ea q2 hn with z |z
       · rw[hf]at z;cases z
       · cases z
      rw[aT hb];exact z
     cases o with
     |lst xs=>obtain⟨vs,e1,rr⟩:=od;exact⟨vs,ky rfl _ e1,kds _ _ rr⟩
     |frz xs=>
      obtain⟨vs,e1,rr⟩:=od
      refine⟨vs,?_,kds _ _ rr⟩
      rcases e1 with ⟨o',e1⟩ |e1
      · have hb:b≠a:=by rintro rfl;rw[ha]at e1;cases e1
        exact .inl ⟨o',by rw[aT hb];exact e1⟩
      · exact .inr e1
     |dK xs=>obtain⟨vs,e1,rr⟩:=od;exact⟨vs,ky rfl _ e1,Paired.imp' (fun _ _ z=>⟨z.1,kd _ _ z.2⟩) rr⟩
     |dF xs=>obtain⟨o',vs,e1,rr⟩:=od;exact⟨o',vs,ky rfl _ e1,Paired.imp' (fun _ _ z=>⟨z.1,kd _ _ z.2⟩) rr⟩
     |dT xs=>obtain⟨vs,e1,rr⟩:=od;exact⟨vs,ky rfl _ e1,Paired.imp' (fun _ _ z=>⟨z.1,kd _ _ z.2⟩) rr⟩
     |ins C fs=>obtain⟨Ca,dx,vs,hc,e1,rr⟩:=od;exact⟨Ca,dx,vs,hc,ky rfl _ e1,Paired.imp' (fun _ _ z=>⟨z.1,kd _ _ z.2⟩) rr⟩
 · have back:∀(m:Nat) o,(G.set n (.dK kvs))[m]? =some o->∃o',G[m]? =some o'/\isF o'=isF o:=fun m o q=>by
    by_cases h:m=n
    · subst h
      rw[qU_ hl]at q
      cases q
      exact⟨_,hn,rfl⟩
    · rw[qV_ (Ne.symm h)]at q
      exact⟨o,q,rfl⟩
   obtain⟨p1,r1,f1⟩:=back m o1 q3
   obtain⟨p2,r2,f2⟩:=back j o2 q4
   rw[<-f1,<-f2]
   exact S.inj m j b p1 p2 hmj q1 q2 r1 r2
mutual
theorem Den.off{K:PySem.W.Frag}{μ:List Addr}{H:Hp}{a:Addr}{ob:Obj}{ws:List (L2.Key×V)}(ha:H a=some (.frz ob (.dK ws))):∀{d:M3.D} {v:V},Den K H μ d v->Den K (upd H a (.dK ws)) μ d v
 | .non,_,h=>h
 | .bl _,_,h=>h
 | .int _,_,h=>h
 | .str _,_,h=>h
 | .ref _,_,h=>h
 | .tup ds,_,⟨b,vs,e,h,r⟩=>by
   refine⟨b,vs,e,?_,aH.off ha r⟩
   rcases h with (h |⟨o,h⟩) |h
   · exact .inl (.inl (by rw[aT (by rintro rfl;rw[ha]at h;cases h)];exact h))
   · exact .inl (.inr ⟨o,by rw[aT (by rintro rfl;rw[ha]at h;cases h)];exact h⟩)
   · exact .inr h
theorem aH.off{K:PySem.W.Frag}{μ:List Addr}{H:Hp}{a:Addr}{ob:Obj}{ws:List (L2.Key×V)}(ha:H a=some (.frz ob (.dK ws))):∀{ds:List M3.D} {vs:List V},aH K H μ ds vs->aH K (upd H a (.dK ws)) μ ds vs
 | [],_,h=>h
 |_ :: _,_,⟨v,r,e,h,t⟩=>⟨v,r,e,Den.off ha h,aH.off ha t⟩
end
theorem yK{α β:Type}{R:α->β->Prop}:∀{xs:List α} {ys:List β} {i:Nat} {x:α},Paired R xs ys->xs[i]? =some x->∃y,ys[i]? =some y/\R x y
 |_,_,_,_,.nil,e=>by simp at e
 |_,_,0,_,.cons h t,e=>by simp at e;subst e;exact⟨_,rfl,h⟩
 |_,_,i+1,_,.cons h t,e=>by
  obtain⟨y,h1,h2⟩:=yK (i:=i) t (by simpa using e)
  exact⟨y,by simpa using h1,h2⟩
theorem AW{Z:Nat->M3.Hh->Prop}{n:Nat}{kvs:List (M3.Key×M3.D)}{m:M3.M (M3.Fl×M3.St)}{G:M3.Hh}{P:M3.Fl×M3.St->M3.Hh->Prop}(h:M3.run (M3.wy n kvs m) G P Z):
 M3.run m (G.set n (.dF kvs)) (fun p G'=>G'[n]? =some (.dF kvs)/\P p (G'.set n (.dK kvs))) (fun _ _=>False):=by
 unfold M3.run M3.wy at*
 cases q:m (G.set n (.dF kvs))with
 |none=>rw[q]at h;exact h
 |some z=>
  obtain⟨o,G1⟩:=z
  rw[q]at h
  cases o with
  |ok a=>
   dsimp only at h ⊢
   by_cases c:G1[n]? =some (.dF kvs)
   · rw[if_pos c]at h;exact⟨c,h⟩
   · rw[if_neg c]at h;exact False.elim h
  |exc c=>exact False.elim h
def DU(X:Cx)(D:Ends):Ends where
 nx:=fun σ H=>∃d ob kvs,H d=some (.frz ob (.dK kvs))/\(∀o u,X.H₀ d≠some (.frz o u))/\D.nx σ (upd H d (.dK kvs))
 rt:=fun v H=>∃d ob kvs,H d=some (.frz ob (.dK kvs))/\(∀o u,X.H₀ d≠some (.frz o u))/\D.rt v (upd H d (.dK kvs))
 bk:=fun σ H=>∃d ob kvs,H d=some (.frz ob (.dK kvs))/\(∀o u,X.H₀ d≠some (.frz o u))/\D.bk σ (upd H d (.dK kvs))
 ct:=fun σ H=>∃d ob kvs,H d=some (.frz ob (.dK kvs))/\(∀o u,X.H₀ d≠some (.frz o u))/\D.ct σ (upd H d (.dK kvs))
theorem SP.r6{pins:List (Addr×Obj)}{D:Ends}{f:Flow}{s':Shared}(h:SP X pins (DU X D) f s'):SP X pins D f s':=by
 cases f with
 |next=>obtain⟨σ',H',I,d,ob,kvs,hd,nf,q⟩:=h;exact⟨σ',_,I.r6 hd nf,q⟩
 |brk=>obtain⟨σ',H',I,d,ob,kvs,hd,nf,q⟩:=h;exact⟨σ',_,I.r6 hd nf,q⟩
 |cont=>obtain⟨σ',H',I,d,ob,kvs,hd,nf,q⟩:=h;exact⟨σ',_,I.r6 hd nf,q⟩
 |ret u=>obtain⟨v,σ',H',I,r,d,ob,kvs,hd,nf,q⟩:=h;exact⟨v,σ',_,I.r6 hd nf,r,q⟩
theorem Dc{elts:List Expr}{k:Nat}{ptg:Pos}{body:List Stmt}{g:M3.D->M3.St->M3.M M3.St}{f:M3.S3}(hp:PassesOwn (model X.prog X.w) X.A X.env X.xe)(hc:X.calm=true)(ho:PE X o (tE T X.K Y fa))(hg:PG X (.Tuple elts k ptg) (tG T X.K Y g))(hb:PSs X body (tS T X.K Y f))
 (hbase:attributeBase o "items" X.env (eval o X.env)=eval o X.env:=by rfl) (hline:(apos.endLine==ipos.line)=true:=by rfl)
 (hs:∀x,foldedSetIterable (.Call (.Attribute o "items" apos) [] [] ipos) X.env x=pure x:=by intro _;rfl):PS X (.For (.Tuple elts k ptg) (.Call (.Attribute o "items" apos) [] [] ipos) body [] pos) (tS T X.K Y (M3.xR fa g f)):=by
 intro pins s σ H D I ⟨μ,σ3,G,S,sd,h⟩
 refine wpAny_mono (AI hp hc (B0 (elts:=elts) (k:=k) (ptg:=ptg) (apos:=apos) (ipos:=ipos) ho hbase hline) hg hb hs pins s σ H (DU X D) I ⟨μ,σ3,G,S,sd,cQ h fun x G1 v H1 μ1 u1 S1 d1 h1=>?_⟩) (fun _ _ z=>SP.r6 z) fun _ _ z=>z
 unfold M3.wR at h1
 cases x with
 |ref n=>
  obtain⟨c,ec,rfl⟩:=d1
  have h1:M3.run (fun G=>match G[n]? with
   |some (.dK kvs)=>M3.wy n kvs (M3.forL (fun _=>true) (fun x σ=>M3.bnd (g x σ) f) (M3.gr kvs) σ3) G
   |_=>none) G1 (gm T X.K μ H D) (Y.x μ1 H1):=h1
  unfold M3.run at h1
  dsimp only at h1
  cases q:G1[n]? with
  |none=>rw[q]at h1;exact False.elim h1
  |some ob1=>
   have od:=S1.obj n c ob1 ec q
   rw[q]at h1
   cases ob1 with
   |dK kvs=>
    obtain⟨ws,e1,r⟩:=od
    refine⟨c,ws,rfl,e1,fun ob nf=>?_⟩
    have hw:=AW (P:=gm T X.K μ H D) (Z:=Y.x μ1 H1) h1
    have u2:Up μ1 μ1 H1 (upd H1 c (.frz ob (.dK ws))):=Up.set S1 _ ec q rfl
    have S2:Sim T X.K μ1 (upd H1 c (.frz ob (.dK ws))) (G1.set n (.dF kvs)):=S1.set ec q rfl rfl ⟨ob,ws,bi,Paired.imp' (fun _ _ z=>⟨z.1,Den.up u2 z.2⟩) r⟩
    have len:(M3.gr kvs).length=ws.length:=by unfold M3.gr;rw[qM_];exact Paired.length r
    refine⟨fun i m σ' H'=>m=ws.length - i/\i<=ws.length/\∃μ' σ3' G',Up μ1 μ' (upd H1 c (.frz ob (.dK ws))) H'/\Sim T X.K μ' H' G'/\StD X.K H' μ' σ3' σ'/\M3.run (M3.forL (fun _=>true) (fun x σ=>M3.bnd (g x σ) f) ((M3.gr kvs).drop i) σ3') G' (fun p G'=>G'[n]? =some (.dF kvs)/\gm T X.K μ H D p (G'.set n (.dK kvs))) (Y.x μ' H'),
     ⟨_,rfl,qf_ _,μ1,σ3,_,Up.refl _ _,S2,(sd.up u1).up u2,M3.aC hw (fun _ _ z=>z) fun _ _ z=>z.elim⟩,?_⟩
    have fin:∀{σ':L2.St} {H':Hp} {μ':List Addr} {p:M3.Fl×M3.St} {G':M3.Hh},Up μ1 μ' (upd H1 c (.frz ob (.dK ws))) H'->Sim T X.K μ' H' G'->G'[n]? =some (.dF kvs)->gm T X.K μ H D p (G'.set n (.dK kvs))->
     H' c=some (.frz ob (.dK ws))/\gm T X.K μ' (upd H' c (.dK ws)) D p (G'.set n (.dK kvs))/\Sim T X.K μ' (upd H' c (.dK ws)) (G'.set n (.dK kvs))/\(StD X.K H' μ' p.2 σ'->StD X.K (upd H' c (.dK ws)) μ' p.2 σ'):=by
     intro σ' H' μ' p G' u' S' hn hP
     have hf:H' c=some (.frz ob (.dK ws)):=u'.keeps.frz c ob _ bi
     have ut:Up μ1 μ' H1 (upd H' c (.dK ws)):=Up.r6 ec e1 u'
     refine⟨hf,hP.up (u1.trans ut),Sim.r6 S' (u'.at ec) hn hf (.inr True.intro) (Paired.imp' (fun _ _ z=>⟨z.1,Den.up ut z.2⟩) r) (fun _ _ z=>Den.off hf z) fun _ _ z=>aH.off hf z,fun sd'=>⟨sd'.len,fun i d e=>let ⟨v,e1,dv⟩:=sd'.at_ i d e;⟨v,e1,Den.off hf dv⟩⟩⟩
    rintro i m σ' H' ⟨rfl,hi,μ',σ3',G',u',S',sd',q'⟩
    have hf:H' c=some (.frz ob (.dK ws)):=u'.keeps.frz c ob _ bi
    by_cases hlt:i < ws.length
    · rw[List.drop_eq_getElem_cons (by rw[len];exact hlt)]at q'
      obtain⟨_,q2⟩:=sX q'
      have ex:(M3.gr kvs)[i]? =some ((M3.gr kvs)[i]'(by rw[len];exact hlt)):=qA_ _
      generalize (M3.gr kvs)[i]'(by rw[len];exact hlt)=it at ex q2
      refine .inr ⟨⟨hf,hlt⟩,fun σ2 H2=>∃μ2 σ4 G2,Up μ1 μ2 (upd H1 c (.frz ob (.dK ws))) H2/\Sim T X.K μ2 H2 G2/\StD X.K H2 μ2 σ4 σ2/\M3.run (M3.forL (fun _=>true) (fun x σ=>M3.bnd (g x σ) f) ((M3.gr kvs).drop (i+1)) σ4) G2 (fun p G'=>G'[n]? =some (.dF kvs)/\gm T X.K μ H D p (G'.set n (.dK kvs))) (Y.x μ2 H2),
       fun σ2 H2 hN=>⟨_,by omega,rfl,hlt,hN⟩,fun x H'' y=>?_⟩
      obtain⟨k0,v0,t,hkv,ht,rfl,rfl⟩:=y
      have sm:ji H' (upd H' t (.tup [kV k0,v0])):=ji.new _ ht
      have us:Up μ' μ' H' (upd H' t (.tup [kV k0,v0])):=Up.same sm
      have dit:Den X.K (upd H' t (.tup [kV k0,v0])) μ' it (.ref t):=by
       unfold M3.gr at ex
       rw[qQ_]at ex
       cases z:kvs[i]? with
       |none=>rw[z]at ex;cases ex
       |some kd=>
        rw[z]at ex
        cases ex
        obtain⟨q0,z2,h2,h3⟩:=yK r z
        rw[hkv]at z2
        cases z2
        obtain⟨kk,dd⟩:=kd
        have h2:kk=k0:=h2
        subst h2
        refine⟨t,[kV kk,v0],rfl,SqT.of bi,⟨_,_,rfl,?_,_,_,rfl,Den.up us (Den.up u' (Den.up u2 h3)),rfl⟩⟩
        cases kk <;> rfl
      refine⟨μ',σ3',G',_,S'.same sm,sd'.up us,dit,eI (Y.upE us (M3.bt (M3.bt q2))) fun σ5 G5 q5 σ6 H6 μ6 u6 S6 sd6=>?_⟩
      have u6:=us.trans u6
      refine⟨μ6,σ5,G5,S6,sd6,eI (Y.upE u6 q5) fun p G7 q7 σ7 H7 μ7 u7 S7 sd7=>?_⟩
      obtain⟨fl,σ8⟩:=p
      have up:=u'.trans (u6.trans u7)
      cases fl with
      |next=>exact⟨μ7,σ8,G7,up,S7,sd7,Y.upE (u6.trans u7) q7⟩
      |cont=>exact⟨μ7,σ8,G7,up,S7,sd7,Y.upE (u6.trans u7) q7⟩
      |brk=>
       obtain⟨hn,hP⟩:=q7
       obtain⟨z1,z2,z3,z4⟩:=fin (σ':=σ7) up S7 hn hP
       exact⟨c,ob,ws,z1,nf,z2 σ7 _ μ7 (Up.refl _ _) z3 (z4 sd7)⟩
      |ret d=>
       obtain⟨hn,hP⟩:=q7
       obtain⟨z1,z2,z3,z4⟩:=fin (σ':=σ7) up S7 hn hP
       exact fun v dv=>⟨c,ob,ws,z1,nf,z2 σ7 _ μ7 (Up.refl _ _) z3 (z4 sd7) v (Den.off z1 dv)⟩
    · have e:i=ws.length:=by omega
      subst e
      rw[<-len,List.drop_length]at q'
      obtain⟨_,hn,hP⟩:=wG q'
      obtain⟨z1,z2,z3,z4⟩:=fin (σ':=σ') u' S' hn hP
      exact .inl ⟨⟨hf,qO_ _⟩,c,ob,ws,z1,nf,z2 σ' _ μ' (Up.refl _ _) z3 (z4 sd')⟩
   |_=>exact False.elim h1
 |_=>exact False.elim h1
end
open PySem PySem.Spec PyProof.Rows L2
theorem yc{CX:CXT}{P:Program}{w:World}{K:PySem.W.Frag}{mg:Str->Option Value}{base:Heap}{N:List Str}{qual:Str}{scope:Scope}{fa:Addr}{cd:Value}{A:Around}{outer:List Env}{s:Shared}{H:Hp}{E:XK}:
 Own (nu CX P w K mg base N qual scope fa cd A outer s H E).nox:=⟨rfl,rfl,rfl,rfl⟩
def clF(cs xs:List Addr)(c:Nat):Option Addr:=if c < 1000 then cs[c]? else xs[c - 1000]?
theorem EZ{cs xs:List Addr}{c:Nat}{Ca:Addr}(e:clF cs xs c=some Ca)(hc:c < 1000):Ca∈cs:=by
 unfold clF at e
 rw[if_pos hc]at e
 exact qD_ e
def clP(cs xs:List Addr):List (Addr×Nat):=cs.mapIdx (fun i a=>(a,i))++xs.mapIdx fun i a=>(a,1000+i)
theorem Gz{cs xs:List Addr}{c:Nat}{Ca:Addr}(e:clF cs xs c=some Ca):(Ca,c)∈clP cs xs:=by
 unfold clF at e
 unfold clP
 by_cases hc:c < 1000
 · rw[if_pos hc]at e
   refine qF_ _ (qD_ (i:=c) ?_)
   rw[List.getElem?_mapIdx,e];rfl
 · rw[if_neg hc]at e
   refine qE_ _ (qD_ (i:=c - 1000) ?_)
   rw[List.getElem?_mapIdx,e]
   show some (Ca,1000+(c - 1000))=some (Ca,c)
   rw[show 1000+(c - 1000)=c by omega]
theorem oT{K:PySem.W.Frag}{cs xs:List Addr}{C:Addr}{k:Nat}(h:((clP cs xs).all fun p=>PySem.W.exmOne K (.ref p.1) (.ref C)==some (decide (p.2=k)))=true){c:Nat}{Ca:Addr}(e:clF cs xs c=some Ca):PySem.W.exmOne K (.ref Ca) (.ref C)=some (decide (c=k)):=
 eq_of_beq (List.all_eq_true.mp h _ (Gz e))
theorem getD_inj{L:List Str}(nd:L.Nodup)(ne:Str.empty∉L){f g:Nat}(hf:f < L.length)(h:L.getD g Str.empty=L.getD f Str.empty):g=f:=by
 have e1:L.getD f Str.empty=L[f]:=by rw[List.getD_eq_getElem?_getD,qA_ hf];rfl
 by_cases hg:g < L.length
 · have e2:L.getD g Str.empty=L[g]:=by rw[List.getD_eq_getElem?_getD,qA_ hg];rfl
   rw[e1,e2]at h
   exact(List.getElem_inj nd).mp h
 · have e2:L.getD g Str.empty=Str.empty:=by rw[List.getD_eq_getElem?_getD,List.getElem?_eq_none (by omega)];rfl
   rw[e1,e2]at h
   exact absurd (h ▸ List.getElem_mem hf) ne
theorem dZ{L:List Str}{K:PySem.W.Frag}{cl:Nat->Option Addr}{Cs:List Addr}{f:Nat}(hcl:∀c Ca,cl c=some Ca->c < 1000->Ca∈Cs)(hC:∀Ca,Ca∈Cs->Cls K Ca/\∀x∈L,kC K Ca x)(nd:L.Nodup)(ne:Str.empty∉L)(hf:f < L.length):
 fg ⟨cl,fun g=>L.getD g Str.empty⟩ K f:=by
 refine⟨fun C Ca hlt e=>?_,fun g h=>getD_inj nd ne hf h⟩
 obtain⟨h1,h2⟩:=hC Ca (hcl C Ca e hlt)
 refine⟨h1,h2 _ ?_⟩
 show L.getD f Str.empty∈L
 rw[List.getD_eq_getElem?_getD,qA_ hf]
 exact List.getElem_mem hf
theorem Hr{L:List Str}{m:Str}(h:m∉L)(h0:m≠Str.empty)(g:Nat):L.getD g Str.empty≠m:=by
 intro e
 by_cases hg:g < L.length
 · rw[List.getD_eq_getElem?_getD,qA_ hg]at e
   exact h (e ▸ List.getElem_mem hg)
 · rw[List.getD_eq_getElem?_getD,List.getElem?_eq_none (by omega)]at e
   exact h0 e.symm
def AQ(nm:Nat->Str)(K:PySem.W.Frag)(n:Nat)(f:List M3.D->M3.M M3.D):Sp:=fun vs H Q E=>∀cl,sp3 ⟨cl,nm⟩ K n f vs H Q E
theorem ER{P:Program}{w:World}{K:PySem.W.Frag}{mg:Str->Option Value}{base:Heap}{CX:CXT}{k n:Nat}{fa:Addr}{fd:FuncData}{ps:List Str}{nm:Nat->Str}{f:List M3.D->M3.M M3.D}{cl:Nat->Option Addr}(F:bo P w K mg base CX k fa fd ps (sp3 ⟨cl,nm⟩ K n f)):
 bo P w K mg base CX k fa fd ps (AQ nm K n f):=F.imp fun vs H Q E q=>q cl
theorem Dr{nm:Nat->Str}{K:PySem.W.Frag}{f:List M3.D->M3.M M3.D}{n:Nat}(h:∀ns:List Int,ns.length<=n->M3.run (f [.ref 0]) [.frz (ns.map M3.D.int)] (fun d _=>d= .bl true) fun _ _=>False)
 {H:Hp} {a:Addr} {ns:List Int} (hl:ns.length<=n) (hO:BB H) (sq:SqL K H a (ns.map V.int)):AQ nm K 1 f [.ref a] H (fun v _=>v= .bl true) fun _ _ _=>False:=fun cl=>EG h hl hO sq
open PySem
theorem bz{xs:List Expr}{k:Nat}{p:Pos}{es:List Expr}{env:Env}:starEach (.Tuple xs k p :: es) env=(false,eval (.Tuple xs k p) env) :: starEach es env:=rfl
theorem lJ{xs:List Expr}{p:Pos}{es:List Expr}{env:Env}:starEach (.List xs p :: es) env=(false,eval (.List xs p) env) :: starEach es env:=rfl
theorem ai{c:Const}{k:Nat}{p:Pos}{es:List Expr}{env:Env}:starEach (.Constant c k p :: es) env=(false,eval (.Constant c k p) env) :: starEach es env:=rfl
theorem aj{x:Str}{p:Pos}{es:List Expr}{env:Env}:starEach (.Name x p :: es) env=(false,eval (.Name x p) env) :: starEach es env:=rfl
theorem dQ{f:Expr}{as:List Expr}{ks:List Keyword}{p:Pos}{es:List Expr}{env:Env}:starEach (.Call f as ks p :: es) env=(false,eval (.Call f as ks p) env) :: starEach es env:=rfl
theorem fx{a b:Expr}{o:Operator}{p:Pos}{es:List Expr}{env:Env}:starEach (.BinOp a o b p :: es) env=(false,eval (.BinOp a o b p) env) :: starEach es env:=rfl
theorem aX{a b:Expr}{p:Pos}{es:List Expr}{env:Env}:starEach (.Subscript a b p :: es) env=(false,eval (.Subscript a b p) env) :: starEach es env:=rfl
theorem bE{a:Expr}{x:Str}{p:Pos}{es:List Expr}{env:Env}:starEach (.Attribute a x p :: es) env=(false,eval (.Attribute a x p) env) :: starEach es env:=rfl
theorem vY{a:Expr}{os:List CmpOp}{bs:List Expr}{p:Pos}{es:List Expr}{env:Env}:starEach (.Compare a os bs p :: es) env=(false,eval (.Compare a os bs p) env) :: starEach es env:=rfl
theorem nH{xs:List Expr}{p:Pos}{t:Option Expr}{l:Nat}{env:Env}:swapsWith (.List xs p) t l env=pure false:=rfl
theorem yg{x:Str}{p:Pos}{t:Option Expr}{l:Nat}{env:Env}:swapsWith (.Name x p) t l env=pure false:=rfl
theorem aN{f:Expr}{as:List Expr}{ks:List Keyword}{p:Pos}{t:Option Expr}{l:Nat}{env:Env}:swapsWith (.Call f as ks p) t l env=pure false:=rfl
theorem ik{a b:Expr}{o:Operator}{p:Pos}{t:Option Expr}{l:Nat}{env:Env}:swapsWith (.BinOp a o b p) t l env=pure false:=rfl
theorem jM{a b:Expr}{p:Pos}{t:Option Expr}{l:Nat}{env:Env}:swapsWith (.Subscript a b p) t l env=pure false:=rfl
theorem yo{a:Expr}{x:Str}{p:Pos}{t:Option Expr}{l:Nat}{env:Env}:swapsWith (.Attribute a x p) t l env=pure false:=rfl
theorem GN{a:Expr}{o:UnaryOp}{p:Pos}{t:Option Expr}{l:Nat}{env:Env}:swapsWith (.UnaryOp o a p) t l env=pure false:=rfl
theorem tZ{T:Tab}{X:Cx}{Y:EX}{o e:Expr}{fa fb:M3.E3}{apos pos:Pos}(ho:PE X o (tE T X.K Y fa))(he:PE X e (tE T X.K Y fb))
 (hs:starEach (e :: []) X.env=(false,eval e X.env) :: starEach [] X.env)
 (hbase:attributeBase o "extend" X.env (eval o X.env)=eval o X.env:=by rfl)
 (hline:(apos.endLine==pos.line)=true:=by rfl):
 PE X (.Call (.Attribute o "extend" apos) [e] [] pos) (tE T X.K Y (M3.vi fa fb)):=by
 refine vU ho he hbase ?_ hline hs rfl
 rw[hs]
 rfl
end L3
namespace M3
open PySem
section
variable{α β:Type}{G G':Hh}{E:Nat->Hh->Prop}{σ:St}
variable{Q:D->Hh->Prop}{QB:Bool->Hh->Prop}{QA:List D->Hh->Prop}{QS:Fl×St->Hh->Prop}{QU:Unit->Hh->Prop}{QI:Src->Hh->Prop}{QG:St->Hh->Prop}
theorem uB{QP:Option Int->Hh->Prop}(h:QP none G):run (oH σ) G QP E:=h
theorem oQ{e:E3}{QP:Option Int->Hh->Prop}(h:run (e σ) G (fun d G1=>run (asI d) G1 QP E) E):run (lF e σ) G QP E:=aK h
theorem wH{i:Int}{QP:Option Int->Hh->Prop}(h:QP (some i) G):run (asI (.int i)) G QP E:=h
theorem HN{n:Nat}{xs:List D}{lo hi:Option Int}(hn:G[n]? =some (.frz xs))(h:Q (.ref G.length) (G++[.lst (cutD xs lo hi)])):run (oSl (.ref n) lo hi) G Q E:=by
 unfold run oSl
 dsimp only
 rw[hn]
 exact h
theorem B2{e:E3}(h:run (e σ) G (fun x G1=>run (qr x) G1 QI E) E):run (AL e σ) G QI E:=aK h
theorem Dj{n:Nat}{xs:List D}(hl:G[n]? =some (.lst xs))(h:QI ⟨j6 xs,fun G'=>decide (G'[n]? =some (.lst xs))⟩ G):run (qr (.ref n)) G QI E:=by
 refine aW (G':=G) ?_ h
 unfold qr;dsimp only;rw[hl]
theorem zb{xs:List D}{i:Nat}{x:D}(h:(j6 xs)[i]? =some x):∃y,xs[i]? =some y/\x= .tup [.int (i:Int),y]:=by
 unfold j6 at h
 rw[List.getElem?_mapIdx]at h
 cases q:xs[i]? with
 |none=>rw[q]at h;cases h
 |some y=>rw[q]at h;exact⟨y,rfl,(Option.some.inj h).symm⟩
theorem zU{xs:List D}:(j6 xs).length=xs.length:=by simp [j6]
theorem lK{j:Nat}(hj:j<=1000000)(h:QI ⟨rng 0 j,fun _=>true⟩ G):run (Ck (.int (j:Int))) G QI E:=by
 have c:tf (j:Int)=true:=by unfold tf;exact qZ_ (by omega)
 show run (if tf (j:Int)=true then ret (⟨rng 0 (j:Int).toNat,fun _=>true⟩:Src)else fail) G QI E
 rw[if_pos c,Int.toNat_natCast];exact h
theorem qW{n:Nat}{body:D->St->M (Fl×St)}(P:Nat->St->Hh->Prop)
 (hs:∀(i:Nat) σ G,i < n->P i σ G->run (body (.int (i:Int)) σ) G (fun p G1=>match p.1 with
   | .next=>P (i+1) p.2 G1
   | .cont=>P (i+1) p.2 G1
   | .brk=>QS (.next,p.2) G1
   | .ret d=>QS (.ret d,p.2) G1) E)
 (hd:∀σ G,P n σ G->QS (.next,σ) G) (h0:P 0 σ G):run (forL (fun _=>true) body (rng 0 n) σ) G QS E:=by
 refine ra (xs:=rng 0 n) P (fun _ _ _ _=>rfl) (fun i x σ G hx p=>?_) (fun σ G p=>hd σ G (by rw[qf]at p;exact p)) _ 0 σ G List.drop_zero (qf_ _) h0
 obtain⟨rfl,hi⟩:=oF hx
 rw[Int.zero_add]
 exact hs i σ G hi p
theorem kN{α:Type}{f:α->D}{xs:List α}{ck:Hh->Bool}{body:D->St->M (Fl×St)}(P:Nat->St->Hh->Prop)(hck:∀i σ G,P i σ G->ck G=true)
 (hs:∀(i:Nat) x σ G,xs[i]? =some x->P i σ G->run (body (f x) σ) G (fun p G1=>match p.1 with
   | .next=>P (i+1) p.2 G1
   | .cont=>P (i+1) p.2 G1
   | .brk=>QS (.next,p.2) G1
   | .ret d=>QS (.ret d,p.2) G1) E)
 (hd:∀σ G,P xs.length σ G->QS (.next,σ) G) (h0:P 0 σ G):run (forL ck body (xs.map f) σ) G QS E:=by
 refine ra (xs:=xs.map f) P hck (fun i x σ G hx p=>?_) (fun σ G p=>hd σ G (by rw[qM_]at p;exact p)) _ 0 σ G List.drop_zero (qf_ _) h0
 rw[qQ_]at hx
 cases q:xs[i]? with
 |none=>rw[q]at hx;cases hx
 |some y=>
  rw[q]at hx
  cases hx
  exact hs i y σ G q p
theorem AV{b:Bool}(h:Q (.int (if b then 1 else 0)) G):run (uH [.bl b]) G Q E:=h
theorem Fg{n:Nat}{kvs:List (Key×D)}(hl:G[n]? =some (.dK kvs))(h:Q (.int kvs.length) G):run (fw [.ref n]) G Q E:=by
 refine aW (a:= .int kvs.length) (G':=G) ?_ h
 unfold fw;dsimp only;rw[hl]
end
end M3
local macro_rules |`(tactic|walk_at "f")=>`(tactic|(refine M3.FL rfl ?_;simp only[List.map_cons,List.map_nil,List.cons_append,qc_]))
local macro_rules |`(tactic|walk_at "r")=>`(tactic|repeat walk_at "w")
local macro_rules |`(tactic|walk_at "s")=>`(tactic|simp only[List.set_cons_succ,List.set_cons_zero])
local macro_rules |`(tactic|walk_at "w")=>`(tactic|first
 |with_reducible refine M3.bc ?_ |((with_reducible refine' M3.w_var ?e1 ?_);case e1=>rfl) |with_reducible refine M3.w_c ?_ |with_reducible refine M3.aI ?_
 |((with_reducible refine M3.w_next ?_);try walk_at "s") |with_reducible refine M3.D7 ?_
 |with_reducible refine M3.bJ ?_ |with_reducible refine M3.fQ ?_ |with_reducible refine M3.cS ?_ |with_reducible refine M3.eE ?_ |with_reducible refine M3.m7 ?_
 |with_reducible refine M3.dq ?_ |with_reducible refine M3.ay ?_ |with_reducible refine M3.aJ ?_
 |with_reducible refine M3.ym ?_ |with_reducible refine M3.BG ?_ |with_reducible refine M3.t6 ?_
 |with_reducible refine M3.jJ ?_ |with_reducible refine M3.nS ?_ |with_reducible refine M3.xw ?_ |with_reducible refine M3.vz ?_ |with_reducible refine M3.oV ?_
 |with_reducible refine M3.iy ?_ |with_reducible refine M3.qx ?_ |with_reducible refine M3.Am ?_ |with_reducible refine M3.HK ?_ |with_reducible refine M3.Fv ?_ |with_reducible refine M3.GO ?_
 |with_reducible refine M3.nj ?_ |with_reducible refine M3.o5 ?_ |with_reducible refine M3.qb ?_ |with_reducible refine M3.p7 ?_ |with_reducible refine M3.jD ?_
 |with_reducible refine M3.xc ?_ |with_reducible refine M3.Ax ?_ |((with_reducible refine' M3.EI ?e1 ?_);case e1=>decide) |((with_reducible refine' M3.Fj ?e1 ?_);case e1=>decide) |((with_reducible refine' M3.jI ?e1 ?_);case e1=>decide)
 |with_reducible refine M3.Hi ?_ |with_reducible refine M3.HV ?_ |with_reducible refine M3.w_leI ?_ |with_reducible refine M3.DM ?_
 |((with_reducible refine' M3.GQ ?e1 ?e2 ?_);(case e1=>rfl);(case e2=>rfl))
 |((with_reducible refine' M3.cy ?e1 ?_);case e1=>rfl)
 |(first |with_reducible refine M3.w_is_int_non ?_ |with_reducible refine M3.w_is_int_bl ?_ |with_reducible refine M3.uh ?_ |with_reducible refine M3.w_is_int_str ?_ |with_reducible refine M3.w_is_int_tup ?_ |with_reducible refine M3.w_is_bl_non ?_ |with_reducible refine M3.w_is_bl_bl ?_ |with_reducible refine M3.vp ?_ |with_reducible refine M3.w_is_bl_str ?_ |with_reducible refine M3.w_is_bl_tup ?_ |with_reducible refine M3.w_is_str_non ?_ |with_reducible refine M3.w_is_str_bl ?_ |with_reducible refine M3.w_is_str_int ?_ |with_reducible refine M3.t8 ?_ |with_reducible refine M3.w_is_str_tup ?_ |with_reducible refine M3.w_is_tup_non ?_ |with_reducible refine M3.w_is_tup_bl ?_ |with_reducible refine M3.w_is_tup_int ?_ |with_reducible refine M3.w_is_tup_str ?_ |with_reducible refine M3.uM ?_ |with_reducible refine M3.w_is_lst_non ?_ |with_reducible refine M3.w_is_lst_bl ?_ |with_reducible refine M3.w_is_lst_int ?_ |with_reducible refine M3.w_is_lst_str ?_ |with_reducible refine M3.w_is_lst_tup ?_ |with_reducible refine M3.w_is_dic_non ?_ |with_reducible refine M3.w_is_dic_bl ?_ |with_reducible refine M3.w_is_dic_int ?_ |with_reducible refine M3.w_is_dic_str ?_ |with_reducible refine M3.w_is_dic_tup ?_)
 |with_reducible refine M3.Bq ?_ |with_reducible refine M3.w_negI ?_ |with_reducible refine M3.qT ?_ |with_reducible refine M3.qR ?_ |with_reducible refine M3.w_min ?_ |with_reducible refine M3.w_max ?_
 |with_reducible refine M3.pA ?_ |with_reducible refine M3.gF ?_ |with_reducible refine M3.w_iRng2 ?_ |with_reducible refine M3.qN ?_ |with_reducible refine M3.uo ?_ |with_reducible refine M3.Hz ?_ |with_reducible refine M3.kT ?_
 |with_reducible refine M3.nB ?_ |with_reducible refine M3.va ?_
 |with_reducible refine M3.w_dict0 ?_ |with_reducible refine M3.Ft ?_ |with_reducible refine M3.Cg ?_ |with_reducible refine M3.uB ?_ |with_reducible refine M3.oQ ?_ |with_reducible refine M3.wH ?_
 |with_reducible refine M3.B2 ?_ |with_reducible refine M3.w_revL ?_ |with_reducible refine M3.w_asg ?_ |((with_reducible refine' M3.w_gTup ?e1 ?_);case e1=>rfl) |with_reducible refine M3.w_gaNil ?_ |with_reducible refine M3.w_gaCons ?_ |with_reducible refine M3.w_gSub ?_ |with_reducible refine M3.w_intI ?_ |with_reducible refine M3.AV ?_
 |((with_reducible refine' M3.D0 ?e1 ?_);(case e1=>rfl);try walk_at "s")
 |((with_reducible refine' M3.Gp ?e1 ?_);case e1=>exact qP_ rfl)
 |with_reducible refine And.intro (show (_:Nat)<=M3.aM from qP_ (by with_unfolding_all rfl)) ?_
 |with_reducible refine M3.w_fld ?_ |with_reducible refine M3.gX ?_ |with_reducible refine M3.bT ?_ |with_reducible refine M3.wz ?_ |with_reducible refine M3.yM ?_ |with_reducible refine M3.E9 ?_ |with_reducible refine M3.CF ?_ |with_reducible refine M3.w_isNon ?_
 |((with_reducible refine' M3.bI ?e1 ?e2 ?e3 ?_);(case e1=>assumption);(case e2=>decide);(case e3=>rfl))
 |((with_reducible refine' M3.dI ?e1 ?_);(case e1=>assumption))
 |with_reducible refine M3.aK ?_)
namespace KH
open PySem M3
def Ext(G G':Hh):Prop:=∃r,G'=G++r
theorem Ext.refl(G:Hh):Ext G G:=⟨[],by simp⟩
theorem Ext.trans{A B C:Hh}(a:Ext A B)(b:Ext B C):Ext A C:=by
 obtain⟨r,rfl⟩:=a
 obtain⟨t,rfl⟩:=b
 exact⟨r++t,by simp⟩
theorem Ext.add(G:Hh)(o:O):Ext G (G++[o]):=⟨[o],rfl⟩
theorem Ext.get{A B:Hh}(a:Ext A B){n:Nat}{o:O}(h:A[n]? =some o):B[n]? =some o:=by
 obtain⟨r,rfl⟩:=a
 rw[qK_ (qB_.mp h).1]
 exact h
theorem bK(G:Hh)(o:O):(G++[o])[G.length]? =some o:=by simp
theorem take_succ{α:Type}{xs:List α}{i:Nat}{x:α}(h:xs[i]? =some x):xs.take (i+1)=xs.take i++[x]:=by
 rw[List.take_add_one,h];rfl
theorem uI{α:Type}{f:α->D}{ps:List α}{i:Nat}{x:D}(h:(ps.map f)[i]? =some x):∃p,ps[i]? =some p/\x=f p:=by
 rw[qQ_]at h
 cases e:ps[i]? with
 |none=>rw[e]at h;cases h
 |some p=>rw[e]at h;exact⟨p,rfl,(Option.some.inj h).symm⟩
theorem lR{α:Type}{f:α->D}{xs:List α}{i:Nat}{x:α}(h:xs[i]? =some x):atI (xs.map f) (i:Int)=some (f x):=by
 have hl:=(qB_.mp h).1
 unfold atI M3.ixN
 rw[if_pos (Int.natCast_nonneg _),qM_,if_pos (by exact_mod_cast hl)]
 simp [h]
theorem A1{α:Type}{f:α->D}{xs:List α}{i:Int}{x:α}(h0:0<=i)(h:xs[i.toNat]? =some x):atI (xs.map f) i=some (f x):=by
 have:=lR (f:=f) h
 rwa [Int.toNat_of_nonneg h0]at this
theorem eq_int{G:Hh}{k:Nat}{a b:Int}:eqG G (k+1) (.int a) (.int b)=some (decide (a=b)):=rfl
theorem rJ{G:Hh}{p:Int}:∀{os:List Int},rH G (.int p) (os.map D.int)=some (decide (p∈os))
 | []=>by simp [rH]
 |a :: r=>by
  have ih:=rJ (G:=G) (p:=p) (os:=r)
  show (match eqG G 8 (.int a) (.int p),rH G (.int p) (r.map D.int)with
   |some p,some q=>some (p||q)
   |_,_=>none)=_
  rw[ih]
  show some (decide (a=p)||decide (p∈r))=_
  congr 1
  simp only[qS_,Bool.decide_or]
  congr 1
  exact decide_eq_decide.mpr ⟨Eq.symm,Eq.symm⟩
theorem sT{κ:Type} [DecidableEq κ]{kvs:List (κ×D)}{k:κ}:look kvs k=none↔k∉kvs.map (·.1):=by
 unfold look
 rw[Option.map_eq_none_iff,List.find?_eq_none]
 constructor
 · intro h z
   obtain⟨kv,hm,e⟩:=qH_.mp z
   exact h kv hm (qZ_ e)
 · intro h kv hm e
   exact h (qH_.mpr ⟨kv,hm,of_decide_eq_true e⟩)
theorem v9{κ:Type} [DecidableEq κ]{kvs:List (κ×D)}{k:κ}:(look kvs k).isSome=decide (k∈kvs.map (·.1)):=by
 by_cases h:k∈kvs.map (·.1)
 · rw[qZ_ h]
   cases q:look kvs k with
   |none=>exact absurd h (sT.mp q)
   |some _=>rfl
 · rw[qa_ h,sT.mpr h];rfl
end KH
namespace KC
open PySem M3
def tw:S3:=
    (aU (eOp oGt (eOp gH (af 1) (eC (.int 2))) (af 0)))
def md:List D->M D:=fnM 2 [] tw
def wg:S3:=
    (aD (bY 1 (eC (.tup [(.tup [(.int 0),(.int 0)]),(.int 0)])))
    (aD (kJ (iOf (af 0)) (gNm 2) (sIf (tB (eOp oGt (eOp oIx (af 2) (eC (.int 0))) (eOp oIx (af 1) (eC (.int 0))))) (bY 1 (af 2)) bU))
    (aU (af 1))))
def oO:List D->M D:=fnM 1 [none,none] wg
def m6:S3:=
    (aD (bY 3 (gL (iOf (af 0)) [] jV (eOp oIx (eOp oIx (af 0) (eC (.int 0))) (eC (.int 0)))))
    (aU (cH (ah (eOp gC (aP yU (ah (eOp gC (af 3) (fu (ah (af 1) ax))) ax)) (eC (.int 1))) (ah (af 2) ax)))))
def g8:List D->M D:=fnM 3 [none] m6
def pF:S3:=
    (aD (cm (af 0) 0 (af 1))
    (aD (cm (af 0) 1 (af 2))
    (aD (cm (af 0) 2 (eC (.bl false)))
    (aD (cm (af 0) 3 (eC .non))
    (aD (cm (af 0) 4 (eC .non))
    (aD (cm (af 0) 5 (eC (.int 0)))
    (aD (cm (af 0) 6 rh)
    (cm (af 0) 7 (eC (.int 0))))))))))
def jx:List D->M D:=fnM 3 [] pF
def lE:S3:=
    (aD (bY 1 (gL (gI (bB (af 0) 1)) [0] (tB (eOp oY (af 0) (bB (af 1) 6))) (af 0)))
    (aU (gL (iOf (af 1)) [0] jV (cH (ah (bB (af 1) 0) (ah (af 0) (ah (bB (af 1) 5) (ah (bB (af 1) 4) ax))))))))
def eD:List D->M D:=fnM 1 [none] lE
def iY:S3:=
    (aD (cm (af 0) 5 (eOp gC (bB (af 0) 5) (eC (.int 1))))
    (aD (cm (af 0) 4 (af 1))
    (aD (cm (af 0) 6 rh)
    (aU (aZ 0 eD (af 0) ax)))))
def cP:List D->M D:=fnM 2 [] iY
def oB:S3:=
    (aD (sIf (tOf (bB (af 0) 2)) (m9 1004 (ah (eC (.str "the hand is at work already")) ax)) bU)
    (aD (cm (af 0) 2 (eC (.bl true)))
    (aD (cm (af 0) 3 (af 1))
    (aU (aZ 0 cP (af 0) (ah (eC .non) ax))))))
def fI:List D->M D:=fnM 2 [] oB
def jb:S3:=
    (aU (aZ 0 fI (af 0) (ah (af 1) ax)))
def eK:List D->M D:=fnM 2 [] jb
def jr:S3:=
    (aU (aZ 0 fI (af 0) (ah (eC .non) ax)))
def e9:List D->M D:=fnM 1 [] jr
def iV:S3:=
    (sIf (iD (tOf (bB (af 0) 2))) (m9 1005 (ah (eC (.str "the hand is not at work")) ax)) bU)
def cI:List D->M D:=fnM 1 [] iV
def jo:S3:=
    (aD (cY (aZ 0 cI (af 0) ax))
    (aU (aZ 0 eD (af 0) ax)))
def fi:List D->M D:=fnM 1 [] jo
def lC:S3:=
    (aD (cY (aZ 0 cI (af 0) ax))
    (cm (af 0) 2 (eC (.bl false))))
def gD:List D->M D:=fnM 1 [] lC
def mZ:S3:=
    (aD (bY 1 (Aq (bB (af 0) 6)))
    (aD (sIf (tB (eUn qJ (bB (af 0) 3))) (aU (aP oO (ah (af 1) ax))) bU)
    (aD (bY 2 (aP g8 (ah (af 1) (ah (bB (af 0) 7) (ah (bB (af 0) 0) ax)))))
    (aD (cm (af 0) 7 (eOp oIx (af 2) (eC (.int 0))))
    (aU (cH (ah (af 2) (ah (bB (af 0) 3) ax))))))))
def g7:List D->M D:=fnM 1 [none,none] mZ
def pN:S3:=
    (aD (sIf (tOr (iD (tOf (bB (af 0) 2))) (tB (eOp oNe (eOp oIx (af 1) (eC (.int 2))) (bB (af 0) 5)))) (aU (cH (ah (fu ax) (ah (eC .non) ax)))) bU)
    (aD (yB (bB (af 0) 6) (eOp oIx (af 1) (eC (.int 1))) (eOp oIx (af 1) (eC (.int 3))))
    (aD (sIf (iD (tOf (aP md (ah (bB (af 0) 1) (ah (aP fw (ah (bB (af 0) 6) ax)) ax))))) (aU (cH (ah (fu ax) (ah (eC .non) ax)))) bU)
    (aD (sIf (tB (eUn qJ (bB (af 0) 4))) (aU (cH (ah (aZ 0 cP (af 0) (ah (aZ 0 g7 (af 0) ax) ax)) (ah (eC .non) ax)))) bU)
    (aD (cm (af 0) 2 (eC (.bl false)))
    (aU (cH (ah (fu ax) (ah (bB (af 0) 4) ax)))))))))
def jE:List D->M D:=fnM 2 [] pN
def mR:S3:=
    (aD (cm (af 0) 4 (eC (.tup [(.tup [(.int 0),(.int 0)]),(.int 0)])))
    (cm (af 0) 8 (eC (.bl true))))
def hG:List D->M D:=fnM 1 [] mR
def mS:S3:=
    (aD (bY 1 (bB (af 0) 8))
    (aD (cm (af 0) 8 (eC (.bl false)))
    (aU (af 1))))
def hI:List D->M D:=fnM 1 [none] mS
def m4:S3:=
    (aD (bY 1 (CV (bB (af 0) 8)))
    (aD (cm (af 0) 8 (eC (.bl true)))
    (aU (af 1))))
def hJ:List D->M D:=fnM 1 [none] m4
def mQ:S3:=
    (sIf (tB (eOp oGt (eOp oIx (af 1) (eC (.int 0))) (eOp oIx (bB (af 0) 4) (eC (.int 0))))) (cm (af 0) 4 (af 1)) bU)
def g9:List D->M D:=fnM 2 [] mQ
def jj:S3:=
    (aD (sIf (iD (tOf (bB (af 0) 8))) (aU (eC .non)) bU)
    (aD (bY 2 (eOp oIx (af 1) (eC (.int 3))))
    (aD (sIf (tB (eUn qJ (af 2))) (aU (eOp gC (eSl (af 1) oH (lF (eC (.int 3)))) (cH (ah (bB (af 0) 4) ax)))) bU)
    (aD (cY (aZ 1 g9 (af 0) (ah (af 2) ax)))
    (aU (eOp gC (eSl (af 1) oH (lF (eC (.int 3)))) (cH (ah (eC .non) ax))))))))
def eM:List D->M D:=fnM 2 [none] jj
def pE:S3:=
    (aD (cm (af 0) 9 (gL (gI (af 1)) [] jV (oA 1 hG ax)))
    (aD (cm (af 0) 10 (gL (gI (af 2)) [1] jV (oA 0 jx (ah (af 0) (ah (af 1) ax)))))
    (cm (af 0) 11 (fu ax))))
def hX:List D->M D:=fnM 3 [] pE
def lu:S3:=
    (aD (sIf (tOr (tB (eOp oLt (af 1) (eC (.int 0)))) (tB (eOp oGe (af 1) (aP fw (ah (bB (af 0) 10) ax))))) (m9 1001 (ah (eC (.str "there is no such hand")) ax)) bU)
    (aU (eOp oIx (bB (af 0) 10) (af 1))))
def bD:List D->M D:=fnM 2 [] lu
def j7:S3:=
    (aD (sIf (tOr (tB (eOp oLt (af 1) (eC (.int 0)))) (tB (eOp oGe (af 1) (aP fw (ah (bB (af 0) 9) ax))))) (m9 1002 (ah (eC (.str "there is no such keeper")) ax)) bU)
    (aU (eOp oIx (bB (af 0) 9) (af 1))))
def bW:List D->M D:=fnM 2 [] j7
def pI:S3:=
    (cY (vi (bB (af 0) 11) (gL (iOf (af 1)) [] jV (cH (ah (eC (.bl false)) (ah (af 0) ax))))))
def dD:List D->M D:=fnM 2 [] pI
def nW:S3:=
    (cY (aZ 2 dD (af 0) (ah (aZ 0 eK (aZ 2 bD (af 0) (ah (af 1) ax)) (ah (af 2) ax)) ax)))
def iK:List D->M D:=fnM 3 [] nW
def pk:S3:=
    (cY (aZ 2 dD (af 0) (ah (aZ 0 e9 (aZ 2 bD (af 0) (ah (af 1) ax)) ax) ax)))
def jG:List D->M D:=fnM 2 [] pk
def oi:S3:=
    (aD (bY 2 (aZ 0 fi (aZ 2 bD (af 0) (ah (af 1) ax)) ax))
    (aD (cY (aZ 2 dD (af 0) (ah (af 2) ax)))
    (aU (aP fw (ah (af 2) ax)))))
def iF:List D->M D:=fnM 2 [none] oi
def oG:S3:=
    (cY (aZ 0 gD (aZ 2 bD (af 0) (ah (af 1) ax)) ax))
def iL:List D->M D:=fnM 2 [] oG
def je:S3:=
    (aU (aZ 1 hI (aZ 2 bW (af 0) (ah (af 1) ax)) ax))
def eO:List D->M D:=fnM 2 [] je
def iW:S3:=
    (aU (aZ 1 hJ (aZ 2 bW (af 0) (ah (af 1) ax)) ax))
def eL:List D->M D:=fnM 2 [] iW
def gK:S3:=
    (aD (bY 2 (aZ 1 eM (eOp oIx (bB (af 0) 9) (eOp oIx (af 1) (eC (.int 1)))) (ah (af 1) ax)))
    (sIf (tB (eUn mX (af 2))) (cY (pY (bB (af 0) 11) (cH (ah (eC (.bl true)) (ah (af 2) ax))))) bU))
def dM:List D->M D:=fnM 2 [none] gK
def iA:S3:=
    (aD (bY 2 (aZ 0 jE (eOp oIx (bB (af 0) 10) (eOp oIx (af 1) (eC (.int 0)))) (ah (af 1) ax)))
    (aD (cY (aZ 2 dD (af 0) (ah (eOp oIx (af 2) (eC (.int 0))) ax)))
    (aD (sIf (tB (eUn qJ (eOp oIx (af 2) (eC (.int 1))))) (aU (fu ax)) bU)
    (aU (fu (ah (cH (ah (eOp oIx (af 1) (eC (.int 0))) (ah (eOp oIx (af 2) (eC (.int 1))) ax))) ax))))))
def ef:List D->M D:=fnM 2 [none] iA
def pv:S3:=
    (aD (bY 3 (eOp oIx (bB (af 0) 11) (af 1)))
    (aD (sIf (iD (tOf (af 2))) (cY (uz (bB (af 0) 11) (af 1))) bU)
    (aD (sIf (tOf (eOp oIx (af 3) (eC (.int 0)))) (aU (aZ 2 ef (af 0) (ah (eOp oIx (af 3) (eC (.int 1))) ax))) bU)
    (aD (cY (aZ 2 dM (af 0) (ah (eOp oIx (af 3) (eC (.int 1))) ax)))
    (aU (fu ax))))))
def eG:List D->M D:=fnM 3 [none] pv
def oI:S3:=
    (aD (sIf (iD (tOf (bB (af 0) 11))) (m9 1003 (ah (eC (.str "no letter is under way")) ax)) bU)
    (aU (aZ 2 eG (af 0) (ah (eOp oMod (af 1) (aP fw (ah (bB (af 0) 11) ax))) (ah (af 2) ax)))))
def iG:List D->M D:=fnM 3 [] oI
def hW:S3:=
    (aD (kJ (AL (bB (af 0) 11)) (gUn [3,4]) (sIf (tB (eOp oEq (eSl (eOp oIx (af 4) (eC (.int 1))) oH (lF (eC (.int 2)))) (cH (ah (af 1) (ah (af 2) ax))))) (aU (af 3)) bU))
    (aU (eC .non)))
def cU:List D->M D:=fnM 3 [none,none] hW
def ig:S3:=
    (aD (cY (aZ 2 bD (af 0) (ah (af 1) ax)))
    (aD (cY (aZ 2 bW (af 0) (ah (af 2) ax)))
    (aD (bY 3 (fu ax))
    (aD (bY 4 (aZ 2 cU (af 0) (ah (af 1) (ah (af 2) ax))))
    (aD (uT (tB (eUn mX (af 4))) (aD (cY (vi (af 3) (aZ 2 eG (af 0) (ah (af 4) (ah (eC (.bl false)) ax)))))
    (bY 4 (aZ 2 cU (af 0) (ah (af 1) (ah (af 2) ax))))))
    (aU (af 3)))))))
def dW:List D->M D:=fnM 3 [none,none] ig
def oh:S3:=
    (aD (bY 1 (fu ax))
    (aD (uT (tOf (bB (af 0) 11)) (cY (vi (af 1) (aZ 2 eG (af 0) (ah (eC (.int 0)) (ah (eC (.bl false)) ax))))))
    (aU (af 1))))
def iH:List D->M D:=fnM 1 [none] oh
def pK:S3:=
    (aD (cm (af 0) 12 (af 1))
    (aD (cm (af 0) 13 (af 2))
    (aD (cm (af 0) 3 (af 3))
    (aD (cm (af 0) 14 (af 4))
    (aD (cm (af 0) 15 (eC .non))
    (cm (af 0) 16 (eC .non)))))))
def jm:List D->M D:=fnM 5 [] pK
def ph:S3:=
    (aU (cH (ah (bB (af 0) 12) (ah (bB (af 0) 13) (ah (bB (af 0) 3) (ah (bB (af 0) 14) (ah (bB (af 0) 15) ax)))))))
def jF:List D->M D:=fnM 1 [] ph
def ol:S3:=
    (aD (cm (af 0) 17 (oA 2 hX (ah (af 1) (ah (af 2) ax))))
    (aD (cm (af 0) 18 (fu ax))
    (aD (cm (af 0) 19 rh)
    (cm (af 0) 20 (eC (.int 0))))))
def iJ:List D->M D:=fnM 3 [] ol
def jz:S3:=
    (aD (bY 4 (aP fw (ah (bB (af 0) 18) ax)))
    (aD (cY (pY (bB (af 0) 18) (oA 3 jm (ah (af 1) (ah (af 2) (ah (af 3) (ah (bB (af 0) 20) ax)))))))
    (aD (yB (bB (af 0) 19) (af 1) (af 4))
    (aU (af 4)))))
def dX:List D->M D:=fnM 4 [none] jz
def j8:S3:=
    (aD (bY 3 (eOp oIx (bB (af 0) 19) (af 1)))
    (aD (bY 4 (eOp oIx (bB (af 0) 18) (af 3)))
    (aD (cm (af 4) 3 (eOp oIx (af 2) (eC (.int 1))))
    (aD (cm (af 4) 15 (bB (af 0) 20))
    (aU (cH (ah (af 3) (ah (bB (af 4) 3) ax))))))))
def fA:List D->M D:=fnM 3 [none,none] j8
def jn:S3:=
    (aU (gL (iOf (af 1)) [0] jV (aZ 4 fA (af 1) (ah (eOp oIx (af 0) (eC (.int 0))) (ah (eOp oIx (af 0) (eC (.int 1))) ax)))))
def cu:List D->M D:=fnM 2 [] jn
def nQ:S3:=
    (aD (bY 2 (eOp oIx (af 1) (eC (.int 0))))
    (aD (sIf (tB (eOp oEq (af 2) (eC (.str "write")))) (aD (cY (aZ 2 iK (bB (af 0) 17) (ah (eOp oIx (af 1) (eC (.int 1))) (ah (eOp oIx (af 1) (eC (.int 2))) ax))))
    (aU (aZ 4 dX (af 0) (ah (eOp oIx (af 1) (eC (.int 1))) (ah (af 2) (ah (eOp oIx (af 1) (eC (.int 2))) ax)))))) bU)
    (aD (sIf (tB (eOp oEq (af 2) (eC (.str "read")))) (aD (cY (aZ 2 jG (bB (af 0) 17) (ah (eOp oIx (af 1) (eC (.int 1))) ax)))
    (aU (aZ 4 dX (af 0) (ah (eOp oIx (af 1) (eC (.int 1))) (ah (af 2) (ah (eC .non) ax)))))) bU)
    (aD (sIf (tB (eOp oEq (af 2) (eC (.str "carry")))) (aD (bY 3 (aZ 4 cu (af 0) (ah (aZ 2 iG (bB (af 0) 17) (ah (eOp oIx (af 1) (eC (.int 1))) (ah (eOp oIx (af 1) (eC (.int 2))) ax))) ax)))
    (aU (eIf (tOf (af 3)) (eOp oIx (af 3) (eC (.int 0))) (eC .non)))) bU)
    (aD (sIf (tB (eOp oEq (af 2) (eC (.str "pass")))) (aU (aZ 4 cu (af 0) (ah (aZ 2 dW (bB (af 0) 17) (ah (eOp oIx (af 1) (eC (.int 1))) (ah (eOp oIx (af 1) (eC (.int 2))) ax))) ax))) bU)
    (aD (sIf (tB (eOp oEq (af 2) (eC (.str "sweep")))) (aU (aZ 4 cu (af 0) (ah (aZ 2 iH (bB (af 0) 17) ax) ax))) bU)
    (aD (sIf (tB (eOp oEq (af 2) (eC (.str "again")))) (aU (aZ 2 iF (bB (af 0) 17) (ah (eOp oIx (af 1) (eC (.int 1))) ax))) bU)
    (aD (sIf (tB (eOp oEq (af 2) (eC (.str "quit")))) (aD (cY (aZ 2 iL (bB (af 0) 17) (ah (eOp oIx (af 1) (eC (.int 1))) ax)))
    (aU (eOp oIx (bB (af 0) 19) (eOp oIx (af 1) (eC (.int 1)))))) bU)
    (aD (sIf (tB (eOp oEq (af 2) (eC (.str "stop")))) (aU (aZ 2 eO (bB (af 0) 17) (ah (eOp oIx (af 1) (eC (.int 1))) ax))) bU)
    (aU (aZ 2 eL (bB (af 0) 17) (ah (eOp oIx (af 1) (eC (.int 1))) ax))))))))))))
def iI:List D->M D:=fnM 2 [none,none] nQ
def gb:S3:=
    (wU (aZ 4 iI (af 0) (ah (af 1) ax)) (fun d σ=>(.ret d,σ)) [(fun c=>decide (c=1001),(aU (eC (.str "no hand")))),(fun c=>decide (c=1002),(aU (eC (.str "no keeper")))),(fun c=>decide (c=1003),(aU (eC (.str "no letter")))),(fun c=>decide (c=1004),(aU (eC (.str "busy")))),(fun c=>decide (c=1005),(aU (eC (.str "idle"))))])
def di:List D->M D:=fnM 2 [] gb
def iB:S3:=
    (xR (bB (af 0) 19) (gUn [1,2]) (aD (bY 3 (bB (eOp oIx (bB (bB (af 0) 17) 10) (af 1)) 4))
    (sIf (tB (eUn mX (af 3))) (aD (bY 4 (eOp oIx (bB (af 0) 18) (af 2)))
    (cm (af 4) 16 (eOp oIx (af 3) (eC (.int 0))))) bU)))
def ed:List D->M D:=fnM 1 [none,none,none,none] iB
def lA:S3:=
    (aD (bY 2 (aZ 4 di (af 0) (ah (af 1) ax)))
    (aD (cY (aZ 4 ed (af 0) ax))
    (aD (cm (af 0) 20 (eOp gC (bB (af 0) 20) (eC (.int 1))))
    (aU (af 2)))))
def fm:List D->M D:=fnM 2 [none] lA
def pM:S3:=
    (aD (bY 3 (oA 4 iJ (ah (af 0) (ah (af 1) ax))))
    (aD (kJ (iOf (af 2)) (gNm 4) (cY (aZ 4 fm (af 3) (ah (af 4) ax))))
    (aD (bY 5 (gL (iOf (bB (af 3) 18)) [] jV (aZ 3 jF (af 0) ax)))
    (aD (bY 6 (gL (iOf (bB (af 3) 18)) [] jV (bB (af 0) 16)))
    (aD (bY 7 (gL (iOf (bB (bB (af 3) 17) 9)) [] jV (bB (af 0) 4)))
    (aU (cH (ah (af 5) (ah (af 6) (ah (af 7) ax))))))))))
def jC:List D->M D:=fnM 3 [none,none,none,none,none] pM
def yQ:S3:=
    (aU (za (aP (bIs .int) (ah (af 0) ax)) (CV (aP (bIs .bl) (ah (af 0) ax)))))
def fT:List D->M D:=fnM 1 [] yQ
def He:S3:=
    (aD (sIf (tB (eOp oLt (af 1) (aP fw (ah (af 0) ax)))) (aU (eOp oIx (af 0) (af 1))) bU)
    (aU (eC (.int 0))))
def xj:List D->M D:=fnM 2 [] He
def qC:S3:=
    (aD (bY 2 (eOp gC (eOp gH (eOp oMod (af 0) (aP uH (ah (eOp gC (eC (.str "1")) (eOp gH (eC (.str "0")) (eC (.int 88)))) ax))) (eC (.int 100))) (af 1)))
    (aD (bY 3 (fu (ah (eOp gC (af 1) (eC (.int 1))) (ah (eOp vA (eOp vA (eC (.int 0)) (af 1)) (eC (.int 1))) (ah (eOp gC (eOp gH (eC (.int 1000)) (af 1)) (eC (.int 7))) (ah (af 2) (ah (eOp vA (eC (.int 0)) (af 2)) (ah (eC (.int 0)) ax))))))))
    (aU (eOp oIx (af 3) (eOp oMod (eOp oMod (eOp gH (af 0) (eC (.int 48271))) (eC (.int 1009))) (eC (.int 6)))))))
def kB:List D->M D:=fnM 2 [none,none] qC
def sU:S3:=
    (aD (bY 4 (eOp oMod (eOp oMod (eOp gH (af 0) (eC (.int 48271))) (eC (.int 1013))) (eC (.int 20))))
    (aD (bY 5 (eOp oMod (eOp oMod (eOp gH (af 0) (eC (.int 48271))) (eC (.int 1019))) (af 3)))
    (aD (bY 6 (eOp oMod (eOp oMod (eOp gH (af 0) (eC (.int 48271))) (eC (.int 1021))) (af 2)))
    (aD (sIf (tB (eOp oLt (af 4) (eC (.int 3)))) (aU (cH (ah (eC (.str "write")) (ah (af 5) (ah (aP kB (ah (af 0) (ah (af 1) ax))) ax))))) bU)
    (aD (sIf (tB (eOp oLt (af 4) (eC (.int 6)))) (aU (cH (ah (eC (.str "read")) (ah (af 5) ax)))) bU)
    (aD (sIf (tB (eOp oLt (af 4) (eC (.int 14)))) (aU (cH (ah (eC (.str "pass")) (ah (af 5) (ah (af 6) ax))))) bU)
    (aD (sIf (tB (eOp oLt (af 4) (eC (.int 16)))) (aD (bY 7 (eOp oMod (eOp oMod (eOp gH (af 0) (eC (.int 48271))) (eC (.int 1031))) (eC (.int 40))))
    (aD (sIf (tB (eOp oEq (eOp oMod (eOp oMod (eOp gH (af 0) (eC (.int 48271))) (eC (.int 1049))) (eC (.int 6))) (eC (.int 1)))) (bY 7 (eOp oMod (af 0) (aP uH (ah (eOp gC (eC (.str "1")) (eOp gH (eC (.str "0")) (eC (.int 90)))) ax)))) bU)
    (aU (cH (ah (eC (.str "carry")) (ah (af 7) (ah (eOp oGt (eOp oMod (eOp oMod (eOp gH (af 0) (eC (.int 48271))) (eC (.int 1033))) (eC (.int 3))) (eC (.int 0))) ax))))))) bU)
    (aD (sIf (tB (eOp oEq (af 4) (eC (.int 18)))) (aU (cH (ah (eC (.str "again")) (ah (af 5) ax)))) bU)
    (aD (sIf (tB (eOp oEq (af 4) (eC (.int 19)))) (aU (eOp oIx (fu (ah (cH (ah (eC (.str "quit")) (ah (af 5) ax))) (ah (cH (ah (eC (.str "sweep")) ax)) ax))) (eOp oMod (eOp oMod (eOp gH (af 0) (eC (.int 48271))) (eC (.int 1039))) (eC (.int 2))))) bU)
    (aU (eOp oIx (fu (ah (cH (ah (eC (.str "stop")) (ah (af 6) ax))) (ah (cH (ah (eC (.str "wake")) (ah (af 6) ax))) ax))) (eOp vA (af 4) (eC (.int 16))))))))))))))
def jX:List D->M D:=fnM 4 [none,none,none,none] sU
def sL:S3:=
    (aD (bY 3 (eOp oMod (eOp oMod (eOp gH (af 0) (eC (.int 48271))) (eC (.int 1093))) (eC (.int 4))))
    (aD (sIf (tB (eOp oEq (af 3) (eC (.int 1)))) (aD (bY 4 (fu (ah (cH (ah (eC (.str "write")) (ah (eC (.int 0)) (ah (eC (.int 7)) ax)))) (ah (cH (ah (eC (.str "carry")) (ah (eC (.int 0)) (ah (eC (.bl true)) ax)))) (ah (cH (ah (eC (.str "carry")) (ah (eC (.int 0)) (ah (eC (.bl true)) ax)))) ax)))))
    (aU (eOp gC (af 4) (fu (ah (cH (ah (eC (.str "carry")) (ah (af 1) (ah (eC (.bl false)) ax)))) (ah (cH (ah (eC (.str "carry")) (ah (af 1) (ah (eC (.bl false)) ax)))) ax)))))) bU)
    (aD (sIf (wc (tB (eOp oGt (af 3) (eC (.int 1)))) (wc (tB (eOp oEq (af 1) (eC (.int 3)))) (tB (eOp oGt (af 2) (eC (.int 1)))))) (aD (bY 4 (fu (ah (cH (ah (eC (.str "read")) (ah (eC (.int 0)) ax))) (ah (cH (ah (eC (.str "carry")) (ah (eC (.int 0)) (ah (eC (.bl true)) ax)))) (ah (cH (ah (eC (.str "write")) (ah (eC (.int 1)) (ah (eC (.int 9)) ax)))) ax)))))
    (aD (cY (vi (af 4) (fu (ah (cH (ah (eC (.str "pass")) (ah (eC (.int 1)) (ah (eC (.int 0)) ax)))) (ah (cH (ah (eC (.str "pass")) (ah (eC (.int 1)) (ah (eC (.int 1)) ax)))) (ah (cH (ah (eC (.str "pass")) (ah (eC (.int 1)) (ah (eC (.int 0)) ax)))) ax))))))
    (aD (cY (vi (af 4) (fu (ah (cH (ah (eC (.str "carry")) (ah (eC (.int 0)) (ah (eC (.bl true)) ax)))) (ah (cH (ah (eC (.str "carry")) (ah (eC (.int 6)) (ah (eC (.bl false)) ax)))) ax)))))
    (aU (eOp gC (af 4) (fu (ah (cH (ah (eC (.str "carry")) (ah (eC (.int 3)) (ah (eC (.bl false)) ax)))) (ah (cH (ah (eC (.str "pass")) (ah (eC (.int 0)) (ah (eC (.int 2)) ax)))) ax)))))))) bU)
    (aU (fu ax)))))
def mv:List D->M D:=fnM 3 [none,none] sL
def yC:S3:=
    (aD (bY 3 (fu ax))
    (aD (sIf (tB (eOp oNe (af 0) (fu ax))) (bY 3 (aP mv (ah (eOp oIx (af 0) (eC (.int 0))) (ah (af 1) (ah (af 2) ax))))) bU)
    (aD (kJ (gI (aP fw (ah (af 0) ax))) (gNm 4) (cY (pY (af 3) (aP jX (ah (eOp gC (eOp oIx (af 0) (af 4)) (eOp gH (eC (.int 7)) (af 4))) (ah (af 4) (ah (af 1) (ah (af 2) ax))))))))
    (aU (af 3)))))
def qh:List D->M D:=fnM 3 [none,none] yC
def qF:S3:=
    (aD (sIf (tOr (iD (tOf (aP (bIs .tup) (ah (af 0) ax)))) (tB (eOp oNe (aP fw (ah (af 0) ax)) (eC (.int 2))))) (aU (eC (.bl false))) bU)
    (aU (za (aP fT (ah (eOp oIx (af 0) (eC (.int 0))) ax)) (aP fT (ah (eOp oIx (af 0) (eC (.int 1))) ax)))))
def gM:List D->M D:=fnM 1 [] qF
def sM:S3:=
    (aD (sIf (tOr (iD (tOf (aP (bIs .tup) (ah (af 0) ax)))) (tB (eOp oNe (aP fw (ah (af 0) ax)) (eC (.int 2))))) (aU (eC (.bl false))) bU)
    (aU (za (aP gM (ah (eOp oIx (af 0) (eC (.int 0))) ax)) (aP fT (ah (eOp oIx (af 0) (eC (.int 1))) ax)))))
def mj:List D->M D:=fnM 1 [] sM
def tu:S3:=
    (aD (sIf (tOr (iD (tOf (aP (bIs .tup) (ah (af 0) ax)))) (tB (eOp oNe (aP fw (ah (af 0) ax)) (eC (.int 5))))) (aU (eC (.bl false))) bU)
    (aD (sUn [1,2,3,4,5] (af 0))
    (aD (sIf (tOr (iD (tOf (aP fT (ah (af 1) ax)))) (tOr (iD (tOf (aP fT (ah (af 4) ax)))) (iD (tOf (aP (bIs .str) (ah (af 2) ax)))))) (aU (eC (.bl false))) bU)
    (aD (sIf (wc (tB (eUn mX (af 3))) (iD (tOf (aP fT (ah (af 3) ax))))) (aU (eC (.bl false))) bU)
    (aU (eOr (eUn qJ (af 5)) (aP fT (ah (af 5) ax))))))))
def lU:List D->M D:=fnM 1 [none,none,none,none,none] tu
def pG:S3:=
    (aD (sIf (tOr (iD (tOf (aP (bIs .tup) (ah (af 0) ax)))) (tB (eOp oNe (aP fw (ah (af 0) ax)) (eC (.int 3))))) (aU (eC (.bl false))) bU)
    (aD (kJ (iOf (af 0)) (gNm 2) (sIf (iD (tOf (aP (bIs .lst) (ah (af 2) ax)))) (aU (eC (.bl false))) bU))
    (aD (kJ (iOf (eOp oIx (af 0) (eC (.int 0)))) (gNm 3) (sIf (iD (tOf (aP lU (ah (af 3) ax)))) (aU (eC (.bl false))) bU))
    (aD (kJ (iOf (eOp oIx (af 0) (eC (.int 1)))) (gNm 4) (sIf (wc (tB (eUn mX (af 4))) (iD (tOf (aP gM (ah (af 4) ax))))) (aU (eC (.bl false))) bU))
    (aD (kJ (iOf (eOp oIx (af 0) (eC (.int 2)))) (gNm 5) (sIf (iD (tOf (aP mj (ah (af 5) ax)))) (aU (eC (.bl false))) bU))
    (aU (za (eOp oEq (aP fw (ah (eOp oIx (af 0) (eC (.int 0))) ax)) (aP fw (ah (eOp oIx (af 0) (eC (.int 1))) ax))) (eOp oEq (aP fw (ah (eOp oIx (af 0) (eC (.int 2))) ax)) (af 1)))))))))
def jA:List D->M D:=fnM 2 [none,none,none,none] pG
def rl:S3:=
    (aD (bY 3 (aP sQ (ah (af 2) ax)))
    (aD (bY 4 (aP jC (ah (af 0) (ah (af 1) (ah (af 3) ax)))))
    (aD (sIf (tOr (tB (eOp oNe (af 3) (af 2))) (iD (tOf (aP jA (ah (af 4) (ah (af 0) ax)))))) (aU (eC .non)) bU)
    (aU (af 4)))))
def i0:List D->M D:=fnM 3 [none,none] rl
def vy:S3:=
    (aD (bY 3 (eOp oMod (eOp oMod (eOp gH (af 0) (eC (.int 48271))) (eC (.int 1061))) (af 1)))
    (aD (bY 4 (eOp oMod (eOp oMod (eOp gH (af 0) (eC (.int 48271))) (eC (.int 1063))) (eOp gC (eOp oDiv (af 1) (eC (.int 2))) (eC (.int 1)))))
    (aD (bY 5 (gL (gI (af 4)) [1,3] jV (eOp oMod (eOp gC (af 2) (af 0)) (af 1))))
    (aD (bY 6 (fu ax))
    (aD (kJ (gI (af 1)) (gNm 7) (cY (pY (af 6) (eOp oIx (fu (ah (cH (ah (eC (.str "stop")) (ah (af 7) ax))) (ah (cH (ah (eC (.str "wake")) (ah (af 7) ax))) ax))) (aP uH (ah (eOp oIn (af 7) (af 5)) ax))))))
    (aD (kJ (gI (af 2)) (gNm 7) (aD (cY (pY (af 6) (cH (ah (eC (.str "quit")) (ah (af 7) ax)))))
    (aD (cY (pY (af 6) (eOp oIx (fu (ah (cH (ah (eC (.str "read")) (ah (af 7) ax))) (ah (cH (ah (eC (.str "write")) (ah (af 7) (ah (eC (.int 5)) ax)))) ax))) (eOp oMod (eOp oMod (eOp gH (eOp gC (af 0) (af 7)) (eC (.int 48271))) (eC (.int 1069))) (eC (.int 2))))))
    (cY (pY (af 6) (cH (ah (eC (.str "pass")) (ah (af 7) (ah (eOp oMod (eOp oMod (eOp gH (af 0) (eC (.int 48271))) (eC (.int 1087))) (af 1)) ax)))))))))
    (aD (kJ (gI (af 2)) (gNm 7) (cY (pY (af 6) (cH (ah (eC (.str "again")) (ah (af 7) ax))))))
    (aU (eOp gC (af 6) (fu (ah (cH (ah (eC (.str "sweep")) ax)) ax)))))))))))
def ox:List D->M D:=fnM 3 [none,none,none,none,none] vy
def DV:S3:=
    (aD (bY 1 (eOp oIx (fu (ah (eC (.int 3)) (ah (eC (.int 3)) (ah (eC (.int 3)) (ah (eC (.int 1)) (ah (eC (.int 2)) (ah (eC (.int 4)) (ah (eC (.int 5)) (ah (eC (.int 3)) (ah (eC (.int 7)) (ah (eC (.int 8)) (ah (eC (.int 9)) (ah (eC (.int 3)) ax))))))))))))) (eOp oMod (eOp oMod (eOp gH (aP xj (ah (af 0) (ah (eC (.int 0)) ax))) (eC (.int 48271))) (eC (.int 1049))) (eC (.int 12)))))
    (aD (bY 2 (eOp oIx (fu (ah (eC (.int 2)) (ah (eC (.int 2)) (ah (eC (.int 3)) (ah (eC (.int 1)) (ah (eC (.int 2)) (ah (eC (.int 3)) (ah (eC (.int 2)) (ah (eC (.int 9)) ax))))))))) (eOp oMod (eOp oMod (eOp gH (aP xj (ah (af 0) (ah (eC (.int 0)) ax))) (eC (.int 48271))) (eC (.int 1051))) (eC (.int 8)))))
    (aD (bY 3 (aP qh (ah (eSl (af 0) (lF (eC (.int 2))) (lF (eC (.int 16)))) (ah (af 1) (ah (af 2) ax)))))
    (aD (bY 4 (eOp gC (af 3) (aP ox (ah (aP xj (ah (af 0) (ah (eC (.int 1)) ax))) (ah (af 1) (ah (af 2) ax))))))
    (aD (bY 5 (aP i0 (ah (af 1) (ah (af 2) (ah (af 4) ax)))))
    (aD (sIf (tB (eUn qJ (af 5))) (aU (eC (.bl false))) bU)
    (aD (bY 6 (eOp oIx (af 5) (eC (.int 0))))
    (aD (bY 7 (gL (gI (aP fw (ah (af 6) ax))) [3,6] (tB (eOp oGe (eOp oIx (eOp oIx (af 2) (af 0)) (eC (.int 3))) (aP fw (ah (af 1) ax)))) (af 0)))
    (aD (sIf (tB (eOp oNe (aP fw (ah (af 7) ax)) (af 2))) (aU (eC (.bl false))) bU)
    (aD (kJ (iOf (af 7)) (gNm 8) (sIf (tB (eUn mX (eOp oIx (eOp oIx (af 6) (af 8)) (eC (.int 4))))) (aU (eC (.bl false))) bU))
    (aD (bY 9 (eOp gC (af 4) (gL (gI (af 1)) [] jV (cH (ah (eC (.str "wake")) (ah (af 0) ax))))))
    (aD (bY 9 (eOp gC (eOp gC (af 9) (gL (gI (af 2)) [] jV (cH (ah (eC (.str "again")) (ah (af 0) ax))))) (fu (ah (cH (ah (eC (.str "sweep")) ax)) ax))))
    (aD (bY 5 (aP i0 (ah (af 1) (ah (af 2) (ah (af 9) ax)))))
    (aD (sIf (tOr (tB (eUn qJ (af 5))) (tB (eOp oNe (aP fw (ah (eOp oIx (af 5) (eC (.int 0))) ax)) (aP fw (ah (af 6) ax))))) (aU (eC (.bl false))) bU)
    (aD (kJ (gI (aP fw (ah (af 6) ax))) (gNm 8) (aD (bY 10 (eOp oIx (eOp oIx (af 5) (eC (.int 0))) (af 8)))
    (sIf (tB (eOp oIn (af 8) (af 7))) (sIf (tOr (tB (eOp oNe (eOp oIx (af 10) (eC (.int 4))) (eOp vA (aP fw (ah (af 9) ax)) (eC (.int 1))))) (tB (eOp oNe (eSl (af 10) oH (lF (eC (.int 2)))) (eSl (eOp oIx (af 6) (af 8)) oH (lF (eC (.int 2))))))) (aU (eC (.bl false))) bU) (sIf (tB (eOp oNe (af 10) (eOp oIx (af 6) (af 8)))) (aU (eC (.bl false))) bU))))
    (aU (eC (.bl true))))))))))))))))))
def qQ:List D->M D:=fnM 1 [none,none,none,none,none,none,none,none,none,none] DV
end KC
namespace KH
open PySem M3
def Chg(S:List Nat)(G G':Hh):Prop:=G.length<=G'.length/\∀n,n < G.length->n∉S->G'[n]? =G[n]?
theorem Chg.refl(S:List Nat)(G:Hh):Chg S G G:=⟨qO_ _,fun _ _ _=>rfl⟩
theorem Chg.trans{S:List Nat}{A B C:Hh}(a:Chg S A B)(b:Chg S B C):Chg S A C:=
 ⟨Nat.le_trans a.1 b.1,fun n hn hs=>(b.2 n (qd_ hn a.1) hs).trans (a.2 n hn hs)⟩
theorem Chg.trans'{S T:List Nat}{A B C:Hh}(a:Chg S A B)(b:Chg T B C)(h:∀n∈T,n∈S\/A.length<=n):Chg S A C:=
 ⟨Nat.le_trans a.1 b.1,fun n hn hs=>(b.2 n (qd_ hn a.1) (fun z=>(h n z).elim hs fun w=>qe_ _ (qd_ hn w))).trans (a.2 n hn hs)⟩
theorem Chg.mono{S T:List Nat}{A B:Hh}(a:Chg S A B)(h:∀n∈S,n∈T):Chg T A B:=⟨a.1,fun n hn hs=>a.2 n hn fun z=>hs (h n z)⟩
theorem Chg.add{S:List Nat}(G:Hh)(o:O):Chg S G (G++[o]):=⟨by simp,fun n hn _=>qK_ hn⟩
theorem Chg.set{S:List Nat}(G:Hh){n:Nat}(o:O)(h:n∈S):Chg S G (G.set n o):=⟨by simp,fun m hm hs=>by
 rw[qV_ (by rintro rfl;exact hs h)]⟩
theorem Chg.get{S:List Nat}{A B:Hh}(a:Chg S A B){n:Nat}{o:O}(h:A[n]? =some o)(hs:n∉S):B[n]? =some o:=by
 rw[a.2 n (qB_.mp h).1 hs];exact h
theorem Ext.chg{S:List Nat}{A B:Hh}(a:Ext A B):Chg S A B:=by
 obtain⟨r,rfl⟩:=a
 exact⟨by simp,fun n hn _=>qK_ hn⟩
theorem aO{G:Hh}{n:Nat}{o:O}(h:G[n]? =some o):n < G.length:=(qB_.mp h).1
theorem jS{G:Hh}{l:Nat}{o o':O}(h:G[l]? =some o):(G.set l o')[l]? =some o':=qU_ (qB_.mp h).1
section
variable{G G':Hh}{E:Nat->Hh->Prop}{σ:St}{Q:D->Hh->Prop}{QU:Unit->Hh->Prop}{QA:List D->Hh->Prop}{QS:Fl×St->Hh->Prop}
theorem aV{n C f:Nat}{fs:List (Nat×D)}{y:D}(hn:G[n]? =some (.ins C fs))(hl:C < 1000/\fs.length < 1000)(h:∀G',Chg [n] G G'->G'.length=G.length->G'[n]? =some (.ins C (putN f y fs))->QU () G'):run (zN (.ref n) f y) G QU E:=
 En hn hl (h _ (Chg.set _ _ qI_) (by simp) (jS hn))
theorem yL{n:Nat}{kvs:List (Key×D)}{i v:D}{k:Key}(hn:G[n]? =some (.dK kvs))(hk:rA i=some k)(hl:kvs.length < aM)(h:∀G',Chg [n] G G'->G'.length=G.length->G'[n]? =some (.dK (put kvs k v))->QU () G'):run (yS (.ref n) i v) G QU E:=
 El hn hk hl (h _ (Chg.set _ _ qI_) (by simp) (jS hn))
theorem gf{n:Nat}{xs:List D}{y:D}(hl:G[n]? =some (.lst xs))(hz:xs.length < aM)(h:∀G',Chg [n] G G'->G'.length=G.length->G'[n]? =some (.lst (xs++[y]))->Q .non G'):run (iM (.ref n) y) G Q E:=
 AY hl hz (h _ (Chg.set _ _ qI_) (by simp) (jS hl))
theorem jd{n m:Nat}{xs ys:List D}(hn:G[n]? =some (.lst xs))(hm:G[m]? =some (.lst ys))(hl:xs.length+ys.length<=aM)(h:∀G',Chg [n] G G'->G'.length=G.length->G'[n]? =some (.lst (xs++ys))->Q .non G'):run (kg (.ref n) (.ref m)) G Q E:=
 zM hn hm hl (h _ (Chg.set _ _ qI_) (by simp) (jS hn))
theorem rL(h:∀G',Chg [] G G'->G'.length=G.length+1->G'[G.length]? =some (.dK [])->Q (.ref G.length) G'):run (rh σ) G Q E:=h _ (Chg.add _ _) (by simp) (bK _ _)
theorem gB(h:∀G',Chg [] G G'->G'.length=G.length+1->G'[G.length]? =some (.lst [])->Q (.ref G.length) G'):run (fu ax σ) G Q E:=BG (aJ ⟨qf_ _,h _ (Chg.add _ _) (by simp) (bK _ _)⟩)
theorem oE{C:Nat}{g:List D->M D}{a:A3}(h:run (a σ) G (fun ds G1=>∀G2,Chg [] G1 G2->G2.length=G1.length+1->G2[G1.length]? =some (.ins C [])->run (g (.ref G1.length :: ds)) G2 (fun r G3=>r= .non/\Q (.ref G1.length) G3) E) E):run (oA C g a σ) G Q E:=
 Ed (aC h (fun ds G1 q=>q _ (Chg.add _ _) (by simp) (bK _ _)) fun _ _ z=>z)
theorem iN{α:Type}{f:α->D}{p:α->Bool}{g:α->D}{xs:List α}{ck:Hh->Bool}{cond:D->M Bool}{elt:D->M D}(hck:ck G=true)(hz:xs.length<=1000000)
 (hc:∀x∈xs,run (cond (f x)) G (fun c G1=>G1=G/\c=p x) E) (he:∀x∈xs,p x=true->run (elt (f x)) G (fun y G1=>G1=G/\y=g x) E)
 (h:QA ((xs.filter p).map g) G):run (dH ck cond elt (xs.map f) []) G QA E:=by
 refine ma (fun i acc G'=>G'=G/\acc=((xs.take i).filter p).map g) ?_ ?_ ?_ (xs.map f) 0 [] G List.drop_zero (qf_ _) ⟨rfl,by simp⟩
 · rintro i acc G' ⟨rfl,_⟩
   exact hck
 · rintro i x acc G' hx ⟨rfl,rfl⟩
   obtain⟨y,hy,rfl⟩:=uI hx
   have hm:=qD_ hy
   refine aC (hc y hm) (fun c G1 ⟨e1,e2⟩=>?_) fun _ _ z=>z
   subst e1 e2
   have e3:((xs.take (i+1)).filter p).map g=((xs.take i).filter p).map g++(if p y=true then [g y]else []):=by
    rw[take_succ hy,List.filter_append,qT_]
    cases q:p y <;> simp [q]
   cases q:p y with
   |true=>
    rw[if_pos rfl]
    refine aC (he y hm q) (fun v G2 ⟨e1,e2⟩=>?_) fun _ _ z=>z
    subst e1 e2
    refine⟨?_,rfl,?_⟩
    · have:=List.length_filter_le p (xs.take i)
      simp [aM]
      rw[List.length_take]at this
      omega
    · rw[e3,q];rfl
   |false=>
    rw[if_neg qC_]
    refine⟨rfl,?_⟩
    rw[e3,q];simp
 · rintro acc G' ⟨rfl,rfl⟩
   rw[qM_,List.take_length]
   exact h
theorem uc{t:T3}{body:S3}(P:St->Hh->Nat->Prop)(hs:∀σ G m,P σ G m->run (t σ) G (fun c G1=>if c=true then run (body σ) G1 (fun p G2=>match p.1 with
 | .next=>∃m',m' < m/\P p.2 G2 m'
 | .cont=>∃m',m' < m/\P p.2 G2 m'
 | .brk=>QS (.next,p.2) G2
 | .ret d=>QS (.ret d,p.2) G2) E else QS (.next,σ) G1) E):∀(k:Nat) (σ:St) (G:Hh) (m:Nat),m < k->P σ G m->run (ki t body k σ) G QS E
 |0,_,_,_,h,_=>absurd h (Nat.not_lt_zero _)
 |k+1,σ,G,m,hm,p=>by
  show run (bnd (t σ) fun c=>if c then bnd (body σ) (fun p=>match p.1 with
   | .next=>ki t body k p.2
   | .cont=>ki t body k p.2
   | .brk=>ret (.next,p.2)
   | .ret d=>ret (.ret d,p.2))else ret (.next,σ)) G QS E
  refine aK (aC (hs σ G m p) (fun c G1 q=>?_) fun _ _ z=>z)
  cases c with
  |false=>exact q
  |true=>
   refine aK (aC q (fun r G2 q2=>?_) fun _ _ z=>z)
   obtain⟨f,σ'⟩:=r
   cases f with
   |next=>obtain⟨m',h1,h2⟩:=q2;exact uc P hs k σ' G2 m' (by omega) h2
   |cont=>obtain⟨m',h1,h2⟩:=q2;exact uc P hs k σ' G2 m' (by omega) h2
   |brk=>exact q2
   |ret d=>exact q2
theorem vW{t:T3}{body:S3}{m:Nat}(P:St->Hh->Nat->Prop)(hs:∀σ G m,P σ G m->run (t σ) G (fun c G1=>if c=true then run (body σ) G1 (fun p G2=>match p.1 with
 | .next=>∃m',m' < m/\P p.2 G2 m'
 | .cont=>∃m',m' < m/\P p.2 G2 m'
 | .brk=>QS (.next,p.2) G2
 | .ret d=>QS (.ret d,p.2) G2) E else QS (.next,σ) G1) E) (hm:m < 1000000000) (h:P σ G m):run (uT t body σ) G QS E:=uc P hs uD σ G m hm h
end
end KH
namespace KS
open PySem M3 KC KH
abbrev Pr:=(Int×Int)×Int
def pD(p:Pr):D:= .tup [.tup [.int p.1.1,.int p.1.2],.int p.2]
def opD:Option Pr->D
 |none=>.non
 |some p=>pD p
def oD:Option Int->D
 |none=>.non
 |some i=>.int i
theorem qd(o:Option Pr):decide (opD o= .non)=o.isNone:=by cases o <;> rfl
theorem A0(o:Option Int):decide (oD o= .non)=o.isNone:=by cases o <;> rfl
structure Lt where
 hand:Nat
 kpr:Nat
 num:Int
 pair:Option Pr
def ltD(l:Lt):D:= .tup [.int (l.hand:Int),.int (l.kpr:Int),.int l.num,opD l.pair]
def enD(e:Bool×Lt):D:= .tup [.bl e.1,ltD e.2]
def gtS(a b:Int×Int):Bool:=vN [b.1,b.2] [a.1,a.2]
def better(b p:Pr):Pr:=if gtS p.1 b.1 then p else b
def start:Pr:=((0,0),0)
def yk(ps:List Pr):Pr:=ps.foldl better start
def turns(ps:List Pr):List Int:=ps.map fun p=>p.1.1
def AB(ps:List Pr)(own:Int):Int:=match turns ps++[own]with
 |m :: r=>nX m r
 | []=>0
structure Kr where
 pair:Pr
 up:Bool
def krF(k:Kr):List (Nat×D):=[(4,pD k.pair),(8,.bl k.up)]
structure Hd where
 num:Nat
 cnt:Nat
 atw:Bool
 val:Option Int
 pair:Option Pr
 rnd:Int
 aA:List (Nat×Option Pr)
 own:Int
def hdF(h:Hd)(d:Nat):List (Nat×D):=[(0,.int (h.num:Int)),(1,.int (h.cnt:Int)),(2,.bl h.atw),(3,oD h.val),(4,opD h.pair),(5,.int h.rnd),(6,.ref d),(7,.int h.own)]
def fv(l:List (Nat×Option Pr)):List (Key×D):=l.map fun e=>(.inl (e.1:Int),opD e.2)
def ja(G:Hh)(a:Nat)(k:Kr):Prop:=G[a]? =some (.ins 1 (krF k))
def gQ(G:Hh)(a d:Nat)(h:Hd):Prop:=G[a]? =some (.ins 0 (hdF h d))/\G[d]? =some (.dK (fv h.aA))
section
variable{G:Hh}{Q:D->Hh->Prop}{E:Nat->Hh->Prop}
theorem y9{c m:Int}(h:Q (.bl (decide (c < m*2))) G):run (md [.int c,.int m]) G Q E:=by
 walk_at "f"
 unfold tw
 walk_at "r"
 exact h
theorem Bw{l:Nat}{ps:List Pr}(hl:G[l]? =some (.lst (ps.map pD)))(h:Q (pD (yk ps)) G):run (oO [.ref l]) G Q E:=by
 walk_at "f"
 unfold wg
 walk_at "r"
 refine gO hl ?_
 refine kN (fun i σ G'=>G'=G/\∃x,σ=[some (.ref l),some (pD ((ps.take i).foldl better start)),x]) ?_ ?_ ?_ ⟨rfl,none,rfl⟩
 · rintro i σ G' ⟨rfl,_⟩
   exact qZ_ hl
 · rintro i p σ G' hp ⟨rfl,y,rfl⟩
   unfold pD
   walk_at "r"
   have key:(ps.take (i+1)).foldl better start=better ((ps.take i).foldl better start) p:=by rw[take_succ hp,List.foldl_append];rfl
   refine w_ite (fun c=>?_) fun c=>?_
   · walk_at "r"
     refine⟨rfl,some (pD p),?_⟩
     have:(ps.take (i+1)).foldl better start=p:=by rw[key,better,if_pos (show gtS p.1 _=true from c)]
     rw[this];rfl
   · walk_at "r"
     refine⟨rfl,some (pD p),?_⟩
     have:(ps.take (i+1)).foldl better start=(ps.take i).foldl better start:=by rw[key,better,if_neg (by rw[show gtS p.1 _=false from c];exact qC_)]
     rw[this];rfl
 · rintro σ G' ⟨rfl,y,rfl⟩
   walk_at "r"
   rw[List.take_length]
   exact h
theorem sg{l:Nat}{ps:List Pr}{own hand:Int}(hl:G[l]? =some (.lst (ps.map pD)))(hz:ps.length<=1000)(h:∀G',Ext G G'->Q (.tup [.int (AB ps own+1),.int hand]) G'):run (g8 [.ref l,.int own,.int hand]) G Q E:=by
 walk_at "f"
 unfold m6
 walk_at "r"
 refine gO hl ?_
 refine iN (p:=fun _=>true) (g:=fun p:Pr=>D.int p.1.1) (qZ_ hl) (by omega) (fun x _=>jD ⟨rfl,rfl⟩) (fun x _ _=>?_) ?_
 · unfold pD
   walk_at "r"
   exact⟨rfl,rfl⟩
 have e1:(ps.filter fun _=>true).map (fun p:Pr=>D.int p.1.1)=(turns ps).map D.int:=by
  rw[List.filter_eq_self.mpr (fun _ _=>rfl)]
  unfold turns
  rw[qb_]
  rfl
 rw[e1]
 walk_at "r"
 have tl:(turns ps).length=ps.length:=by unfold turns;rw[qM_]
 refine Be ((Ext.add _ _).get (bK G _)) (bK _ _) (by rw[qM_,tl];simp [aM];omega) ?_
 walk_at "r"
 have e2:intsOf ((turns ps).map D.int++[.int own])=some (turns ps++[own]):=by
  induction turns ps with
  |nil=>rfl
  |cons a r ih=>show Option.map _ (intsOf (r.map D.int++[.int own]))=_;rw[ih];rfl
 cases q:turns ps++[own]with
 |nil=>simp at q
 |cons m r=>
  rw[q]at e2
  refine FN (bK _ _) e2 ?_
  walk_at "r"
  have e3:AB ps own=nX m r:=by unfold AB;rw[q]
  rw[<-e3]
  exact h _ (((Ext.add _ _).trans (Ext.add _ _)).trans (Ext.add _ _))
variable{a d:Nat}{k:Kr}{h:Hd}
theorem Ea{Q:D->Hh->Prop}(hk:ja G a k)(hq:∀G',Chg [a] G G'->ja G' a {k with up:=false}->Q (.bl k.up) G'):run (hI [.ref a]) G Q E:=by
 unfold ja krF at hk
 walk_at "f"
 unfold mS
 walk_at "r"
 refine aV hk ⟨by decide,qP_ rfl⟩ fun G' hc hl hn=>?_
 walk_at "r"
 exact hq G' hc hn
theorem EO{Q:D->Hh->Prop}(hk:ja G a k)(hq:∀G',Chg [a] G G'->ja G' a {k with up:=true}->Q (.bl (!k.up)) G'):run (hJ [.ref a]) G Q E:=by
 unfold ja krF at hk
 walk_at "f"
 unfold m4
 walk_at "r"
 refine aV hk ⟨by decide,qP_ rfl⟩ fun G' hc hl hn=>?_
 walk_at "r"
 exact hq G' hc hn
def vn(k:Kr)(p:Pr):Kr:=if gtS p.1 k.pair.1 then {k with pair:=p} else k
theorem Fh{Q:D->Hh->Prop}{p:Pr}(hk:ja G a k)(hq:∀G',Chg [a] G G'->ja G' a (vn k p)->Q .non G'):run (g9 [.ref a,pD p]) G Q E:=by
 unfold ja krF at hk
 walk_at "f"
 unfold mQ pD
 walk_at "r"
 unfold vn at hq
 refine w_ite (fun c=>?_) fun c=>?_
 · rw[if_pos (show gtS p.1 k.pair.1=true from c)]at hq
   walk_at "r"
   refine aV hk ⟨by decide,qP_ rfl⟩ fun G' hc hl hn=>?_
   walk_at "r"
   exact hq G' hc hn
 · rw[if_neg (by rw[show gtS p.1 k.pair.1=false from c];exact qC_)]at hq
   walk_at "r"
   exact hq G (Chg.refl _ _) hk
def cx(k:Kr)(l:Lt):Kr×Option Lt:=
 if k.up then (match l.pair with
  |none=>(k,some {l with pair:=some k.pair})
  |some p=>(vn k p,some {l with pair:=none}))else (k,none)
def Il:Option Lt->D
 |none=>.non
 |some l=>ltD l
theorem wN{Q:D->Hh->Prop}{l:Lt}(hk:ja G a k)(hq:∀G',Chg [a] G G'->ja G' a (cx k l).1->Q (Il (cx k l).2) G'):run (eM [.ref a,ltD l]) G Q E:=by
 have hk0:=hk
 unfold ja krF at hk
 walk_at "f"
 unfold jj ltD
 unfold cx at hq
 walk_at "r"
 cases up:k.up with
 |false=>
  rw[up]at hq
  walk_at "r"
  exact hq G (Chg.refl _ _) hk0
 |true=>
  rw[up]at hq
  walk_at "r"
  rw[qd]
  cases lp:l.pair with
  |none=>
   rw[lp]at hq
   refine nj ?_
   walk_at "r"
   refine aW (a:=D.tup [.int (l.hand:Int),.int (l.kpr:Int),.int l.num]) (G':=G) rfl ?_
   walk_at "r"
   refine aW (a:=D.tup [.int (l.hand:Int),.int (l.kpr:Int),.int l.num,pD k.pair]) (G':=G) rfl ?_
   walk_at "r"
   exact hq G (Chg.refl _ _) hk0
  |some p=>
   rw[lp]at hq
   refine o5 ?_
   walk_at "r"
   refine Fh hk0 fun G' hc hn=>?_
   walk_at "r"
   refine aW (a:=D.tup [.int (l.hand:Int),.int (l.kpr:Int),.int l.num]) (G':=G') rfl ?_
   walk_at "r"
   refine aW (a:=D.tup [.int (l.hand:Int),.int (l.kpr:Int),.int l.num,.non]) (G':=G') rfl ?_
   walk_at "r"
   exact hq G' hc hn
end
section
variable{G:Hh}{Q:D->Hh->Prop}{E:Nat->Hh->Prop}{a d:Nat}{h:Hd}
def mP(i c:Nat):Hd:=⟨i,c,false,none,none,0,[],0⟩
theorem vH{i c:Nat}(ha:G[a]? =some (.ins 0 []))(hq:∀G' d,Chg [a] G G'->G.length<=d->gQ G' a d (mP i c)->Q .non G'):run (jx [.ref a,.int (i:Int),.int (c:Int)]) G Q E:=by
 walk_at "f"
 unfold pF
 walk_at "r"
 refine aV ha ⟨by decide,qP_ rfl⟩ fun G1 c1 l1 h1=>?_
 walk_at "r"
 refine aV h1 ⟨by decide,qP_ rfl⟩ fun G2 c2 l2 h2=>?_
 walk_at "r"
 refine aV h2 ⟨by decide,qP_ rfl⟩ fun G3 c3 l3 h3=>?_
 walk_at "r"
 refine aV h3 ⟨by decide,qP_ rfl⟩ fun G4 c4 l4 h4=>?_
 walk_at "r"
 refine aV h4 ⟨by decide,qP_ rfl⟩ fun G5 c5 l5 h5=>?_
 walk_at "r"
 refine aV h5 ⟨by decide,qP_ rfl⟩ fun G6 c6 l6 h6=>?_
 refine w_next ?_
 refine aI (gX (rL fun G7 c7 l7 h7=>w_var rfl ?_))
 have h6':=c7.get h6 (by simp)
 refine aV h6' ⟨by decide,qP_ rfl⟩ fun G8 c8 l8 h8=>?_
 have hd8:=c8.get h7 (by have:=aO h6;simp;omega)
 walk_at "r"
 refine aV h8 ⟨by decide,qP_ rfl⟩ fun G9 c9 l9 h9=>?_
 walk_at "r"
 have hd9:=c9.get hd8 (by have:=aO h6;simp;omega)
 have cc:Chg [a] G G9:=(((((c1.trans c2).trans c3).trans c4).trans c5).trans c6).trans (((c7.mono (by simp)).trans c8).trans c9)
 exact hq G9 G6.length cc (by omega) ⟨h9,hd9⟩
def nV(h:Hd):List Nat:=(List.range h.cnt).filter fun k=>!decide (k∈h.aA.map (·.1))
def bL(h:Hd):List Lt:=(nV h).map fun k=>⟨h.num,k,h.rnd,h.pair⟩
theorem wY(l:List (Nat×Option Pr))(k:Nat):((look (fv l) (.inl (k:Int))).isSome)=decide (k∈l.map (·.1)):=by
 rw[v9]
 refine decide_eq_decide.mpr ⟨fun z=>?_,fun z=>?_⟩
 · unfold fv at z
   rw[qb_]at z
   obtain⟨e,he,ee⟩:=qH_.mp z
   have:(e.1:Int)=(k:Int):=Sum.inl.inj ee
   exact qH_.mpr ⟨e,he,by omega⟩
 · unfold fv
   rw[qb_]
   obtain⟨e,he,ee⟩:=qH_.mp z
   exact qH_.mpr ⟨e,he,by show Sum.inl (e.1:Int)=Sum.inl (k:Int);rw[ee]⟩
theorem HR(n:Nat):rng 0 n=(List.range n).map fun(k:Nat)=>D.int (k:Int):=by
 unfold rng
 congr 1
 funext k
 rw[Int.zero_add]
theorem lT(h:Hd):(nV h).length<=h.cnt:=by
 unfold nV
 have:=List.length_filter_le (fun k=>!decide (k∈h.aA.map (·.1))) (List.range h.cnt)
 rw[List.length_range]at this
 exact this
theorem s8(ha:gQ G a d h)(hz:h.cnt<=1000)(hq:∀l G',Ext G G'->G.length<=l->G'[l]? =some (.lst ((bL h).map ltD))->Q (.ref l) G'):run (eD [.ref a]) G Q E:=by
 obtain⟨ha,hd⟩:=ha
 unfold hdF at ha
 walk_at "f"
 unfold lE
 walk_at "r"
 with_reducible refine M3.lK (by omega) ?_
 rw[HR]
 refine iN (p:=fun k:Nat=>!decide (k∈h.aA.map (·.1))) (g:=fun k:Nat=>D.int (k:Int)) rfl (by simp;omega) (fun x _=>?_) (fun x _ _=>w_var rfl ⟨rfl,rfl⟩) ?_
 · refine jJ (bc (w_var rfl (w_fld (w_var rfl (bI ha (by decide) rfl ?_)))))
   refine CK (b:=decide (x∈h.aA.map (·.1))) ?_ ?_
   · unfold inG
     dsimp only
     rw[hd]
     show some (look (fv h.aA) (.inl (x:Int))).isSome=_
     rw[wY]
   exact⟨rfl,rfl⟩
 have e0:((List.range h.cnt).filter fun k:Nat=>!decide (k∈h.aA.map (·.1)))=nV h:=rfl
 rw[e0]
 refine w_next ?_
 walk_at "s"
 have ha1:=(Ext.add G (.lst ((nV h).map fun k:Nat=>D.int (k:Int)))).get ha
 refine cS (uo (pA (w_var rfl (gO (bK _ _) ?_))))
 have hw:=lT h
 refine iN (p:=fun _:Nat=>true) (g:=fun k:Nat=>ltD ⟨h.num,k,h.rnd,h.pair⟩) (qZ_ (bK _ _)) (by omega) (fun x _=>jD ⟨rfl,rfl⟩) (fun x _ _=>?_) ?_
 · walk_at "r"
   exact⟨rfl,rfl⟩
 rw[List.filter_eq_self.mpr (fun _ _=>rfl)]
 walk_at "r"
 refine hq _ _ ((Ext.add _ _).trans (Ext.add _ _)) (by simp) ?_
 rw[bK]
 unfold bL
 rw[qb_]
 rfl
def roundF(h:Hd)(p:Option Pr):Hd:={h with rnd:=h.rnd+1,pair:=p,aA:=[]}
theorem mU{p:Option Pr}(ha:gQ G a d h)(hz:h.cnt<=1000)(hq:∀l d' G',Chg [a] G G'->G.length<=d'->G.length<=l->gQ G' a d' (roundF h p)->G'[l]? =some (.lst ((bL (roundF h p)).map ltD))->Q (.ref l) G'):run (cP [.ref a,opD p]) G Q E:=by
 obtain⟨ha,hd⟩:=ha
 unfold hdF at ha
 walk_at "f"
 unfold iY
 walk_at "r"
 refine aV ha ⟨by decide,qP_ rfl⟩ fun G1 c1 l1 h1=>?_
 walk_at "r"
 refine aV h1 ⟨by decide,qP_ rfl⟩ fun G2 c2 l2 h2=>?_
 refine w_next ?_
 refine aI (gX (rL fun G3 c3 l3 h3=>w_var rfl ?_))
 have h2':=c3.get h2 (by simp)
 refine aV h2' ⟨by decide,qP_ rfl⟩ fun G4 c4 l4 h4=>?_
 have hd4:=c4.get h3 (by have:=aO h2;simp;omega)
 refine w_next ?_
 refine cS (bT (w_var rfl (dI h4 (aJ ?_))))
 refine s8 (h:=roundF h p) (d:=G2.length) ⟨h4,hd4⟩ hz fun l G5 x5 l5 h5=>?_
 walk_at "r"
 have cc:Chg [a] G G4:=(c1.trans c2).trans ((c3.mono (by simp)).trans c4)
 exact hq l G2.length G5 (cc.trans x5.chg) (by omega) (by omega) ⟨x5.get h4,x5.get hd4⟩ h5
def dt(h:Hd)(v:Option Int):Hd:=roundF {h with atw:=true,val:=v} none
theorem ye{v:Option Int}(ha:gQ G a d h)(hz:h.cnt<=1000)(hb:h.atw=true->E 1004 G)(hq:h.atw=false->∀l d' G',Chg [a] G G'->G.length<=d'->G.length<=l->gQ G' a d' (dt h v)->G'[l]? =some (.lst ((bL (dt h v)).map ltD))->Q (.ref l) G'):run (fI [.ref a,oD v]) G Q E:=by
 have ha0:=ha
 obtain⟨ha,hd⟩:=ha
 unfold hdF at ha
 walk_at "f"
 unfold oB
 walk_at "r"
 cases q:h.atw with
 |true=>
  walk_at "r"
  exact hb q
 |false=>
  walk_at "r"
  rw[q]at ha
  refine aV ha ⟨by decide,qP_ rfl⟩ fun G1 c1 l1 h1=>?_
  walk_at "r"
  refine aV h1 ⟨by decide,qP_ rfl⟩ fun G2 c2 l2 h2=>?_
  refine w_next ?_
  refine cS (bT (w_var rfl (dI h2 (ay (w_c (aJ ?_))))))
  have hne:d≠a:=by rintro rfl;rw[ha]at hd;cases hd
  refine mU (p:=none) (h:={h with atw:=true,val:=v}) (d:=d) ⟨h2,c2.get (c1.get hd (by simpa using hne)) (by simpa using hne)⟩ hz fun l d' G3 c3 l3 l4 h3 h4=>?_
  walk_at "r"
  exact hq q l d' G3 ((c1.trans c2).trans c3) (by omega) (by omega) h3 h4
theorem rU{v:Int}(ha:gQ G a d h)(hz:h.cnt<=1000)(hb:h.atw=true->E 1004 G)(hq:h.atw=false->∀l d' G',Chg [a] G G'->G.length<=d'->G.length<=l->gQ G' a d' (dt h (some v))->G'[l]? =some (.lst ((bL (dt h (some v))).map ltD))->Q (.ref l) G'):run (eK [.ref a,.int v]) G Q E:=by
 have ha0:=ha.1
 unfold hdF at ha0
 walk_at "f"
 unfold jb
 walk_at "r"
 refine ye (v:=some v) ha hz hb fun q l d' G' c l1 l2 h1 h2=>?_
 walk_at "r"
 exact hq q l d' G' c l1 l2 h1 h2
theorem tY(ha:gQ G a d h)(hz:h.cnt<=1000)(hb:h.atw=true->E 1004 G)(hq:h.atw=false->∀l d' G',Chg [a] G G'->G.length<=d'->G.length<=l->gQ G' a d' (dt h none)->G'[l]? =some (.lst ((bL (dt h none)).map ltD))->Q (.ref l) G'):run (e9 [.ref a]) G Q E:=by
 have ha0:=ha.1
 unfold hdF at ha0
 walk_at "f"
 unfold jr
 walk_at "r"
 refine ye (v:=none) ha hz hb fun q l d' G' c l1 l2 h1 h2=>?_
 walk_at "r"
 exact hq q l d' G' c l1 l2 h1 h2
theorem mW(ha:gQ G a d h)(hb:h.atw=false->E 1005 G)(hq:h.atw=true->Q .non G):run (cI [.ref a]) G Q E:=by
 obtain⟨ha,hd⟩:=ha
 unfold hdF at ha
 walk_at "f"
 unfold iV
 walk_at "r"
 cases q:h.atw with
 |true=>walk_at "r"
        exact hq q
 |false=>walk_at "r"
         exact hb q
theorem uN(ha:gQ G a d h)(hz:h.cnt<=1000)(hb:h.atw=false->E 1005 G)(hq:h.atw=true->∀l G',Ext G G'->G.length<=l->G'[l]? =some (.lst ((bL h).map ltD))->Q (.ref l) G'):run (fi [.ref a]) G Q E:=by
 have ha0:=ha.1
 unfold hdF at ha0
 walk_at "f"
 unfold jo
 walk_at "r"
 refine mW ha hb fun q=>?_
 walk_at "r"
 refine s8 ha hz fun l G' x l1 h1=>?_
 walk_at "r"
 exact hq q l G' x l1 h1
theorem y8(ha:gQ G a d h)(hb:h.atw=false->E 1005 G)(hq:h.atw=true->∀G',Chg [a] G G'->gQ G' a d {h with atw:=false}->Q .non G'):run (gD [.ref a]) G Q E:=by
 have ha0:=ha.1
 unfold hdF at ha0
 have hne:d≠a:=by rintro rfl;have:=ha.2;rw[ha0]at this;cases this
 walk_at "f"
 unfold lC
 walk_at "r"
 refine mW ha hb fun q=>?_
 walk_at "r"
 refine aV ha0 ⟨by decide,qP_ rfl⟩ fun G1 c1 l1 h1=>?_
 walk_at "r"
 exact hq q G1 c1 ⟨h1,c1.get ha.2 (by simpa using hne)⟩
def cF(h:Hd)(ps:List Pr):Hd×Pr:=match h.val with
 |none=>(h,yk ps)
 |some v=>({h with own:=AB ps h.own+1},((AB ps h.own+1,(h.num:Int)),v))
theorem BV{ps:List Pr}(ha:gQ G a d h)(hp:h.aA.map (·.2)=ps.map some)(hz:ps.length<=1000)(hq:∀G',Chg [a] G G'->gQ G' a d (cF h ps).1->Q (pD (cF h ps).2) G'):run (g7 [.ref a]) G Q E:=by
 obtain⟨ha,hd⟩:=ha
 unfold hdF at ha
 have hne:d≠a:=by rintro rfl;rw[ha]at hd;cases hd
 unfold cF at hq
 walk_at "f"
 unfold mZ
 walk_at "r"
 refine CN hd ?_
 have e1:(fv h.aA).map (·.2)=ps.map pD:=by
  have:(h.aA.map (·.2)).map opD=(ps.map some).map opD:=by rw[hp]
  rw[qb_,qb_]at this
  unfold fv
  rw[qb_]
  exact this
 rw[e1]
 have x1:Ext G (G++[O.lst (ps.map pD)]):=Ext.add _ _
 have ha1:=x1.get ha
 have hd1:=x1.get hd
 have hl1:(G++[O.lst (ps.map pD)])[G.length]? =some (.lst (ps.map pD)):=bK _ _
 generalize G++[O.lst (ps.map pD)]=G1 at x1 ha1 hd1 hl1
 generalize G.length=ll at hl1
 walk_at "r"
 rw[A0]
 cases hv:h.val with
 |none=>
  rw[hv]at hq
  refine nj ?_
  walk_at "r"
  refine Bw hl1 ?_
  walk_at "r"
  exact hq G1 x1.chg ⟨ha1,hd1⟩
 |some v=>
  rw[hv]at hq
  refine o5 ?_
  walk_at "r"
  refine sg hl1 hz fun G2 x2=>?_
  have ha2:=x2.get ha1
  walk_at "r"
  refine aV ha2 ⟨by decide,qP_ rfl⟩ fun G3 c3 l3 h3=>?_
  have hd3:=c3.get (x2.get hd1) (by simpa using hne)
  rw[hv]at h3
  walk_at "r"
  exact hq G3 ((x1.trans x2).chg.trans c3) ⟨h3,hd3⟩
def bH(l:List (Nat×Option Pr))(k:Nat)(p:Option Pr):List (Nat×Option Pr):=
 if (l.any fun e=>decide (e.1=k))then l.map fun e=>if e.1=k then (e.1,p)else e else l++[(k,p)]
theorem Ff(l:List (Nat×Option Pr))(k:Nat)(p:Option Pr):put (fv l) (.inl (k:Int)) (opD p)=fv (bH l k p):=by
 have key:∀e:Nat×Option Pr,decide ((Sum.inl (e.1:Int):Key)= .inl (k:Int))=decide (e.1=k):=fun e=>decide_eq_decide.mpr ⟨fun z=>by have:=Sum.inl.inj z;omega,fun z=>by rw[z]⟩
 unfold put bH
 have e1:((fv l).any fun kv=>decide (kv.1=(.inl (k:Int):Key)))=l.any fun e=>decide (e.1=k):=by
  unfold fv
  rw[List.any_map]
  congr 1
  funext e
  exact key e
 rw[e1]
 by_cases c:(l.any fun e=>decide (e.1=k))=true
 · rw[if_pos c,if_pos c]
   unfold fv
   rw[qb_,qb_]
   apply List.map_congr_left
   intro e _
   by_cases z:e.1=k
   · have z':(Sum.inl (e.1:Int):Key)= .inl (k:Int):=by rw[z]
     show (if (Sum.inl (e.1:Int):Key)= .inl (k:Int)then ((Sum.inl (e.1:Int):Key),opD p)else (Sum.inl (e.1:Int),opD e.2))=(Sum.inl ((if e.1=k then (e.1,p)else e).1:Int),opD (if e.1=k then (e.1,p)else e).2)
     rw[if_pos z',if_pos z]
   · have z':¬(Sum.inl (e.1:Int):Key)= .inl (k:Int):=fun w=>z (by have:=Sum.inl.inj w;omega)
     show (if (Sum.inl (e.1:Int):Key)= .inl (k:Int)then ((Sum.inl (e.1:Int):Key),opD p)else (Sum.inl (e.1:Int),opD e.2))=(Sum.inl ((if e.1=k then (e.1,p)else e).1:Int),opD (if e.1=k then (e.1,p)else e).2)
     rw[if_neg z',if_neg z]
 · rw[if_neg c,if_neg c]
   unfold fv
   rw[qT_]
   rfl
def vals(l:List (Nat×Option Pr)):List Pr:=l.filterMap (·.2)
theorem Dt{l:List (Nat×Option Pr)}(hl:∀e∈l,e.2.isSome=true):l.map (·.2)=(vals l).map some:=by
 induction l with
 |nil=>rfl
 |cons e r ih=>
  have h1:=hl e qI_
  obtain⟨p,hp⟩:=Option.isSome_iff_exists.mp h1
  unfold vals at*
  rw[List.filterMap_cons,hp]
  simp only[List.map_cons,hp]
  rw[ih fun x hx=>hl x (qR_ _ hx)]
theorem Bp(l:List (Nat×Option Pr)):(vals l).length<=l.length:=List.length_filterMap_le _ _
def bN(h:Hd)(l:Lt):Hd×List Lt×Option Pr:=
 if (!h.atw||!decide (l.num=h.rnd))=true then (h,[],none)
 else
  let h1:Hd:={h with aA:=bH h.aA l.kpr l.pair}
  if (!decide (h.cnt < h1.aA.length*2))=true then (h1,[],none)
  else match h.pair with
   |none=>let c:=cF h1 (vals h1.aA);(roundF c.1 (some c.2),bL (roundF c.1 (some c.2)),none)
   |some p=>({h1 with atw:=false},[],some p)
theorem iU(h:Hd)(ps:List Pr):(cF h ps).1.cnt=h.cnt:=by unfold cF;cases h.val <;> rfl
theorem ED{l:Lt}(ha:gQ G a d h)(hz:h.cnt<=1000)(hz2:(bH h.aA l.kpr l.pair).length<=1000)(hok:h.atw=true->l.num=h.rnd->h.pair=none->∀e∈bH h.aA l.kpr l.pair,e.2.isSome=true)
 (hq:∀ll d' G',Chg [a,d] G G'->(d'=d\/G.length<=d')->G.length<=ll->gQ G' a d' (bN h l).1->G'[ll]? =some (.lst ((bN h l).2.1.map ltD))->Q (.tup [.ref ll,opD (bN h l).2.2]) G'):run (jE [.ref a,ltD l]) G Q E:=by
 have ha0:=ha
 obtain⟨ha,hd⟩:=ha
 unfold hdF at ha
 have hne:d≠a:=by rintro rfl;rw[ha]at hd;cases hd
 have nothing:run (aU (cH (ah (fu ax) (ah (eC .non) ax))) [some (.ref a),some (ltD l)]) G (fun p G1=>p.1= .ret (.tup [.ref G.length,.non])/\Chg [] G G1/\G1[G.length]? =some (.lst [])) E:=by
  refine cS (ym (ay (gB fun G1 c1 l1 h1=>ay (w_c (aJ ⟨qP_ (by with_unfolding_all rfl),rfl,c1,h1⟩)))))
 unfold bN at hq
 walk_at "f"
 unfold pN
 refine aI (fQ (vz (oV (nS (w_fld (w_var rfl (bI ha (by decide) rfl (qx ?_))))))))
 have stop:(!h.atw||!decide (l.num=h.rnd))=true->∀p G1,(p:Fl×St).1= .ret (.tup [.ref G.length,.non])/\Chg [] G G1/\G1[G.length]? =some (.lst [])->Q (.tup [.ref G.length,.non]) G1:=fun c p G1 ⟨_,c1,h1⟩=>by
  rw[if_pos c]at hq
  exact hq G.length d G1 (c1.mono (by simp)) (.inl rfl) (qO_ _) ⟨c1.get ha (by simp),c1.get hd (by simp)⟩ h1
 cases qa:h.atw with
 |false=>
  refine p7 ?_
  refine jD ?_
  refine nj ?_
  refine aC nothing (fun p G1 q=>?_) fun _ _ z=>z
  have qq:=stop (by rw[qa];rfl) p G1 q
  obtain⟨f,σ⟩:=p
  cases (show f= .ret (.tup [.ref G.length,.non])from q.1)
  walk_at "r"
  exact qq
 |true=>
  refine qb ?_
  unfold ltD
  walk_at "r"
  refine pW eq_int ?_
  walk_at "r"
  refine w_ite (fun c=>?_) fun c=>?_
  · refine aC nothing (fun p G1 q=>?_) fun _ _ z=>z
    have qq:=stop (by rw[qa];simpa using c) p G1 q
    obtain⟨f,σ⟩:=p
    cases (show f= .ret (.tup [.ref G.length,.non])from q.1)
    walk_at "r"
    exact qq
  have hnum:l.num=h.rnd:=by simpa using c
  have hc0:¬(!h.atw||!decide (l.num=h.rnd))=true:=by rw[qa,hnum];simp
  rw[if_neg hc0]at hq
  walk_at "r"
  have hzl:(fv h.aA).length < aM:=by
   have:h.aA.length<=(bH h.aA l.kpr l.pair).length:=by
    unfold bH
    split <;> simp
   unfold fv
   rw[qM_]
   unfold aM
   omega
  refine yL hd rfl hzl fun G1 c1 l1 h1=>?_
  rw[Ff]at h1
  have ha1:=c1.get ha (by simpa using Ne.symm hne)
  have c1':Chg [a,d] G G1:=c1.mono (by simp)
  walk_at "r"
  refine Fg h1 ?_
  have e2:(fv (bH h.aA l.kpr l.pair)).length=(bH h.aA l.kpr l.pair).length:=by unfold fv;rw[qM_]
  rw[e2]
  walk_at "r"
  with_reducible refine y9 ?_
  have e3:decide ((h.cnt:Int) < ((bH h.aA l.kpr l.pair).length:Int)*2)=decide (h.cnt < (bH h.aA l.kpr l.pair).length*2):=decide_eq_decide.mpr (by omega)
  rw[e3]
  walk_at "r"
  dsimp only at hq
  cases qm:decide (h.cnt < (bH h.aA l.kpr l.pair).length*2)with
  |false=>
   rw[qm]at hq
   rw[if_pos (show (!false)=true from rfl)]at hq
   walk_at "r"
   have c2:Chg [] G1 (G1++[O.lst []]):=Chg.add _ _
   exact hq G1.length d (G1++[O.lst []]) (c1'.trans (c2.mono (by simp))) (.inl rfl) (Nat.le_of_eq l1.symm) ⟨c2.get ha1 (by simp),c2.get h1 (by simp)⟩ (bK _ _)
  |true=>
   rw[qm]at hq
   rw[if_neg (show ¬(!true)=true from qC_)]at hq
   walk_at "r"
   rw[qd]
   cases qp:h.pair with
   |none=>
    rw[qp]at hq
    refine nj ?_
    dsimp only at hq
    have hv:=Dt (hok qa hnum qp)
    have hvl:=Bp (bH h.aA l.kpr l.pair)
    walk_at "r"
    have hat1:gQ G1 a d {h with aA:=bH h.aA l.kpr l.pair,pair:=none}:=⟨by rw[qp]at ha1;exact ha1,h1⟩
    refine BV hat1 hv (by omega) fun G2 c2 h2=>?_
    have hcn:=iU {h with aA:=bH h.aA l.kpr l.pair,pair:=none} (vals (bH h.aA l.kpr l.pair))
    generalize cF {h with aA:=bH h.aA l.kpr l.pair,pair:=none} (vals (bH h.aA l.kpr l.pair))=ch at hq h2 hcn
    walk_at "r"
    refine mU (p:=some ch.2) h2 (by rw[hcn];exact hz) fun ll d' G3 c3 l3 l4 h3 h4=>?_
    walk_at "r"
    have g2:=c2.1
    exact hq ll d' G3 ((c1'.trans (c2.mono (by simp))).trans (c3.mono (by simp))) (.inr (by omega)) (by omega) h3 h4
   |some p=>
    rw[qp]at hq
    refine o5 ?_
    walk_at "r"
    refine aV ha1 ⟨by decide,qP_ rfl⟩ fun G2 c2 l2 h2=>?_
    have hd2:=c2.get h1 (by simpa using hne)
    refine w_next ?_
    refine cS (ym (ay (gB fun G3 c3 l3 h3=>?_)))
    have h23:=c3.get h2 (by simp)
    have hd3:=c3.get hd2 (by simp)
    refine ay (w_fld (w_var rfl (bI h23 (by decide) rfl (aJ ⟨qP_ (by with_unfolding_all rfl),?_⟩))))
    walk_at "r"
    rw[qp]
    refine hq G2.length d G3 ((c1'.trans (c2.mono (by simp))).trans (c3.mono (by simp))) (.inl rfl) (by omega) ⟨?_,hd3⟩ h3
    rw[qp]at h23
    exact h23
end
structure Hl where
 ks:List Kr
 hs:List Hd
 row:List (Bool×Lt)
structure Ad where
 a:Nat
 lk:Nat
 lh:Nat
 lr:Nat
 ka:List Nat
 ha:List Nat
 da:List Nat
def Ad.foot(A:Ad):List Nat:=[A.a,A.lk,A.lh,A.lr]++(A.ka++(A.ha++A.da))
def refs(xs:List Nat):List D:=xs.map D.ref
structure cg (G:Hh) (A:Ad) (st:Hl):Prop where
 o:G[A.a]? =some (.ins 2 [(9,.ref A.lk),(10,.ref A.lh),(11,.ref A.lr)])
 k:G[A.lk]? =some (.lst (refs A.ka))
 h:G[A.lh]? =some (.lst (refs A.ha))
 r:G[A.lr]? =some (.lst (st.row.map enD))
 kl:A.ka.length=st.ks.length
 hl:A.ha.length=st.hs.length
 dl:A.da.length=st.hs.length
 kr:∀(i:Nat) a k,A.ka[i]? =some a->st.ks[i]? =some k->ja G a k
 hd:∀(i:Nat) a d h,A.ha[i]? =some a->A.da[i]? =some d->st.hs[i]? =some h->gQ G a d h
 nd:A.foot.Nodup
section
variable{G G':Hh}{Q:D->Hh->Prop}{E:Nat->Hh->Prop}{A:Ad}{st:Hl}
theorem cg.lt(H:cg G A st):∀n∈A.foot,n < G.length:=by
 intro n hn
 unfold Ad.foot at hn
 rcases qG_.mp hn with z |z
 · simp only[qS_,List.not_mem_nil,or_false]at z
   rcases z with rfl |rfl |rfl |rfl
   · exact aO H.o
   · exact aO H.k
   · exact aO H.h
   · exact aO H.r
 · rcases qG_.mp z with z |z
   · obtain⟨i,hi,e⟩:=List.getElem_of_mem z
     have h1:A.ka[i]? =some n:=by rw[qA_ hi,e]
     have h2:i < st.ks.length:=by rw[<-H.kl];exact hi
     exact aO (H.kr i n _ h1 (qA_ h2))
   · have lens:=H.dl.trans H.hl.symm
     rcases qG_.mp z with z |z
     · obtain⟨i,hi,e⟩:=List.getElem_of_mem z
       have h1:A.ha[i]? =some n:=by rw[qA_ hi,e]
       have h2:i < st.hs.length:=by rw[<-H.hl];exact hi
       have h3:i < A.da.length:=by rw[H.dl];exact h2
       exact aO (H.hd i n _ _ h1 (qA_ h3) (qA_ h2)).1
     · obtain⟨i,hi,e⟩:=List.getElem_of_mem z
       have h1:A.da[i]? =some n:=by rw[qA_ hi,e]
       have h2:i < st.hs.length:=by rw[<-H.dl];exact hi
       have h3:i < A.ha.length:=by rw[H.hl];exact h2
       exact aO (H.hd i _ n _ (qA_ h3) h1 (qA_ h2)).2
theorem gQ.chg{S:List Nat}{a d:Nat}{h:Hd}(x:gQ G a d h)(c:Chg S G G')(h1:a∉S)(h2:d∉S):gQ G' a d h:=⟨c.get x.1 h1,c.get x.2 h2⟩
theorem yl{i a:Nat}(h:A.ka[i]? =some a):a∈A.foot:=by unfold Ad.foot;simp [qD_ h]
theorem vT{i a:Nat}(h:A.ha[i]? =some a):a∈A.foot:=by unfold Ad.foot;simp [qD_ h]
theorem yE{i a:Nat}(h:A.da[i]? =some a):a∈A.foot:=by unfold Ad.foot;simp [qD_ h]
theorem cg.frame{S:List Nat}(H:cg G A st)(c:Chg S G G')(hs:∀n∈S,n∉A.foot):cg G' A st:=by
 have ns:∀n∈A.foot,n∉S:=fun n h z=>hs n z h
 exact⟨c.get H.o (ns _ (by simp [Ad.foot])),c.get H.k (ns _ (by simp [Ad.foot])),c.get H.h (ns _ (by simp [Ad.foot])),c.get H.r (ns _ (by simp [Ad.foot])),H.kl,H.hl,H.dl,
  fun i a k h1 h2=>c.get (H.kr i a k h1 h2) (ns _ (yl h1)),fun i a d h h1 h2 h3=>(H.hd i a d h h1 h2 h3).chg c (ns _ (vT h1)) (ns _ (yE h2)),H.nd⟩
theorem qV(nd:A.foot.Nodup):(A.a≠A.lk/\A.a≠A.lh/\A.a≠A.lr/\A.lk≠A.lh/\A.lk≠A.lr/\A.lh≠A.lr)/\(∀x∈A.ka++(A.ha++A.da),x≠A.a/\x≠A.lk/\x≠A.lh/\x≠A.lr)/\A.ka.Nodup/\(∀x∈A.ka,x∉A.ha/\x∉A.da)/\A.ha.Nodup/\A.da.Nodup/\∀x∈A.ha,x∉A.da:=by
 unfold Ad.foot at nd
 rw[List.nodup_append]at nd
 obtain⟨n1,n2,n3⟩:=nd
 rw[List.nodup_append]at n2
 obtain⟨n4,n5,n6⟩:=n2
 rw[List.nodup_append]at n5
 obtain⟨n7,n8,n9⟩:=n5
 refine⟨?_,fun x hx=>⟨fun z=>n3 A.a (by simp) x hx z.symm,fun z=>n3 A.lk (by simp) x hx z.symm,fun z=>n3 A.lh (by simp) x hx z.symm,fun z=>n3 A.lr (by simp) x hx z.symm⟩,n4,fun x hx=>⟨fun z=>n6 x hx x (qF_ _ z) rfl,fun z=>n6 x hx x (qE_ _ z) rfl⟩,n7,n8,fun x hx z=>n9 x hx x z rfl⟩
 simp only[List.nodup_cons,qS_,List.not_mem_nil,or_false,not_or]at n1
 obtain⟨⟨a1,a2,a3⟩,⟨a4,a5⟩,a6,_⟩:=n1
 exact⟨a1,a2,a3,a4,a5,a6⟩
theorem get_inj{xs:List Nat}(nd:xs.Nodup){i j x:Nat}(h1:xs[i]? =some x)(h2:xs[j]? =some x):i=j:=by
 obtain⟨l1,e1⟩:=qB_.mp h1
 obtain⟨l2,e2⟩:=qB_.mp h2
 exact(List.getElem_inj nd).mp (e1.trans e2.symm)
theorem H0{xs:List Nat}(h:∀(i j x:Nat),xs[i]? =some x->xs[j]? =some x->i=j):xs.Nodup:=by
 unfold List.Nodup
 rw[List.pairwise_iff_getElem]
 intro i j hi hj hij e
 have:=h i j xs[i] (qA_ hi) (by rw[qA_ hj,e])
 omega
theorem cg.EW{i a:Nat}{k:Kr}(H:cg G A st)(hi:A.ka[i]? =some a)(c:Chg [a] G G')(hk:ja G' a k):cg G' A {st with ks:=st.ks.set i k}:=by
 obtain⟨_,q,nk,nkh,_⟩:=qV H.nd
 have ha:=qD_ hi
 obtain⟨e1,e2,e3,e4⟩:=q a (qF_ _ ha)
 have ns:∀n,n≠a->n∉ [a]:=fun n h z=>h (by simpa using z)
 refine⟨c.get H.o (ns _ (Ne.symm e1)),c.get H.k (ns _ (Ne.symm e2)),c.get H.h (ns _ (Ne.symm e3)),c.get H.r (ns _ (Ne.symm e4)),by simp [H.kl],H.hl,H.dl,fun j b k' h1 h2=>?_,fun j b d h h1 h2 h3=>?_,H.nd⟩
 · by_cases z:j=i
   · subst z
     rw[hi]at h1
     cases h1
     have:j < st.ks.length:=by rw[<-H.kl];exact(qB_.mp hi).1
     rw[qU_ this]at h2
     cases h2
     exact hk
   · have h2:st.ks[j]? =some k':=by
      have h2:(st.ks.set i k)[j]? =some k':=h2
      rw[qV_ (Ne.symm z)]at h2
      exact h2
     refine c.get (H.kr j b k' h1 h2) (ns _ fun w=>z ?_)
     subst w
     exact get_inj nk h1 hi
 · refine(H.hd j b d h h1 h2 h3).chg c (ns _ fun w=>?_) (ns _ fun w=>?_)
   · subst w;exact(nkh _ ha).1 (qD_ h1)
   · subst w;exact(nkh _ ha).2 (qD_ h2)
theorem cg.FA{i a d d':Nat}{h:Hd}(H:cg G A st)(hi:A.ha[i]? =some a)(hj:A.da[i]? =some d)(c:Chg [a,d] G G')(hd':d'=d\/G.length<=d')(hk:gQ G' a d' h):cg G' {A with da:=A.da.set i d'} {st with hs:=st.hs.set i h}:=by
 obtain⟨p0,q,nk,nkh,nh,nD,nhd⟩:=qV H.nd
 have ha:=qD_ hi
 have hda:=qD_ hj
 obtain⟨e1,e2,e3,e4⟩:=q a (qE_ _ (qF_ _ ha))
 obtain⟨g1,g2,g3,g4⟩:=q d (qE_ _ (qE_ _ hda))
 have ns:∀n,n≠a->n≠d->n∉ [a,d]:=fun n h1 h2 z=>by
  simp only[qS_,List.not_mem_nil,or_false]at z
  exact z.elim h1 h2
 have fresh:∀n∈A.foot,n=d'->d'=d:=fun n hn z=>by
  rcases hd' with w |w
  · exact w
  · have:=H.lt n hn;omega
 have mem_set:∀x,x∈A.da.set i d'->x=d'\/x∈A.da/\x≠d:=fun x hx=>by
  obtain⟨j,hjl,e⟩:=List.getElem_of_mem hx
  have e':(A.da.set i d')[j]? =some x:=by rw[qA_ hjl,e]
  by_cases z:j=i
  · subst z
    rw[qU_ (qB_.mp hj).1]at e'
    cases e'
    exact .inl rfl
  · rw[qV_ (Ne.symm z)]at e'
    exact .inr ⟨qD_ e',fun w=>z (by subst w;exact get_inj nD e' hj)⟩
 refine⟨c.get H.o (ns _ (Ne.symm e1) (Ne.symm g1)),c.get H.k (ns _ (Ne.symm e2) (Ne.symm g2)),c.get H.h (ns _ (Ne.symm e3) (Ne.symm g3)),c.get H.r (ns _ (Ne.symm e4) (Ne.symm g4)),H.kl,by simp [H.hl],by simp [H.dl],fun j b k' h1 h2=>?_,fun j b dd hh h1 h2 h3=>?_,?_⟩
 · refine c.get (H.kr j b k' h1 h2) (ns _ (fun w=>?_) fun w=>?_)
   · subst w;exact(nkh _ (qD_ h1)).1 ha
   · subst w;exact(nkh _ (qD_ h1)).2 hda
 · have h2:(A.da.set i d')[j]? =some dd:=h2
   have h3:(st.hs.set i h)[j]? =some hh:=h3
   by_cases z:j=i
   · subst z
     rw[hi]at h1
     cases h1
     rw[qU_ (qB_.mp hj).1]at h2
     rw[qU_ (by rw[<-H.hl];exact(qB_.mp hi).1)]at h3
     cases h2
     cases h3
     exact hk
   · rw[qV_ (Ne.symm z)]at h2 h3
     refine(H.hd j b dd hh h1 h2 h3).chg c (ns _ (fun w=>z ?_) fun w=>?_) (ns _ (fun w=>?_) fun w=>z ?_)
     · subst w;exact get_inj nh h1 hi
     · subst w;exact nhd _ (qD_ h1) hda
     · subst w;exact nhd _ ha (qD_ h2)
     · subst w;exact get_inj nD h2 hj
 · by_cases hz:d'=d
   · subst hz
     have:A.da.set i d'=A.da:=by
      obtain⟨l,e⟩:=qB_.mp hj
      rw[<-e];exact List.set_getElem_self l
     unfold Ad.foot
     dsimp only
     rw[this]
     exact H.nd
   · have big:G.length<=d':=hd'.resolve_left hz
     have nd:=H.nd
     unfold Ad.foot at nd ⊢
     dsimp only
     rw[List.nodup_append]at nd ⊢
     obtain⟨n1,n2,n3⟩:=nd
     rw[List.nodup_append]at n2 ⊢
     obtain⟨n4,n5,n6⟩:=n2
     rw[List.nodup_append]at n5 ⊢
     obtain⟨n7,n8,n9⟩:=n5
     have old:∀x∈A.foot,x≠d':=fun x hx w=>by have:=H.lt x hx;omega
     have nset:(A.da.set i d').Nodup:=by
      refine H0 fun u v x e1 e2=>?_
      by_cases zu:u=i
      · by_cases zv:v=i
        · rw[zu,zv]
        · rw[zu,qU_ (qB_.mp hj).1]at e1
          cases e1
          rw[qV_ (Ne.symm zv)]at e2
          exact absurd rfl (old d' (yE e2))
      · rw[qV_ (Ne.symm zu)]at e1
        by_cases zv:v=i
        · rw[zv,qU_ (qB_.mp hj).1]at e2
          cases e2
          exact absurd rfl (old d' (yE e1))
        · rw[qV_ (Ne.symm zv)]at e2
          exact get_inj n8 e1 e2
     refine⟨n1,⟨n4,⟨n7,nset,fun x hx y hy=>?_⟩,fun x hx y hy=>?_⟩,fun x hx y hy=>?_⟩
     · rcases mem_set y hy with w |w
       · rw[w];exact old x (by unfold Ad.foot;simp [hx])
       · exact n9 x hx y w.1
     · rcases qG_.mp hy with w |w
       · exact n6 x hx y (qF_ _ w)
       · rcases mem_set y w with w |w
         · rw[w];exact old x (by unfold Ad.foot;simp [hx])
         · exact n6 x hx y (qE_ _ w.1)
     · rcases qG_.mp hy with w |w
       · exact n3 x hx y (qF_ _ w)
       · rcases qG_.mp w with w |w
         · exact n3 x hx y (qE_ _ (qF_ _ w))
         · rcases mem_set y w with w |w
           · rw[w];exact old x (by unfold Ad.foot;exact qF_ _ hx)
           · exact n3 x hx y (qE_ _ (qE_ _ w.1))
theorem cg.Gs{row:List (Bool×Lt)}(H:cg G A st)(c:Chg [A.lr] G G')(hr:G'[A.lr]? =some (.lst (row.map enD))):cg G' A {st with row:=row}:=by
 obtain⟨⟨_,_,p3,_,p5,p6⟩,q,_⟩:=qV H.nd
 have ns:∀n,n≠A.lr->n∉ [A.lr]:=fun n h z=>h (by simpa using z)
 have nq:∀x∈A.ka++(A.ha++A.da),x≠A.lr:=fun x hx=>(q x hx).2.2.2
 exact⟨c.get H.o (ns _ p3),c.get H.k (ns _ p5),c.get H.h (ns _ p6),hr,H.kl,H.hl,H.dl,
  fun i a k h1 h2=>c.get (H.kr i a k h1 h2) (ns _ (nq _ (qF_ _ (qD_ h1)))),
  fun i a d h h1 h2 h3=>(H.hd i a d h h1 h2 h3).chg c (ns _ (nq _ (qE_ _ (qF_ _ (qD_ h1))))) (ns _ (nq _ (qE_ _ (qE_ _ (qD_ h2))))),H.nd⟩
end
structure WF (st:Hl):Prop where
 hk:∀(i:Nat) h,st.hs[i]? =some h->h.num=i/\h.cnt=st.ks.length/\(∀e∈h.aA,e.1 < st.ks.length)/\(h.aA.map (·.1)).Nodup/\(h.pair=none->∀e∈h.aA,e.2.isSome=true)
 rw:∀e∈st.row,∃h,st.hs[e.2.hand]? =some h/\e.2.kpr < st.ks.length/\e.2.num<=h.rnd/\(e.2.num=h.rnd->(e.1=false->e.2.pair=h.pair)/\(e.1=true->e.2.pair.isSome=h.pair.isNone))
 ksz:st.ks.length<=9
 hsz:st.hs.length<=9
def qG(e:Nat×Pr):D:= .tup [.int (e.1:Int),pD e.2]
def eN(st:Hl)(place:Nat)(stays:Bool):List (Bool×Lt):=if stays then st.row else st.row.eraseIdx place
def aS(st:Hl)(place:Nat)(stays:Bool):Hl×List (Nat×Pr):=
 match st.row[place]? with
 |none=>(st,[])
 |some (true,l)=>(match st.hs[l.hand]? with
  |none=>(st,[])
  |some h=>({st with hs:=st.hs.set l.hand (bN h l).1,row:=eN st place stays++(bN h l).2.1.map fun x=>(false,x)},match (bN h l).2.2 with
   |none=>[]
   |some p=>[(l.hand,p)]))
 |some (false,l)=>(match st.ks[l.kpr]? with
  |none=>(st,[])
  |some k=>({st with ks:=st.ks.set l.kpr (cx k l).1,row:=eN st place stays++(match (cx k l).2 with
   |none=>[]
   |some x=>[(true,x)])},[]))
structure Ad.To (A A':Ad) (n:Nat):Prop where
 a:A'.a=A.a
 lk:A'.lk=A.lk
 lh:A'.lh=A.lh
 lr:A'.lr=A.lr
 ka:A'.ka=A.ka
 ha:A'.ha=A.ha
 da:∀x∈A'.da,x∈A.da\/n<=x
theorem Ad.To.refl(A:Ad)(n:Nat):A.To A n:=⟨rfl,rfl,rfl,rfl,rfl,rfl,fun _ h=>.inl h⟩
theorem Ad.To.trans{A B C:Ad}{n m:Nat}(x:A.To B n)(y:B.To C m)(h:n<=m):A.To C n:=
 ⟨y.a.trans x.a,y.lk.trans x.lk,y.lh.trans x.lh,y.lr.trans x.lr,y.ka.trans x.ka,y.ha.trans x.ha,fun z hz=>(y.da z hz).elim (x.da z) fun w=>.inr (Nat.le_trans h w)⟩
theorem Ad.To.foot{A B:Ad}{n:Nat}(x:A.To B n):∀z∈B.foot,z∈A.foot\/n<=z:=by
 intro z hz
 unfold Ad.foot at*
 rw[x.a,x.lk,x.lh,x.lr,x.ka,x.ha]at hz
 rcases qG_.mp hz with w |w
 · exact .inl (qF_ _ w)
 · rcases qG_.mp w with w |w
   · exact .inl (qE_ _ (qF_ _ w))
   · rcases qG_.mp w with w |w
     · exact .inl (qE_ _ (qE_ _ (qF_ _ w)))
     · exact(x.da z w).elim (fun w=>.inl (qE_ _ (qE_ _ (qE_ _ w)))) .inr
section
variable{G:Hh}{Q:D->Hh->Prop}{E:Nat->Hh->Prop}{A:Ad}{st:Hl}
theorem km{xs:List Nat}{i a:Nat}(h:xs[i]? =some a):atI (refs xs) (i:Int)=some (.ref a):=lR h
theorem cg.hand(H:cg G A st){i:Nat}{h:Hd}(e:st.hs[i]? =some h):∃a d,A.ha[i]? =some a/\A.da[i]? =some d/\gQ G a d h:=by
 have hl:=(qB_.mp e).1
 have h1:i < A.ha.length:=by rw[H.hl];exact hl
 have h2:i < A.da.length:=by rw[H.dl];exact hl
 exact⟨_,_,qA_ h1,qA_ h2,H.hd i _ _ _ (qA_ h1) (qA_ h2) e⟩
theorem cg.E6(H:cg G A st){i:Nat}{k:Kr}(e:st.ks[i]? =some k):∃a,A.ka[i]? =some a/\ja G a k:=by
 have hl:=(qB_.mp e).1
 have h1:i < A.ka.length:=by rw[H.kl];exact hl
 exact⟨_,qA_ h1,H.kr i _ _ (qA_ h1) e⟩
theorem zV{n k:Nat}{xs:List D}{y:D}(hn:G[n]? =some (.lst xs))(hy:xs[k]? =some y)(hz:xs.length<=1000000)(h:∀G',Chg [n] G G'->G'.length=G.length->G'[n]? =some (.lst (xs.eraseIdx k))->Q y G'):run (nG (.ref n) (.int (k:Int))) G Q E:=by
 have hk:=(qB_.mp hy).1
 refine z7 hn (k:=k) ?_ hy (by omega) (h _ (Chg.set _ _ qI_) (by simp) (jS hn))
 unfold M3.ixN
 rw[if_pos (by omega),if_pos (by omega)]
 simp
theorem uW{ll:Nat}{ls:List Lt}(H:cg G A st)(hl:G[ll]? =some (.lst (ls.map ltD)))(hz:st.row.length+ls.length<=1000000)(hq:∀G',Chg [A.lr] G G'->cg G' A {st with row:=st.row++ls.map fun x=>(false,x)}->Q .non G'):run (dD [.ref A.a,.ref ll]) G Q E:=by
 have ho:=H.o
 walk_at "f"
 unfold pI
 walk_at "r"
 refine jy H.r ?_
 walk_at "r"
 refine gO hl ?_
 refine iN (p:=fun _:Lt=>true) (g:=fun x=>enD (false,x)) (qZ_ hl) (by omega) (fun x _=>jD ⟨rfl,rfl⟩) (fun x _ _=>?_) ?_
 · walk_at "r"
   exact⟨rfl,rfl⟩
 rw[List.filter_eq_self.mpr (fun _ _=>rfl)]
 have c1:Chg [] G (G++[O.lst (ls.map fun x=>enD (false,x))]):=Chg.add _ _
 have H1:cg (G++[O.lst (ls.map fun x=>enD (false,x))]) A st:=H.frame c1 (by simp)
 refine jd H1.r (bK _ _) (by simp [aM];omega) fun G2 c2 l2 h2=>?_
 walk_at "r"
 refine hq G2 ((c1.mono (by simp)).trans c2) (H1.Gs c2 ?_)
 rw[h2,qT_,qb_]
 rfl
theorem o7{l:Lt}{k:Kr}(H:cg G A st)(hk:st.ks[l.kpr]? =some k)(hz:st.row.length < 1000000)
 (hq:∀G',Chg A.foot G G'->cg G' A {st with ks:=st.ks.set l.kpr (cx k l).1,row:=st.row++(match (cx k l).2 with |none=>[] |some x=>[(true,x)])}->Q .non G'):run (dM [.ref A.a,ltD l]) G Q E:=by
 obtain⟨a,ha,hka⟩:=H.E6 hk
 have ho:=H.o
 have hka0:=hka
 unfold ja krF at hka0
 walk_at "f"
 unfold gK
 refine aI (bJ (bT (bc (w_fld (w_var rfl (bI ho (by decide) rfl (bc (w_var rfl (w_c ?_)))))))))
 unfold ltD
 refine cy rfl ?_
 refine fz H.k (km ha) (dI hka0 (ay (w_var rfl (aJ ?_))))
 refine wN hka fun G1 c1 h1=>?_
 have H1:=H.EW ha c1 h1
 have ho1:=H1.o
 have cf:Chg A.foot G G1:=c1.mono (by intro n hn;simp at hn;subst hn;exact yl ha)
 refine w_next ?_
 refine fQ (jJ (t6 (w_var rfl ?_)))
 walk_at "r"
 cases q:(cx k l).2 with
 |none=>
  rw[q]at hq
  refine qb ?_
  walk_at "r"
  rw[qY_]at hq
  exact hq G1 cf H1
 |some x=>
  rw[q]at hq
  refine p7 ?_
  walk_at "r"
  refine jy H1.r ?_
  walk_at "r"
  refine gf H1.r (by rw[qM_];unfold aM;exact qd_ hz (by decide)) fun G2 c2 l2 h2=>?_
  walk_at "r"
  refine hq G2 (cf.trans (c2.mono (by intro n hn;simp at hn;subst hn;simp [Ad.foot]))) (H1.Gs c2 ?_)
  rw[h2,qT_]
  rfl
theorem ux:∀(n:Nat) (m:List Nat),m.Nodup->(∀x∈m,x < n)->m.length<=n
 |0,m,_,h=>by
  cases m with
  |nil=>simp
  |cons a r=>exact absurd (h a qI_) (Nat.not_lt_zero _)
 |n+1,m,nd,h=>by
  by_cases hn:n∈m
  · have:=ux n (m.erase n) (nd.erase n) fun x hx=>by
     have h1:=nd.mem_erase_iff.mp hx
     have h2:=h x h1.2
     have h3:=h1.1
     omega
    rw[List.length_erase_of_mem hn]at this
    omega
  · have:=ux n m nd fun x hx=>by
     have h1:=h x hx
     have h2:x≠n:=fun z=>hn (z ▸ hx)
     omega
    omega
theorem AE{l:List (Nat×Option Pr)}{k:Nat}{p:Option Pr}{n:Nat}(hn:(l.map (·.1)).Nodup)(hl:∀e∈l,e.1 < n)(hk:k < n):(bH l k p).length<=n:=by
 have key:∀m:List Nat,m.Nodup->(∀x∈m,x < n)->m.length<=n:=fun m h1 h2=>ux n m h1 h2
 unfold bH
 split
 · rw[qM_,<-qM_ (f:=(·.1))]
   exact key _ hn fun x hx=>by obtain⟨e,he,rfl⟩:=qH_.mp hx;exact hl e he
 · rename_i hc
   have:((l++[(k,p)]).map (·.1)).length<=n:=by
    refine key _ ?_ fun x hx=>?_
    · rw[qT_,List.nodup_append]
      refine⟨hn,by simp,fun x hx y hy=>?_⟩
      simp at hy
      subst hy
      rintro rfl
      obtain⟨e,he,ee⟩:=qH_.mp hx
      exact hc (List.any_eq_true.mpr ⟨e,he,qZ_ ee⟩)
    · obtain⟨e,he,rfl⟩:=qH_.mp hx
      rcases qG_.mp he with z |z
      · exact hl e z
      · simp at z;rw[z];exact hk
   rw[qM_]at this
   exact this
theorem om{l:List (Nat×Option Pr)}{k:Nat}{p:Option Pr}{e:Nat×Option Pr}(h:e∈bH l k p):(e.1=k/\e.2=p)\/e∈l:=by
 unfold bH at h
 split at h
 · obtain⟨x,hx,ex⟩:=qH_.mp h
   split at ex
   · rename_i z;subst ex;exact .inl ⟨z,rfl⟩
   · subst ex;exact .inr hx
 · rcases qG_.mp h with z |z
   · exact .inr z
   · simp at z;rw[z];exact .inl ⟨rfl,rfl⟩
theorem ug(h:Hd)(l:Lt):(bN h l).2.1.length<=h.cnt:=by
 unfold bN
 split
 · simp
 · dsimp only
   split
   · simp
   · split
     · dsimp only
       unfold bL
       rw[qM_]
       have:=lT (roundF (cF {h with aA:=bH h.aA l.kpr l.pair} (vals (bH h.aA l.kpr l.pair))).1 (some (cF {h with aA:=bH h.aA l.kpr l.pair} (vals (bH h.aA l.kpr l.pair))).2))
       rw[show (roundF (cF {h with aA:=bH h.aA l.kpr l.pair} (vals (bH h.aA l.kpr l.pair))).1 (some (cF {h with aA:=bH h.aA l.kpr l.pair} (vals (bH h.aA l.kpr l.pair))).2)).cnt=h.cnt from iU _ _]at this
       exact this
     · simp
theorem qZ{l:Lt}{h:Hd}(H:cg G A st)(hh:st.hs[l.hand]? =some h)(hc:h.cnt<=9)(hz2:(bH h.aA l.kpr l.pair).length<=1000)(hok:h.atw=true->l.num=h.rnd->h.pair=none->∀e∈bH h.aA l.kpr l.pair,e.2.isSome=true)(hz:st.row.length < 900000)
 (hq:∀le A' G',Chg A.foot G G'->A.To A' G.length->G.length<=le->cg G' A' {st with hs:=st.hs.set l.hand (bN h l).1,row:=st.row++(bN h l).2.1.map fun x=>(false,x)}->G'[le]? =some (.lst ((match (bN h l).2.2 with |none=>[] |some p=>[(l.hand,p)]).map qG))->Q (.ref le) G'):run (ef [.ref A.a,ltD l]) G Q E:=by
 obtain⟨a,d,ha,hda,hat⟩:=H.hand hh
 have ho:=H.o
 have hat0:=hat.1
 unfold hdF at hat0
 walk_at "f"
 unfold iA
 refine aI (bJ (bT (bc (w_fld (w_var rfl (bI ho (by decide) rfl (bc (w_var rfl (w_c ?_)))))))))
 unfold ltD
 refine cy rfl ?_
 refine fz H.h (km ha) (dI hat0 (ay (w_var rfl (aJ ?_))))
 refine ED hat (by omega) hz2 hok fun ll d' G1 c1 l1 l2 h1 h2=>?_
 have H1:=H.FA ha hda c1 l1 h1
 have ho1:G1[A.a]? =_:=H1.o
 have cf:Chg A.foot G G1:=c1.mono (by
  intro n hn
  simp only[qS_,List.not_mem_nil,or_false]at hn
  rcases hn with rfl |rfl
  · exact vT ha
  · exact yE hda)
 have to:A.To {A with da:=A.da.set l.hand d'} G.length:=⟨rfl,rfl,rfl,rfl,rfl,rfl,fun x hx=>by
  rcases List.mem_or_eq_of_mem_set hx with z |z
  · exact .inl z
  · rw[z]
    exact l1.elim (fun w=>.inl (by rw[w];exact qD_ hda)) .inr⟩
 have hl3:=ug h l
 generalize bN h l=r at*
 walk_at "r"
 refine uW (A:={A with da:=A.da.set l.hand d'}) H1 h2 (by show st.row.length+_<=_;omega) fun G2 c2 H2=>?_
 have c2f:Chg A.foot G1 G2:=c2.mono (by intro n hn;simp at hn;subst hn;simp [Ad.foot])
 have g1:=c1.1
 have g2:=c2.1
 walk_at "r"
 rw[qd]
 cases q:r.2.2 with
 |none=>
  rw[q]at hq
  refine nj ?_
  refine cS (gB fun G3 c3 l3 h3=>?_)
  walk_at "r"
  exact hq G2.length _ G3 ((cf.trans c2f).trans (c3.mono (by simp))) to (by omega) (H2.frame c3 (by simp)) h3
 |some p=>
  rw[q]at hq
  refine o5 ?_
  walk_at "r"
  have c3:Chg [] G2 (G2++[O.lst [D.tup [D.int (l.hand:Int),opD (some p)]]]):=Chg.add _ _
  exact hq G2.length _ _ ((cf.trans c2f).trans (c3.mono (by simp))) to (by omega) (H2.frame c3 (by simp)) (bK _ _)
end
def HOK(n i:Nat)(h:Hd):Prop:=h.num=i/\h.cnt=n/\(∀e∈h.aA,e.1 < n)/\(h.aA.map (·.1)).Nodup/\(h.pair=none->∀e∈h.aA,e.2.isSome=true)
def EOK(n:Nat)(hs:List Hd)(e:Bool×Lt):Prop:=∃h,hs[e.2.hand]? =some h/\e.2.kpr < n/\e.2.num<=h.rnd/\(e.2.num=h.rnd->(e.1=false->e.2.pair=h.pair)/\(e.1=true->e.2.pair.isSome=h.pair.isNone))
theorem qX{l:List (Nat×Option Pr)}{k:Nat}{p:Option Pr}(hn:(l.map (·.1)).Nodup):((bH l k p).map (·.1)).Nodup:=by
 unfold bH
 split
 · rw[qb_]
   have:((fun x:Nat×Option Pr=>x.1) ∘ fun e:Nat×Option Pr=>if e.1=k then (e.1,p)else e)=fun e=>e.1:=by
    funext e
    show (if e.1=k then (e.1,p)else e).1=e.1
    split <;> rfl
   rw[this]
   exact hn
 · rename_i hc
   rw[qT_,List.nodup_append]
   refine⟨hn,by simp,fun x hx y hy=>?_⟩
   simp at hy
   subst hy
   rintro rfl
   obtain⟨e,he,ee⟩:=qH_.mp hx
   exact hc (List.any_eq_true.mpr ⟨e,he,qZ_ ee⟩)
theorem vm{n i:Nat}{h:Hd}(hc:h.cnt=n)(hi:h.num=i)(p:Option Pr):HOK n i (roundF h p):=⟨hi,hc,by simp [roundF],by simp [roundF],by simp [roundF]⟩
theorem rf(h:Hd)(ps:List Pr):(cF h ps).1.num=h.num/\(cF h ps).1.rnd=h.rnd/\(cF h ps).1.atw=h.atw:=by unfold cF;cases h.val <;> exact⟨rfl,rfl,rfl⟩
theorem qL{n i:Nat}{h:Hd}(H:HOK n i h){x:Lt}(hx:x∈bL h):x.hand=i/\x.kpr < n/\x.num=h.rnd/\x.pair=h.pair:=by
 unfold bL at hx
 obtain⟨k,hk,rfl⟩:=qH_.mp hx
 unfold nV at hk
 have:=List.mem_range.mp (List.mem_filter.mp hk).1
 exact⟨H.1,by rw[<-H.2.1];exact this,rfl,rfl⟩
theorem FR{n i:Nat}{h:Hd}(H:HOK n i h){l:Lt}(hk:l.kpr < n)(hp:h.pair=none->l.pair.isSome=true):HOK n i {h with aA:=bH h.aA l.kpr l.pair}:=by
 refine⟨H.1,H.2.1,fun e he=>?_,qX H.2.2.2.1,fun z e he=>?_⟩
 · rcases om he with w |w
   · rw[w.1];exact hk
   · exact H.2.2.1 e w
 · rcases om he with w |w
   · rw[w.2];exact hp z
   · exact H.2.2.2.2 z e w
theorem B3{n i:Nat}{h:Hd}(H:HOK n i h){l:Lt}(hk:l.kpr < n)(hp:l.num=h.rnd->l.pair.isSome=h.pair.isNone):
 HOK n i (bN h l).1/\((bN h l).1.rnd=h.rnd/\(bN h l).1.pair=h.pair\/(bN h l).1.rnd=h.rnd+1)/\∀x∈(bN h l).2.1,x.hand=i/\x.kpr < n/\x.num=(bN h l).1.rnd/\x.pair=(bN h l).1.pair:=by
 unfold bN
 split
 · exact⟨H,.inl ⟨rfl,rfl⟩,by simp⟩
 · rename_i hc
   have hnum:l.num=h.rnd:=by
    simp only[Bool.or_eq_true,Bool.not_eq_true',decide_eq_false_iff_not,not_or,Bool.not_eq_false,Decidable.not_not]at hc
    exact hc.2
   have P:=FR H hk (l:=l) fun z=>by rw[hp hnum,z];rfl
   dsimp only
   split
   · exact⟨P,.inl ⟨rfl,rfl⟩,by simp⟩
   · split
     · rename_i qp
       dsimp only
       have c1:=iU {h with aA:=bH h.aA l.kpr l.pair} (vals (bH h.aA l.kpr l.pair))
       have c2:=rf {h with aA:=bH h.aA l.kpr l.pair} (vals (bH h.aA l.kpr l.pair))
       generalize cF {h with aA:=bH h.aA l.kpr l.pair} (vals (bH h.aA l.kpr l.pair))=c at*
       have R:=vm (n:=n) (i:=i) (h:=c.1) (c1.trans H.2.1) (c2.1.trans H.1) (some c.2)
       refine⟨R,.inr ?_,fun x hx=>qL R hx⟩
       show c.1.rnd+1=h.rnd+1
       rw[c2.2.1]
     · exact⟨⟨P.1,P.2.1,P.2.2.1,P.2.2.2.1,P.2.2.2.2⟩,.inl ⟨rfl,rfl⟩,by simp⟩
theorem WF.hok{st:Hl}(W:WF st){i:Nat}{h:Hd}(e:st.hs[i]? =some h):HOK st.ks.length i h:=W.hk i h e
theorem WF.eok{st:Hl}(W:WF st){e:Bool×Lt}(h:e∈st.row):EOK st.ks.length st.hs e:=W.rw e h
theorem lY{st:Hl}{p:Nat}{s:Bool}{e:Bool×Lt}(h:e∈eN st p s):e∈st.row:=by
 unfold eN at h
 cases s with
 |true=>exact h
 |false=>exact List.mem_of_mem_eraseIdx h
theorem ju{st:Hl}(W:WF st)(p:Nat)(s:Bool):WF (aS st p s).1:=by
 unfold aS
 split
 · exact W
 · rename_i l hr
   obtain⟨h,hh,hk,hn,hp⟩:=W.eok (qD_ hr)
   have hh:st.hs[l.hand]? =some h:=hh
   rw[hh]
   dsimp only
   obtain⟨o1,o2,o3⟩:=B3 (W.hok hh) hk fun z=>(hp z).2 rfl
   have hlt:=(qB_.mp hh).1
   generalize bN h l=r at*
   refine⟨fun i g e=>?_,fun e he=>?_,W.ksz,by simpa using W.hsz⟩
   · have e:(st.hs.set l.hand r.1)[i]? =some g:=e
     by_cases z:i=l.hand
     · subst z
       rw[qU_ hlt]at e
       cases e
       exact o1
     · rw[qV_ (Ne.symm z)]at e
       exact W.hk i g e
   · show EOK st.ks.length (st.hs.set l.hand r.1) e
     have he:e∈eN st p s++r.2.1.map fun x=>(false,x):=he
     rcases qG_.mp he with z |z
     · obtain⟨g,hg,q1,q2,q3⟩:=W.eok (lY z)
       by_cases w:e.2.hand=l.hand
       · rw[w]at hg
         rw[hh]at hg
         cases hg
         refine⟨r.1,by rw[w];exact qU_ hlt,q1,?_,fun c=>?_⟩
         · rcases o2 with ⟨o2,_⟩ |o2 <;> omega
         · rcases o2 with ⟨o2,o4⟩ |o2
           · rw[o4];exact q3 (by omega)
           · omega
       · exact⟨g,by rw[qV_ (Ne.symm w)];exact hg,q1,q2,q3⟩
     · obtain⟨x,hx,rfl⟩:=qH_.mp z
       obtain⟨y1,y2,y3,y4⟩:=o3 x hx
       exact⟨r.1,by rw[y1];exact qU_ hlt,y2,Int.le_of_eq y3,fun _=>⟨fun _=>y4,fun z=>by cases z⟩⟩
 · rename_i l hr
   obtain⟨h,hh,hk,hn,hp⟩:=W.eok (qD_ hr)
   have hk':st.ks[l.kpr]? =some st.ks[l.kpr]:=qA_ hk
   rw[hk']
   dsimp only
   generalize st.ks[l.kpr]=k
   have hp0:l.num=h.rnd->l.pair=h.pair:=fun z=>(hp z).1 rfl
   refine⟨fun i g e=>by
    show HOK (st.ks.set l.kpr (cx k l).1).length i g
    rw[qX_]
    exact W.hk i g e,fun e he=>?_,by simpa using W.ksz,W.hsz⟩
   show EOK (st.ks.set l.kpr (cx k l).1).length st.hs e
   rw[qX_]
   have he:e∈eN st p s++(match (cx k l).2 with |none=>[] |some x=>[(true,x)]):=he
   rcases qG_.mp he with z |z
   · exact W.eok (lY z)
   · unfold cx at z
     split at z
     · rename_i e1
       cases up:k.up with
       |false=>simp at z
       |true=>simp at z
     · rename_i x e1
       have z:e=(true,x):=by simpa using z
       subst z
       cases up:k.up with
       |false=>
        rw[up]at e1
        cases e1
       |true=>
        rw[up]at e1
        cases lp:l.pair with
        |none=>
         rw[lp]at e1
         cases e1
         exact⟨h,hh,hk,hn,fun c=>⟨fun z=>(by cases z),fun _=>by rw[<-hp0 c,lp];rfl⟩⟩
        |some q=>
         rw[lp]at e1
         cases e1
         exact⟨h,hh,hk,hn,fun c=>⟨fun z=>(by cases z),fun _=>by rw[<-hp0 c,lp];rfl⟩⟩
def wt(e:Bool×Lt):Nat:=if e.1 then 1 else 2
def pot(h:Hd):Nat:=if h.atw&&h.pair.isNone then 2*h.cnt else 0
def mea(st:Hl):Nat:=(st.row.map wt).sum+(st.hs.map pot).sum
theorem zH{xs:List (Bool×Lt)}:∀{i:Nat} {e:Bool×Lt},xs[i]? =some e->(xs.map wt).sum=wt e+((xs.eraseIdx i).map wt).sum:=by
 induction xs with
 |nil=>intro i e h;simp at h
 |cons x r ih=>
  intro i e h
  cases i with
  |zero=>simp at h;subst h;simp
  |succ i=>
   have:=ih (i:=i) (e:=e) (by simpa using h)
   simp only[List.eraseIdx_cons_succ,List.map_cons,List.sum_cons]
   omega
theorem sum_set{hs:List Hd}:∀{i:Nat} {h g:Hd},hs[i]? =some h->((hs.set i g).map pot).sum+pot h=(hs.map pot).sum+pot g:=by
 induction hs with
 |nil=>intro i h g e;simp at e
 |cons x r ih=>
  intro i h g e
  cases i with
  |zero=>simp at e;subst e;simp;omega
  |succ i=>
   have:=ih (i:=i) (h:=h) (g:=g) (by simpa using e)
   simp only[List.set_cons_succ,List.map_cons,List.sum_cons]
   omega
theorem pf(ls:List Lt):((ls.map fun x=>(false,x)).map wt).sum=2*ls.length:=by
 induction ls with
 |nil=>rfl
 |cons x r ih=>
  simp only[List.map_cons,List.sum_cons,List.length_cons]
  rw[ih]
  show 2+2*r.length=2*(r.length+1)
  omega
theorem BL{h:Hd}{l:Lt}:pot (bN h l).1+2*(bN h l).2.1.length<=pot h:=by
 unfold bN
 split
 · simp
 · rename_i hc
   have hat:h.atw=true:=by
    simp only[Bool.or_eq_true,Bool.not_eq_true',decide_eq_false_iff_not,not_or,Bool.not_eq_false,Decidable.not_not]at hc
    exact hc.1
   dsimp only
   split
   · simp [pot]
   · split
     · rename_i qp
       dsimp only
       have c1:=iU {h with aA:=bH h.aA l.kpr l.pair} (vals (bH h.aA l.kpr l.pair))
       generalize cF {h with aA:=bH h.aA l.kpr l.pair} (vals (bH h.aA l.kpr l.pair))=c at*
       have h1:pot (roundF c.1 (some c.2))=0:=by unfold pot roundF;simp
       have h2:pot h=2*h.cnt:=by unfold pot;rw[hat,qp];rfl
       have h3:(bL (roundF c.1 (some c.2))).length<=h.cnt:=by
        unfold bL
        rw[qM_]
        have:=lT (roundF c.1 (some c.2))
        rw[show (roundF c.1 (some c.2)).cnt=h.cnt from c1]at this
        exact this
       rw[h1,h2]
       omega
     · simp [pot]
theorem vV{st:Hl}(W:WF st){p:Nat}{s:Bool}{e:Bool×Lt}(hr:st.row[p]? =some e):mea (aS st p s).1+(if s then 0 else 1)<=mea st+(if s then 1 else 0):=by
 have off:((eN st p s).map wt).sum+(if s then 0 else wt e)=(st.row.map wt).sum:=by
  unfold eN
  cases s with
  |true=>simp
  |false=>have:=zH hr;simp;omega
 obtain⟨h,hh,hk,_⟩:=W.eok (qD_ hr)
 unfold aS
 rw[hr]
 obtain⟨b,l⟩:=e
 cases b with
 |true=>
  have hh:st.hs[l.hand]? =some h:=hh
  dsimp only
  rw[hh]
  dsimp only
  have h1:=BL (h:=h) (l:=l)
  have h2:=sum_set (g:=(bN h l).1) hh
  unfold mea
  dsimp only
  rw[qT_,List.sum_append,pf]
  have h3:wt (true,l)=1:=rfl
  cases s <;> simp only[reduceIte,Bool.false_eq_true]at off ⊢ <;> omega
 |false=>
  dsimp only
  have hk':st.ks[l.kpr]? =some st.ks[l.kpr]:=qA_ hk
  rw[hk']
  dsimp only
  unfold mea
  dsimp only
  rw[qT_,List.sum_append]
  have h3:wt (false,l)=2:=rfl
  generalize cx st.ks[l.kpr] l=r
  obtain⟨r1,r2⟩:=r
  cases r2 with
  |none=>
   dsimp only
   rw[List.map_nil,List.sum_nil]
   cases s <;> simp only[reduceIte,Bool.false_eq_true]at off ⊢ <;> omega
  |some x=>
   dsimp only
   have h5:([(true,x)].map wt).sum=1:=rfl
   rw[h5]
   cases s <;> simp only[reduceIte,Bool.false_eq_true]at off ⊢ <;> omega
theorem tO(st:Hl):st.row.length<=mea st:=by
 unfold mea
 have:∀xs:List (Bool×Lt),xs.length<=(xs.map wt).sum:=by
  intro xs
  induction xs with
  |nil=>simp
  |cons x r ih=>
   simp only[List.length_cons,List.map_cons,List.sum_cons]
   have:1<=wt x:=by unfold wt;split <;> omega
   omega
 have:=this st.row
 omega
section
variable{G:Hh}{Q:D->Hh->Prop}{E:Nat->Hh->Prop}{A:Ad}{st:Hl}
theorem tD{α β:Type}(f:α->β):∀(xs:List α) (i:Nat),(xs.map f).eraseIdx i=(xs.eraseIdx i).map f
 | [],_=>rfl
 |_ :: _,0=>rfl
 |x :: r,i+1=>by
  show f x :: (r.map f).eraseIdx i=f x :: (r.eraseIdx i).map f
  rw[tD f r i]
theorem xC{p:Nat}{s:Bool}{e:Bool×Lt}(H:cg G A st)(W:WF st)(hr:st.row[p]? =some e)(hz:mea st<=800000)
 (hq:∀le A' G',Chg A.foot G G'->A.To A' G.length->G.length<=le->cg G' A' (aS st p s).1->G'[le]? =some (.lst ((aS st p s).2.map qG))->Q (.ref le) G'):run (eG [.ref A.a,.int (p:Int),.bl s]) G Q E:=by
 obtain⟨h,hh,hk,hn,hp⟩:=W.eok (qD_ hr)
 have hrl:=tO st
 have ho:=H.o
 have hix:atI (st.row.map enD) (p:Int)=some (enD e):=lR hr
 have hre:(st.row.map enD)[p]? =some (enD e):=by rw[qQ_,hr];rfl
 walk_at "f"
 unfold pv
 refine aI (bJ (bc (w_fld (w_var rfl (bI ho (by decide) rfl (w_var rfl (fz H.r hix ?_)))))))
 refine w_next ?_
 walk_at "s"
 have step:run (sIf (iD (tOf (af 2))) (cY (uz (bB (af 0) 11) (af 1))) bU [some (.ref A.a),some (.int (p:Int)),some (.bl s),some (enD e)]) G (fun r G1=>r=(.next,[some (.ref A.a),some (.int (p:Int)),some (.bl s),some (enD e)])/\Chg [A.lr] G G1/\cg G1 A {st with row:=eN st p s}) E:=by
  refine fQ (oV (nS (w_var rfl (qx ?_))))
  cases s with
  |true=>
   refine qb (m7 ⟨rfl,Chg.refl _ _,H⟩)
  |false=>
   refine p7 (eE (yM (w_fld (w_var rfl (bI ho (by decide) rfl (jy H.r (w_var rfl ?_)))))))
   refine zV H.r hre (by rw[qM_];omega) fun G1 c1 l1 h1=>⟨rfl,c1,H.Gs c1 ?_⟩
   rw[h1]
   show some (O.lst ((st.row.map enD).eraseIdx p))=some (O.lst ((st.row.eraseIdx p).map enD))
   rw[tD]
 refine aI (aC step (fun r G1 ⟨er,c1,H1⟩=>?_) fun _ _ z=>z)
 subst er
 refine w_next ?_
 have c1f:Chg A.foot G G1:=c1.mono (by intro n hn;simp at hn;subst hn;simp [Ad.foot])
 have g1:=c1.1
 have ho1:=H1.o
 have lo:(eN st p s).length<=st.row.length:=by
  unfold eN
  cases s with
  |true=>exact qO_ _
  |false=>exact List.length_eraseIdx_le _ _
 obtain⟨b,l⟩:=e
 unfold aS at hq
 rw[hr]at hq
 cases b with
 |true=>
  have hh:st.hs[l.hand]? =some h:=hh
  dsimp only at hq
  rw[hh]at hq
  dsimp only at hq
  obtain⟨k1,k2,k3,k4,k5⟩:=W.hk _ _ hh
  have hks:=W.ksz
  refine aI (fQ (nS (bc (w_var rfl (w_c (cy rfl (qx (nj ?_))))))))
  refine cS (bT (w_var rfl (dI ho1 (ay (bc (w_var rfl (w_c (cy rfl (aJ ?_)))))))))
  refine qZ (st:={st with row:=eN st p s}) H1 hh (by omega) (Nat.le_trans (AE k4 k3 hk) (by omega)) (fun q1 q2 q3 x hx=>?_) (by show (eN st p s).length < 900000;omega) fun le A' G2 c2 to l2 H2 h2=>?_
  · rcases om hx with w |w
    · rw[w.2,(hp q2).2 rfl,q3];rfl
    · exact k5 q3 x w
  · walk_at "r"
    exact hq le A' G2 (c1f.trans c2) ⟨to.a,to.lk,to.lh,to.lr,to.ka,to.ha,fun x hx=>(to.da x hx).imp id fun z=>by omega⟩ (by omega) H2 h2
 |false=>
  have hk':st.ks[l.kpr]? =some st.ks[l.kpr]:=qA_ hk
  dsimp only at hq
  rw[hk']at hq
  dsimp only at hq
  generalize st.ks[l.kpr]=k at hq hk'
  refine aI (fQ (nS (bc (w_var rfl (w_c (cy rfl (qx (o5 ?_))))))))
  refine m7 (w_next ?_)
  refine aI (eE (bT (w_var rfl (dI ho1 (ay (bc (w_var rfl (w_c (cy rfl (aJ ?_))))))))))
  refine o7 (st:={st with row:=eN st p s}) H1 hk' (by show (eN st p s).length < 1000000;omega) fun G2 c2 H2=>?_
  refine w_next ?_
  refine cS (gB fun G3 c3 l3 h3=>?_)
  walk_at "r"
  have g2:=c2.1
  exact hq G2.length A G3 ((c1f.trans c2).trans (c3.mono (by simp))) (Ad.To.refl _ _) (by omega) (H2.frame c3 (by simp)) h3
theorem j5{i:Int}(H:cg G A st)(hb:(i < 0\/(st.hs.length:Int)<=i)->E 1001 G)(hq:∀j a:Nat,i=(j:Int)->A.ha[j]? =some a->Q (.ref a) G):run (bD [.ref A.a,.int i]) G Q E:=by
 have ho:=H.o
 walk_at "f"
 unfold lu
 walk_at "r"
 refine w_ite (fun c=>?_) fun c=>?_
 · walk_at "r"
   exact hb (.inl (of_decide_eq_true c))
 · have c:=of_decide_eq_false c
   walk_at "r"
   refine fR H.h ?_
   rw[show (refs A.ha).length=A.ha.length from qM_ _]
   walk_at "r"
   refine w_ite (fun c2=>?_) fun c2=>?_
   · walk_at "r"
     refine hb (.inr ?_)
     have:=of_decide_eq_true c2
     rw[<-H.hl];exact this
   · have c2:=of_decide_eq_false c2
     have hlt:i.toNat < A.ha.length:=by omega
     have e1:A.ha[i.toNat]? =some A.ha[i.toNat]:=qA_ hlt
     have e2:atI (refs A.ha) i=some (.ref A.ha[i.toNat]):=by
      have:=km e1
      rwa [Int.toNat_of_nonneg (by omega)]at this
     walk_at "r"
     refine fz H.h e2 ?_
     walk_at "r"
     exact hq i.toNat _ (by omega) e1
theorem lI{i:Int}(H:cg G A st)(hb:(i < 0\/(st.ks.length:Int)<=i)->E 1002 G)(hq:∀j a:Nat,i=(j:Int)->A.ka[j]? =some a->Q (.ref a) G):run (bW [.ref A.a,.int i]) G Q E:=by
 have ho:=H.o
 walk_at "f"
 unfold j7
 walk_at "r"
 refine w_ite (fun c=>?_) fun c=>?_
 · walk_at "r"
   exact hb (.inl (of_decide_eq_true c))
 · have c:=of_decide_eq_false c
   walk_at "r"
   refine fR H.k ?_
   rw[show (refs A.ka).length=A.ka.length from qM_ _]
   walk_at "r"
   refine w_ite (fun c2=>?_) fun c2=>?_
   · walk_at "r"
     refine hb (.inr ?_)
     have:=of_decide_eq_true c2
     rw[<-H.kl];exact this
   · have c2:=of_decide_eq_false c2
     have hlt:i.toNat < A.ka.length:=by omega
     have e1:A.ka[i.toNat]? =some A.ka[i.toNat]:=qA_ hlt
     have e2:atI (refs A.ka) i=some (.ref A.ka[i.toNat]):=by
      have:=km e1
      rwa [Int.toNat_of_nonneg (by omega)]at this
     walk_at "r"
     refine fz H.k e2 ?_
     walk_at "r"
     exact hq i.toNat _ (by omega) e1
def newRow(st:Hl)(h:Hd):List (Bool×Lt):=st.row++(bL h).map fun x=>(false,x)
theorem jB(h:Hd):(bL h).length<=h.cnt:=by unfold bL;rw[qM_];exact lT h
def bM(st:Hl)(i:Nat)(h:Hd)(v:Option Int):Hl:={st with hs:=st.hs.set i (dt h v),row:=newRow st (dt h v)}
theorem p9(H:cg G A st){j a:Nat}(hj:A.ha[j]? =some a):∃h,st.hs[j]? =some h:=by
 have:j < st.hs.length:=by rw[<-H.hl];exact(qB_.mp hj).1
 exact⟨_,qA_ this⟩
theorem BK(H:cg G A st){j a:Nat}(hj:A.ka[j]? =some a):∃k,st.ks[j]? =some k:=by
 have:j < st.ks.length:=by rw[<-H.kl];exact(qB_.mp hj).1
 exact⟨_,qA_ this⟩
theorem begun{i a d d' ll:Nat}{h:Hd}{v:Option Int}{G1:Hh}(H:cg G A st)(ha:A.ha[i]? =some a)(hd:A.da[i]? =some d)(c1:Chg [a] G G1)(l1:G.length<=d')(h1:gQ G1 a d' (dt h v)):
 cg G1 {A with da:=A.da.set i d'} {st with hs:=st.hs.set i (dt h v)}/\A.To {A with da:=A.da.set i d'} G.length/\Chg A.foot G G1:=by
 refine⟨H.FA ha hd (c1.mono (by simp)) (.inr l1) h1,⟨rfl,rfl,rfl,rfl,rfl,rfl,fun x hx=>?_⟩,c1.mono (by intro n hn;simp at hn;subst hn;exact vT ha)⟩
 rcases List.mem_or_eq_of_mem_set hx with z |z
 · exact .inl z
 · rw[z];exact .inr l1
theorem CD{i v:Int}(H:cg G A st)(W:WF st)(hz:mea st<=800000)(hb:(i < 0\/(st.hs.length:Int)<=i)->E 1001 G)(hbusy:∀(j:Nat) h,i=(j:Int)->st.hs[j]? =some h->h.atw=true->E 1004 G)
 (hq:∀(j:Nat) h,i=(j:Int)->st.hs[j]? =some h->h.atw=false->∀A' G',Chg A.foot G G'->A.To A' G.length->cg G' A' (bM st j h (some v))->Q .non G'):run (iK [.ref A.a,.int i,.int v]) G Q E:=by
 have ho:=H.o
 have hrl:=tO st
 walk_at "f"
 unfold nW
 walk_at "r"
 refine j5 H hb fun j a hi ha=>?_
 obtain⟨h,hh⟩:=p9 H ha
 obtain⟨a',d,ha',hd,hat⟩:=H.hand hh
 rw[ha]at ha'
 cases ha'
 obtain⟨k1,k2,_⟩:=W.hk _ _ hh
 have hks:=W.ksz
 have hat0:=hat.1
 unfold hdF at hat0
 walk_at "r"
 refine rU hat (by omega) (fun q=>hbusy j h hi hh q) fun q ll d' G1 c1 l1 l2 h1 h2=>?_
 obtain⟨H1,to,cf⟩:=begun (ll:=ll) H ha hd c1 l1 h1
 have hll:=jB (dt h (some v))
 have hcn:(dt h (some v)).cnt=h.cnt:=rfl
 walk_at "r"
 refine uW (A:={A with da:=A.da.set j d'}) H1 h2 (by show st.row.length+_<=_;omega) fun G2 c2 H2=>?_
 walk_at "r"
 exact hq j h hi hh q _ G2 (cf.trans (c2.mono (by intro n hn;simp at hn;subst hn;simp [Ad.foot]))) to H2
theorem Gn{i:Int}(H:cg G A st)(W:WF st)(hz:mea st<=800000)(hb:(i < 0\/(st.hs.length:Int)<=i)->E 1001 G)(hbusy:∀(j:Nat) h,i=(j:Int)->st.hs[j]? =some h->h.atw=true->E 1004 G)
 (hq:∀(j:Nat) h,i=(j:Int)->st.hs[j]? =some h->h.atw=false->∀A' G',Chg A.foot G G'->A.To A' G.length->cg G' A' (bM st j h none)->Q .non G'):run (jG [.ref A.a,.int i]) G Q E:=by
 have ho:=H.o
 have hrl:=tO st
 walk_at "f"
 unfold pk
 walk_at "r"
 refine j5 H hb fun j a hi ha=>?_
 obtain⟨h,hh⟩:=p9 H ha
 obtain⟨a',d,ha',hd,hat⟩:=H.hand hh
 rw[ha]at ha'
 cases ha'
 obtain⟨k1,k2,_⟩:=W.hk _ _ hh
 have hks:=W.ksz
 have hat0:=hat.1
 unfold hdF at hat0
 walk_at "r"
 refine tY hat (by omega) (fun q=>hbusy j h hi hh q) fun q ll d' G1 c1 l1 l2 h1 h2=>?_
 obtain⟨H1,to,cf⟩:=begun (ll:=ll) H ha hd c1 l1 h1
 have hll:=jB (dt h none)
 have hcn:(dt h none).cnt=h.cnt:=rfl
 walk_at "r"
 refine uW (A:={A with da:=A.da.set j d'}) H1 h2 (by show st.row.length+_<=_;omega) fun G2 c2 H2=>?_
 walk_at "r"
 exact hq j h hi hh q _ G2 (cf.trans (c2.mono (by intro n hn;simp at hn;subst hn;simp [Ad.foot]))) to H2
theorem B9{i:Int}(H:cg G A st)(W:WF st)(hz:mea st<=800000)(hb:(i < 0\/(st.hs.length:Int)<=i)->E 1001 G)(hidle:∀(j:Nat) h,i=(j:Int)->st.hs[j]? =some h->h.atw=false->∀G',Chg [] G G'->E 1005 G')
 (hq:∀(j:Nat) h,i=(j:Int)->st.hs[j]? =some h->h.atw=true->∀G',Chg A.foot G G'->cg G' A {st with row:=newRow st h}->Q (.int ((bL h).length:Int)) G'):run (iF [.ref A.a,.int i]) G Q E:=by
 have ho:=H.o
 have hrl:=tO st
 walk_at "f"
 unfold oi
 walk_at "r"
 refine j5 H hb fun j a hi ha=>?_
 obtain⟨h,hh⟩:=p9 H ha
 obtain⟨a',d,ha',hd,hat⟩:=H.hand hh
 rw[ha]at ha'
 cases ha'
 obtain⟨k1,k2,_⟩:=W.hk _ _ hh
 have hks:=W.ksz
 have hat0:=hat.1
 unfold hdF at hat0
 walk_at "r"
 refine uN hat (by omega) (fun q=>hidle j h hi hh q G (Chg.refl _ _)) fun q ll G1 x1 l1 h1=>?_
 have H1:=H.frame (S:=[]) x1.chg (by simp)
 have ho1:=H1.o
 have hll:=jB h
 walk_at "r"
 refine uW H1 h1 (by omega) fun G2 c2 H2=>?_
 have hne:ll∉ [A.lr]:=fun z=>by
  have:=aO H.r
  simp at z
  omega
 walk_at "r"
 refine fR (c2.get h1 hne) ?_
 rw[qM_]
 walk_at "r"
 exact hq j h hi hh q G2 (x1.chg.trans (c2.mono (by intro n hn;simp at hn;subst hn;simp [Ad.foot]))) H2
theorem DE{i:Int}(H:cg G A st)(hb:(i < 0\/(st.hs.length:Int)<=i)->E 1001 G)(hidle:∀(j:Nat) h,i=(j:Int)->st.hs[j]? =some h->h.atw=false->E 1005 G)
 (hq:∀(j:Nat) h,i=(j:Int)->st.hs[j]? =some h->h.atw=true->∀G',Chg A.foot G G'->cg G' A {st with hs:=st.hs.set j {h with atw:=false}}->Q .non G'):run (iL [.ref A.a,.int i]) G Q E:=by
 have ho:=H.o
 walk_at "f"
 unfold oG
 walk_at "r"
 refine j5 H hb fun j a hi ha=>?_
 obtain⟨h,hh⟩:=p9 H ha
 obtain⟨a',d,ha',hd,hat⟩:=H.hand hh
 rw[ha]at ha'
 cases ha'
 have hat0:=hat.1
 unfold hdF at hat0
 walk_at "r"
 refine y8 hat (fun q=>hidle j h hi hh q) fun q G1 c1 h1=>?_
 have H1:=H.FA ha hd (c1.mono (by simp)) (.inl rfl) h1
 have e1:A.da.set j d=A.da:=by
  obtain⟨l,e⟩:=qB_.mp hd
  rw[<-e];exact List.set_getElem_self l
 rw[e1]at H1
 walk_at "r"
 exact hq j h hi hh q G1 (c1.mono (by intro n hn;simp at hn;subst hn;exact vT ha)) H1
theorem sh{i:Int}(H:cg G A st)(hb:(i < 0\/(st.ks.length:Int)<=i)->E 1002 G)
 (hq:∀(j:Nat) k,i=(j:Int)->st.ks[j]? =some k->∀G',Chg A.foot G G'->cg G' A {st with ks:=st.ks.set j {k with up:=false}}->Q (.bl k.up) G'):run (eO [.ref A.a,.int i]) G Q E:=by
 have ho:=H.o
 walk_at "f"
 unfold je
 walk_at "r"
 refine lI H hb fun j a hi ha=>?_
 obtain⟨k,hk⟩:=BK H ha
 have hka:=H.kr j a k ha hk
 have hka0:=hka
 unfold ja krF at hka0
 walk_at "r"
 refine Ea hka fun G1 c1 h1=>?_
 walk_at "r"
 exact hq j k hi hk G1 (c1.mono (by intro n hn;simp at hn;subst hn;exact yl ha)) (H.EW ha c1 h1)
theorem sv{i:Int}(H:cg G A st)(hb:(i < 0\/(st.ks.length:Int)<=i)->E 1002 G)
 (hq:∀(j:Nat) k,i=(j:Int)->st.ks[j]? =some k->∀G',Chg A.foot G G'->cg G' A {st with ks:=st.ks.set j {k with up:=true}}->Q (.bl (!k.up)) G'):run (eL [.ref A.a,.int i]) G Q E:=by
 have ho:=H.o
 walk_at "f"
 unfold iW
 walk_at "r"
 refine lI H hb fun j a hi ha=>?_
 obtain⟨k,hk⟩:=BK H ha
 have hka:=H.kr j a k ha hk
 have hka0:=hka
 unfold ja krF at hka0
 walk_at "r"
 refine EO hka fun G1 c1 h1=>?_
 walk_at "r"
 exact hq j k hi hk G1 (c1.mono (by intro n hn;simp at hn;subst hn;exact yl ha)) (H.EW ha c1 h1)
end
def runN(sel:Hl->Option Nat):Nat->Hl->Hl×List (Nat×Pr)
 |0,st=>(st,[])
 |k+1,st=>match sel st with
  |none=>(st,[])
  |some p=>((runN sel k (aS st p false).1).1,(aS st p false).2++(runN sel k (aS st p false).1).2)
def Sel(sel:Hl->Option Nat):Prop:=∀st p,sel st=some p->p < st.row.length
theorem df{st:Hl}(W:WF st){p:Nat}(hp:p < st.row.length):mea (aS st p false).1+1<=mea st:=by
 have:=vV W (s:=false) (qA_ hp)
 simpa using this
theorem lP{sel:Hl->Option Nat}(hs:Sel sel):∀(k:Nat) (st:Hl),WF st->mea st<=k->runN sel k st=runN sel (mea st) st
 |0,st,W,h=>by rw[Nat.le_zero.mp h]
 |k+1,st,W,h=>by
  have key:∀m,mea st<=m+1->m<=k->runN sel (m+1) st=match sel st with
   |none=>(st,[])
   |some p=>((runN sel (mea (aS st p false).1) (aS st p false).1).1,(aS st p false).2++(runN sel (mea (aS st p false).1) (aS st p false).1).2):=by
   intro m hm hmk
   show (match sel st with
    |none=>(st,[])
    |some p=>((runN sel m (aS st p false).1).1,(aS st p false).2++(runN sel m (aS st p false).1).2))=_
   cases q:sel st with
   |none=>rfl
   |some p=>
    dsimp only
    have h1:=df W (hs st p q)
    have ih:=lP hs k (aS st p false).1 (ju W p false) (by omega)
    rcases Nat.lt_or_ge m k with z |z
    · have ih2:runN sel m (aS st p false).1=runN sel (mea (aS st p false).1) (aS st p false).1:=by
       have a1:=lP hs m (aS st p false).1 (ju W p false) (by omega)
       exact a1
      rw[ih2]
    · have:m=k:=by omega
      rw[this,ih]
  rw[key k h (qO_ _)]
  cases q:mea st with
  |zero=>
   cases qs:sel st with
   |none=>rfl
   |some p=>
    have h1:=df W (hs st p qs)
    omega
  |succ m=>
   rw[key m (by omega) (by omega)]
 termination_by k=>k
def cV(sel:Hl->Option Nat)(st:Hl):Hl×List (Nat×Pr):=runN sel (mea st) st
theorem eS{sel:Hl->Option Nat}{st:Hl}(h:sel st=none):cV sel st=(st,[]):=by
 unfold cV
 cases mea st with
 |zero=>rfl
 |succ k=>show (match sel st with |none=>(st,[]) |some p=>_)=_;rw[h]
theorem jY{sel:Hl->Option Nat}(hs:Sel sel){st:Hl}(W:WF st){p:Nat}(h:sel st=some p):cV sel st=((cV sel (aS st p false).1).1,(aS st p false).2++(cV sel (aS st p false).1).2):=by
 unfold cV
 have h1:=df W (hs st p h)
 cases q:mea st with
 |zero=>omega
 |succ k=>
  show (match sel st with |none=>(st,[]) |some p=>_)=_
  rw[h]
  dsimp only
  rw[lP hs k _ (ju W p false) (by omega)]
theorem lV(st:Hl)(p:Nat)(s:Bool):(aS st p s).2.length<=1:=by
 unfold aS
 split
 · simp
 · split
   · simp
   · dsimp only;split <;> simp
 · split <;> simp
theorem ot{sel:Hl->Option Nat}(hs:Sel sel):∀(n:Nat) (st:Hl),WF st->mea st<=n->(cV sel st).2.length<=mea st:=by
 intro n
 induction n with
 |zero=>
  intro st W h
  cases q:sel st with
  |none=>rw[eS q];simp
  |some p=>have:=df W (hs st p q);omega
 |succ n ih=>
  intro st W h
  cases q:sel st with
  |none=>rw[eS q];simp
  |some p=>
   have h1:=df W (hs st p q)
   have h2:=ih (aS st p false).1 (ju W p false) (by omega)
   have h3:=lV st p false
   rw[jY hs W q]
   dsimp only
   rw[qN_]
   omega
def ba(st:Hl):Option Nat:=if st.row=[]then none else some 0
theorem dR:Sel ba:=fun st p h=>by
 unfold ba at h
 split at h
 · cases h
 · rename_i hn
   cases h
   cases q:st.row with
   |nil=>exact absurd q hn
   |cons _ _=>simp
def tK(i j:Nat)(e:Bool×Lt):Bool:=decide (e.2.hand=i)&&decide (e.2.kpr=j)
def d5(i j:Nat)(st:Hl):Option Nat:=st.row.findIdx? (tK i j)
theorem fq(i j:Nat):Sel (d5 i j):=fun st p h=>by
 unfold d5 at h
 exact(List.findIdx?_eq_some_iff_getElem.mp h).1
section
variable{G:Hh}{Q:D->Hh->Prop}{E:Nat->Hh->Prop}{A:Ad}{st:Hl}
def oN:Option Nat->D
 |none=>.non
 |some p=>.int (p:Int)
theorem kH{i j:Nat}(H:cg G A st)(hq:Q (oN (d5 i j st)) G):run (cU [.ref A.a,.int (i:Int),.int (j:Int)]) G Q E:=by
 have ho:=H.o
 walk_at "f"
 unfold hW
 walk_at "r"
 refine Dj H.r ?_
 refine ra (xs:=j6 (st.row.map enD)) (fun k σ G'=>G'=G/\(∀x∈st.row.take k,tK i j x=false)/\∃x y,σ=[some (.ref A.a),some (.int (i:Int)),some (.int (j:Int)),x,y]) ?_ ?_ ?_ _ 0 _ _ List.drop_zero (qf_ _) ⟨rfl,by simp,none,none,rfl⟩
 · rintro k σ G' ⟨rfl,_⟩
   exact qZ_ H.r
 · rintro k x σ G' hx ⟨rfl,hP,_,_,rfl⟩
   obtain⟨z,hz,rfl⟩:=zb hx
   obtain⟨e,he,rfl⟩:=uI hz
   have hsplit:st.row.take (k+1)=st.row.take k++[e]:=take_succ he
   unfold enD ltD
   walk_at "r"
   refine aW (a:=D.tup [D.int (e.2.hand:Int),D.int (e.2.kpr:Int)]) (G':=G') rfl ?_
   walk_at "r"
   refine w_eq (b:=tK i j e) ?_ ?_
   · show some ((decide ((e.2.hand:Int)=(i:Int))&&(decide ((e.2.kpr:Int)=(j:Int))&&true))&&decide (2=2))=some (tK i j e)
     unfold tK
     congr 1
     have a1:decide ((e.2.hand:Int)=(i:Int))=decide (e.2.hand=i):=decide_eq_decide.mpr (by omega)
     have a2:decide ((e.2.kpr:Int)=(j:Int))=decide (e.2.kpr=j):=decide_eq_decide.mpr (by omega)
     rw[a1,a2]
     simp
   walk_at "r"
   cases q:tK i j e with
   |true=>
    walk_at "r"
    have:d5 i j st=some k:=by
     unfold d5
     rw[List.findIdx?_eq_some_iff_getElem]
     obtain⟨hl,ee⟩:=qB_.mp he
     refine⟨hl,by rw[ee];exact q,fun m hm=>?_⟩
     have hml:m < st.row.length:=by omega
     have:=hP st.row[m] (qD_ (i:=m) (by rw[List.getElem?_take,if_pos hm,qA_ hml]))
     rw[this];exact qC_
    rw[this]at hq
    exact hq
   |false=>
    walk_at "r"
    refine⟨rfl,fun x hx=>?_,_,_,rfl⟩
    rw[hsplit]at hx
    rcases qG_.mp hx with z |z
    · exact hP x z
    · simp at z;rw[z];exact q
 · rintro σ G' ⟨rfl,hP,_,_,rfl⟩
   walk_at "r"
   have:d5 i j st=none:=by
    unfold d5
    rw[List.findIdx?_eq_none_iff]
    intro x hx
    refine hP x ?_
    have:=zU (xs:=st.row.map enD)
    rw[qM_]at this
    show x∈st.row.take (j6 (st.row.map enD)).length
    rw[this,List.take_length]
    exact hx
   rw[this]at hq
   exact hq
theorem CP{n:Int}{s:Bool}(H:cg G A st)(W:WF st)(hz:mea st<=800000)(hb:st.row=[]->E 1003 G)
 (hq:∀p:Nat,p=(n % (st.row.length:Int)).toNat->p < st.row.length->∀le A' G',Chg A.foot G G'->A.To A' G.length->G.length<=le->cg G' A' (aS st p s).1->G'[le]? =some (.lst ((aS st p s).2.map qG))->Q (.ref le) G'):run (iG [.ref A.a,.int n,.bl s]) G Q E:=by
 have ho:=H.o
 walk_at "f"
 unfold oI
 walk_at "r"
 refine aW (a:=!(st.row.map enD).isEmpty) (G':=G) ?_ ?_
 · unfold truth
   dsimp only
   rw[H.r]
 cases q:st.row with
 |nil=>
  rw[q]at hb
  walk_at "r"
  exact hb rfl
 |cons e r=>
  refine w_ite (fun c=>by cases c) fun _=>?_
  walk_at "r"
  refine fR H.r ?_
  rw[qM_]
  have hpos:0 < (st.row.length:Int):=by rw[q,List.length_cons];omega
  walk_at "r"
  refine jI hpos ?_
  have h1:=Int.emod_nonneg n (show (st.row.length:Int)≠0 by omega)
  have h2:=Int.emod_lt_of_pos n hpos
  have hp:(n % (st.row.length:Int)).toNat < st.row.length:=by omega
  have e1:n % (st.row.length:Int)=(((n % (st.row.length:Int)).toNat:Nat):Int):=by omega
  walk_at "r"
  rw[e1]
  refine xC (p:=(n % (st.row.length:Int)).toNat) H W (qA_ hp) hz fun le A' G' c to l h3 h4=>?_
  walk_at "r"
  exact hq _ rfl hp le A' G' c to l h3 h4
structure Lp (sel:Hl->Option Nat) (G0:Hh) (A:Ad) (st:Hl) (le:Nat) (G:Hh) (A':Ad) (st':Hl) (acc:List (Nat×Pr)):Prop where
 H:cg G A' st'
 W:WF st'
 m:mea st'<=mea st
 l:G[le]? =some (.lst (acc.map qG))
 r1:(cV sel st').1=(cV sel st).1
 r2:acc++(cV sel st').2=(cV sel st).2
 c:Chg A.foot G0 G
 to:A.To A' G0.length
 nf:le∉A'.foot
 ge:G0.length<=le
theorem Lp.start{sel:Hl->Option Nat}{G1:Hh}(H:cg G A st)(W:WF st)(c1:Chg [] G G1)(h1:G1[G.length]? =some (.lst [])):Lp sel G A st G.length G1 A st []:=
 ⟨H.frame c1 (by simp),W,qO_ _,h1,rfl,rfl,c1.mono (by simp),Ad.To.refl _ _,fun z=>by have:=H.lt _ z;omega,qO_ _⟩
theorem Lp.step{sel:Hl->Option Nat}(hs:Sel sel){G0:Hh}{le ln p:Nat}{A' A2:Ad}{st':Hl}{acc:List (Nat×Pr)}{G1 G2:Hh}(L:Lp sel G0 A st le G A' st' acc)(hp:sel st'=some p)
 (c1:Chg A'.foot G G1) (to:A'.To A2 G.length) (H2:cg G1 A2 (aS st' p false).1) (c2:Chg [le] G1 G2) (h2:G2[le]? =some (.lst ((acc++(aS st' p false).2).map qG))):Lp sel G0 A st le G2 A2 (aS st' p false).1 (acc++(aS st' p false).2):=by
 have h1:=df L.W (hs st' p hp)
 have hr:=jY hs L.W hp
 have g:=L.c.1
 have gl:=aO L.l
 have nf2:le∉A2.foot:=fun z=>(to.foot le z).elim L.nf fun w=>by omega
 refine⟨H2.frame c2 (by intro n hn;simp at hn;rw[hn];exact nf2),ju L.W p false,by have:=L.m;omega,h2,?_,?_,?_,L.to.trans to g,nf2,L.ge⟩
 · rw[<-L.r1,hr]
 · rw[<-L.r2,hr,List.append_assoc]
 · refine(L.c.trans' c1 fun n hn=>L.to.foot n hn).trans' c2 fun n hn=>?_
   simp at hn
   rw[hn]
   exact .inr L.ge
theorem CH(H:cg G A st)(W:WF st)(hz:mea st<=800000)(hq:∀le A' G',Chg A.foot G G'->A.To A' G.length->G.length<=le->le∉A'.foot->cg G' A' (cV ba st).1->G'[le]? =some (.lst ((cV ba st).2.map qG))->Q (.ref le) G'):run (iH [.ref A.a]) G Q E:=by
 have hlen:=ot dR (mea st) st W (qO_ _)
 walk_at "f"
 unfold oh
 refine aI (bJ (gB fun G1 c1 l1 h1=>w_next ?_))
 walk_at "s"
 refine aI (vW (m:=mea st) (fun σ G' m=>∃A' st' acc,m=mea st'/\σ=[some (.ref A.a),some (.ref G.length)]/\Lp ba G A st G.length G' A' st' acc) ?_ (by omega) ⟨A,st,[],rfl,rfl,Lp.start H W c1 h1⟩)
 rintro σ G' m ⟨A',st',acc,rfl,rfl,L⟩
 have ho:G'[A.a]? =some (.ins 2 [(9,.ref A'.lk),(10,.ref A'.lh),(11,.ref A'.lr)]):=by rw[<-L.to.a];exact L.H.o
 have hlr:=L.H.r
 refine nS (w_fld (w_var rfl (bI ho (by decide) rfl ?_)))
 refine aW (a:=!(st'.row.map enD).isEmpty) (G':=G') ?_ ?_
 · unfold truth
   dsimp only
   rw[hlr]
 cases q:st'.row with
 |nil=>
  rw[List.map_nil]
  refine(if_neg (show ¬(!([]:List D).isEmpty)=true by decide)).mpr ?_
  refine w_next ?_
  have hs:ba st'=none:=by unfold ba;rw[if_pos q]
  have hr:=eS hs
  have r1:=L.r1
  have r2:=L.r2
  rw[hr]at r1 r2
  dsimp only at r1 r2
  rw[qY_]at r2
  walk_at "r"
  have HH:=L.H
  rw[r1]at HH
  have ll:=L.l
  rw[r2]at ll
  exact hq _ A' G' L.c L.to L.ge L.nf HH ll
 |cons e r=>
  refine(if_pos (show (!(List.map enD (e :: r)).isEmpty)=true from rfl)).mpr ?_
  have hs:ba st'=some 0:=by unfold ba;rw[if_neg (by rw[q];simp)]
  have h0:st'.row[0]? =some e:=by rw[q];rfl
  have hm:=L.m
  have acl:acc.length<=800000:=by
   have:=congrArg List.length L.r2
   rw[qN_]at this
   omega
  have hend:=lV st' 0 false
  refine eE (wz (w_var rfl (jy L.l (bT (w_var rfl (dI ho (ay (w_c (ay (w_c (aJ ?_)))))))))))
  rw[<-L.to.a]
  refine xC (p:=0) (s:=false) L.H L.W h0 (by omega) fun ln A2 G2 c2 to l2 H2 h2=>?_
  have hle2:=c2.get L.l L.nf
  refine jd hle2 h2 (by simp [aM];omega) fun G3 c3 l3 h3=>?_
  rw[<-qT_]at h3
  have L2:=L.step (ln:=ln) dR hs c2 to H2 c3 h3
  have:=df L.W (dR st' 0 hs)
  exact⟨mea (aS st' 0 false).1,by omega,A2,_,_,rfl,by rw[L.to.a],L2⟩
theorem pS{i j:Int}(H:cg G A st)(W:WF st)(hz:mea st<=800000)(hb:(i < 0\/(st.hs.length:Int)<=i)->E 1001 G)(hb2:¬(i < 0\/(st.hs.length:Int)<=i)->(j < 0\/(st.ks.length:Int)<=j)->E 1002 G)
 (hq:∀p k:Nat,i=(p:Int)->j=(k:Int)->p < st.hs.length->k < st.ks.length->∀le A' G',Chg A.foot G G'->A.To A' G.length->G.length<=le->le∉A'.foot->cg G' A' (cV (d5 p k) st).1->G'[le]? =some (.lst ((cV (d5 p k) st).2.map qG))->Q (.ref le) G'):run (dW [.ref A.a,.int i,.int j]) G Q E:=by
 have ho0:=H.o
 walk_at "f"
 unfold ig
 refine aI (eE (bT (w_var rfl (dI ho0 (ay (w_var rfl (aJ ?_)))))))
 refine j5 H hb fun p a hi ha=>?_
 have hpl:p < st.hs.length:=by rw[<-H.hl];exact(qB_.mp ha).1
 refine w_next ?_
 refine aI (eE (bT (w_var rfl (dI ho0 (ay (w_var rfl (aJ ?_)))))))
 refine lI H (hb2 (by omega)) fun k a2 hj ha2=>?_
 have hkl:k < st.ks.length:=by rw[<-H.kl];exact(qB_.mp ha2).1
 subst hi hj
 have hq:=hq p k rfl rfl hpl hkl
 have hlen:=ot (fq p k) (mea st) st W (qO_ _)
 refine w_next ?_
 refine aI (bJ (gB fun G1 c1 l1 h1=>w_next ?_))
 walk_at "s"
 have H1:=H.frame c1 (by simp)
 refine aI (bJ (bT (w_var rfl (dI H1.o (ay (w_var rfl (ay (w_var rfl (aJ ?_)))))))))
 refine kH H1 ?_
 refine w_next ?_
 walk_at "s"
 refine aI (vW (m:=mea st) (fun σ G' m=>∃A' st' acc,m=mea st'/\σ=[some (.ref A.a),some (.int (p:Int)),some (.int (k:Int)),some (.ref G.length),some (oN (d5 p k st'))]/\Lp (d5 p k) G A st G.length G' A' st' acc) ?_ (by omega) ⟨A,st,[],rfl,rfl,Lp.start H W c1 h1⟩)
 rintro σ G' m ⟨A',st',acc,rfl,rfl,L⟩
 have ho:G'[A.a]? =some (.ins 2 [(9,.ref A'.lk),(10,.ref A'.lh),(11,.ref A'.lr)]):=by rw[<-L.to.a];exact L.H.o
 refine jJ (t6 (w_var rfl (qR (iy ?_))))
 cases hs:d5 p k st' with
 |none=>
  refine(if_neg (show ¬(!decide (oN none=D.non))=true by decide)).mpr ?_
  refine w_next ?_
  have hr:=eS hs
  have r1:=L.r1
  have r2:=L.r2
  rw[hr]at r1 r2
  dsimp only at r1 r2
  rw[qY_]at r2
  walk_at "r"
  have HH:=L.H
  rw[r1]at HH
  have ll:=L.l
  rw[r2]at ll
  exact hq _ A' G' L.c L.to L.ge L.nf HH ll
 |some q=>
  refine(if_pos (show (!decide (oN (some q)=D.non))=true from rfl)).mpr ?_
  have hql:=fq p k st' q hs
  have h0:st'.row[q]? =some st'.row[q]:=qA_ hql
  have hm:=L.m
  have acl:acc.length<=800000:=by
   have:=congrArg List.length L.r2
   rw[qN_]at this
   omega
  have hend:=lV st' q false
  refine aI (eE (wz (w_var rfl (jy L.l (bT (w_var rfl (dI ho (ay (w_var rfl (ay (w_c (aJ ?_))))))))))))
  rw[<-L.to.a]
  refine xC (p:=q) (s:=false) L.H L.W h0 (by omega) fun ln A2 G2 c2 to l2 H2 h2=>?_
  have hle2:=c2.get L.l L.nf
  refine jd hle2 h2 (by simp [aM];omega) fun G3 c3 l3 h3=>?_
  rw[<-qT_]at h3
  have L2:=L.step (ln:=ln) (fq p k) hs c2 to H2 c3 h3
  have lm:=df L.W (fq p k st' q hs)
  refine w_next ?_
  have ho2:G3[A'.a]? =some (.ins 2 [(9,.ref A2.lk),(10,.ref A2.lh),(11,.ref A2.lr)]):=by rw[L.to.a,<-L2.to.a];exact L2.H.o
  refine bJ (bT (w_var rfl (dI ho2 (ay (w_var rfl (ay (w_var rfl (aJ ?_))))))))
  rw[L.to.a,<-L2.to.a]
  refine kH L2.H ?_
  exact⟨mea (aS st' q false).1,by omega,A2,_,_,rfl,by walk_at "s",L2⟩
end
def word(b:Bool):Str:=if b then "read" else "write"
def stD:Option (Int×Int)->D
 |none=>.non
 |some s=>.tup [.int s.1,.int s.2]
structure Wk where
 hand:Nat
 rd:Bool
 val:Option Int
 beg:Nat
 en:Option Nat
 mT:Option (Int×Int)
def nD:Option Nat->D
 |none=>.non
 |some n=>.int (n:Int)
def wkF(w:Wk):List (Nat×D):=[(12,.int (w.hand:Int)),(13,.str (word w.rd)),(3,oD w.val),(14,.int (w.beg:Int)),(15,nD w.en),(16,stD w.mT)]
def oX(G:Hh)(a:Nat)(w:Wk):Prop:=G[a]? =some (.ins 3 (wkF w))
def cp(w:Wk):D:= .tup [.int (w.hand:Int),.str (word w.rd),oD w.val,.int (w.beg:Int),nD w.en]
structure Sy where
 au:Hl
 av:List Wk
 last:List (Nat×Nat)
 aR:Nat
structure Sd where
 s:Nat
 lw:Nat
 ld:Nat
 wa:List Nat
 A:Ad
def ir(l:List (Nat×Nat)):List (Key×D):=l.map fun e=>(.inl (e.1:Int),.int (e.2:Int))
def Sd.own(S:Sd):List Nat:=[S.s,S.lw,S.ld]++S.wa
structure d0 (G:Hh) (S:Sd) (y:Sy):Prop where
 o:G[S.s]? =some (.ins 4 [(17,.ref S.A.a),(18,.ref S.lw),(19,.ref S.ld),(20,.int (y.aR:Int))])
 w:G[S.lw]? =some (.lst (refs S.wa))
 d:G[S.ld]? =some (.dK (ir y.last))
 wl:S.wa.length=y.av.length
 wk:∀(i:Nat) a w,S.wa[i]? =some a->y.av[i]? =some w->oX G a w
 H:cg G S.A y.au
 nd:S.own.Nodup
 dj:∀x∈S.own,x∉S.A.foot
structure SWF (y:Sy):Prop where
 W:WF y.au
 la:∀e∈y.last,e.1 < y.au.hs.length/\e.2 < y.av.length
 nd:(y.last.map (·.1)).Nodup
 atw:∀(i:Nat) h,y.au.hs[i]? =some h->h.atw=true->i∈y.last.map (·.1)
section
variable{G G':Hh}{Q:D->Hh->Prop}{E:Nat->Hh->Prop}{S:Sd}{y:Sy}
theorem d0.lt(Y:d0 G S y):∀n∈S.own,n < G.length:=by
 intro n hn
 unfold Sd.own at hn
 rcases qG_.mp hn with z |z
 · simp only[qS_,List.not_mem_nil,or_false]at z
   rcases z with rfl |rfl |rfl
   · exact aO Y.o
   · exact aO Y.w
   · exact aO Y.d
 · obtain⟨i,hi,e⟩:=List.getElem_of_mem z
   have h1:S.wa[i]? =some n:=by rw[qA_ hi,e]
   have h2:i < y.av.length:=by rw[<-Y.wl];exact hi
   exact aO (Y.wk i n _ h1 (qA_ h2))
theorem wB{i a:Nat}(h:S.wa[i]? =some a):a∈S.own:=by unfold Sd.own;simp [qD_ h]
theorem j9(nd:S.own.Nodup):S.s≠S.lw/\S.s≠S.ld/\S.lw≠S.ld/\S.wa.Nodup/\∀x∈S.wa,x≠S.s/\x≠S.lw/\x≠S.ld:=by
 unfold Sd.own at nd
 rw[List.nodup_append]at nd
 obtain⟨n1,n2,n3⟩:=nd
 simp only[List.nodup_cons,qS_,List.not_mem_nil,or_false,not_or]at n1
 obtain⟨⟨a1,a2⟩,a3,_⟩:=n1
 exact⟨a1,a2,a3,n2,fun x hx=>⟨fun z=>n3 S.s (by simp) x hx z.symm,fun z=>n3 S.lw (by simp) x hx z.symm,fun z=>n3 S.ld (by simp) x hx z.symm⟩⟩
theorem d0.au{A':Ad}{st:Hl}(Y:d0 G S y)(c:Chg S.A.foot G G')(to:S.A.To A' G.length)(H:cg G' A' st):d0 G' {S with A:=A'} {y with au:=st}:=by
 have ns:∀x∈S.own,x∉S.A.foot:=Y.dj
 refine⟨?_,c.get Y.w (ns _ (by simp [Sd.own])),c.get Y.d (ns _ (by simp [Sd.own])),Y.wl,fun i a w h1 h2=>c.get (Y.wk i a w h1 h2) (ns _ (wB h1)),H,Y.nd,fun x hx z=>?_⟩
 · show G'[S.s]? =some (.ins 4 [(17,.ref A'.a),(18,.ref S.lw),(19,.ref S.ld),(20,.int (y.aR:Int))])
   rw[to.a]
   exact c.get Y.o (ns _ (by simp [Sd.own]))
 · rcases to.foot x z with w |w
   · exact Y.dj x hx w
   · have:=Y.lt x hx;omega
theorem d0.HA{i a:Nat}{w:Wk}(Y:d0 G S y)(hi:S.wa[i]? =some a)(c:Chg [a] G G')(hw:oX G' a w):d0 G' S {y with av:=y.av.set i w}:=by
 obtain⟨_,_,_,nw,q⟩:=j9 Y.nd
 have ha:=qD_ hi
 obtain⟨e1,e2,e3⟩:=q a ha
 have ns:∀n,n≠a->n∉ [a]:=fun n h z=>h (by simpa using z)
 refine⟨c.get Y.o (ns _ (Ne.symm e1)),c.get Y.w (ns _ (Ne.symm e2)),c.get Y.d (ns _ (Ne.symm e3)),by simp [Y.wl],fun j b v h1 h2=>?_,Y.H.frame c (by intro n hn;simp at hn;rw[hn];exact Y.dj a (wB hi)),Y.nd,Y.dj⟩
 by_cases z:j=i
 · subst z
   rw[hi]at h1
   cases h1
   have:j < y.av.length:=by rw[<-Y.wl];exact(qB_.mp hi).1
   have h2:(y.av.set j w)[j]? =some v:=h2
   rw[qU_ this]at h2
   cases h2
   exact hw
 · have h2:(y.av.set i w)[j]? =some v:=h2
   rw[qV_ (Ne.symm z)]at h2
   refine c.get (Y.wk j b v h1 h2) (ns _ fun w=>z ?_)
   subst w
   exact get_inj nw h1 hi
theorem d0.frame{T:List Nat}(Y:d0 G S y)(c:Chg T G G')(hs:∀n∈T,n∉S.own/\n∉S.A.foot):d0 G' S y:=by
 have ns:∀x∈S.own,x∉T:=fun x hx z=>(hs x z).1 hx
 exact⟨c.get Y.o (ns _ (by simp [Sd.own])),c.get Y.w (ns _ (by simp [Sd.own])),c.get Y.d (ns _ (by simp [Sd.own])),Y.wl,fun i a w h1 h2=>c.get (Y.wk i a w h1 h2) (ns _ (wB h1)),Y.H.frame c fun n hn=>(hs n hn).2,Y.nd,Y.dj⟩
theorem tH{l:List (Nat×Nat)}{i p:Nat}(nd:(l.map (·.1)).Nodup)(h:(i,p)∈l):look (ir l) (.inl (i:Int))=some (.int (p:Int)):=by
 induction l with
 |nil=>cases h
 |cons e r ih=>
  obtain⟨k,q⟩:=e
  rw[List.map_cons,List.nodup_cons]at nd
  unfold ir look
  rw[List.map_cons,List.find?_cons]
  by_cases z:k=i
  · subst z
    rcases qS_.mp h with w |w
    · cases w
      rw[qZ_ rfl]
      rfl
    · exact absurd (qH_.mpr ⟨_,w,rfl⟩) nd.1
  · have zz:¬((Sum.inl (k:Int):Key)= .inl (i:Int)):=fun w=>z (by have:=Sum.inl.inj w;omega)
    rw[qa_ zz]
    rcases qS_.mp h with w |w
    · cases w;exact absurd rfl z
    · exact ih nd.2 w
def putL(l:List (Nat×Nat))(k p:Nat):List (Nat×Nat):=if (l.any fun e=>decide (e.1=k))then l.map fun e=>if e.1=k then (e.1,p)else e else l++[(k,p)]
theorem Fc(l:List (Nat×Nat))(k p:Nat):put (ir l) (.inl (k:Int)) (.int (p:Int))=ir (putL l k p):=by
 have key:∀e:Nat×Nat,decide ((Sum.inl (e.1:Int):Key)= .inl (k:Int))=decide (e.1=k):=fun e=>decide_eq_decide.mpr ⟨fun z=>by have:=Sum.inl.inj z;omega,fun z=>by rw[z]⟩
 unfold put putL
 have e1:((ir l).any fun kv=>decide (kv.1=(.inl (k:Int):Key)))=l.any fun e=>decide (e.1=k):=by
  unfold ir
  rw[List.any_map]
  congr 1
  funext e
  exact key e
 rw[e1]
 by_cases c:(l.any fun e=>decide (e.1=k))=true
 · rw[if_pos c,if_pos c]
   unfold ir
   rw[qb_,qb_]
   apply List.map_congr_left
   intro e _
   by_cases z:e.1=k
   · have z':(Sum.inl (e.1:Int):Key)= .inl (k:Int):=by rw[z]
     show (if (Sum.inl (e.1:Int):Key)= .inl (k:Int)then ((Sum.inl (e.1:Int):Key),D.int (p:Int))else (Sum.inl (e.1:Int),D.int (e.2:Int)))=(Sum.inl ((if e.1=k then (e.1,p)else e).1:Int),D.int ((if e.1=k then (e.1,p)else e).2:Int))
     rw[if_pos z',if_pos z]
   · have z':¬(Sum.inl (e.1:Int):Key)= .inl (k:Int):=fun w=>z (by have:=Sum.inl.inj w;omega)
     show (if (Sum.inl (e.1:Int):Key)= .inl (k:Int)then ((Sum.inl (e.1:Int):Key),D.int (p:Int))else (Sum.inl (e.1:Int),D.int (e.2:Int)))=(Sum.inl ((if e.1=k then (e.1,p)else e).1:Int),D.int ((if e.1=k then (e.1,p)else e).2:Int))
     rw[if_neg z',if_neg z]
 · rw[if_neg c,if_neg c]
   unfold ir
   rw[qT_]
   rfl
theorem vq{i b:Nat}{rd:Bool}{v:Option Int}{a:Nat}(ha:G[a]? =some (.ins 3 []))(hq:∀G',Chg [a] G G'->oX G' a ⟨i,rd,v,b,none,none⟩->Q .non G'):run (jm [.ref a,.int (i:Int),.str (word rd),oD v,.int (b:Int)]) G Q E:=by
 walk_at "f"
 unfold pK
 walk_at "r"
 refine aV ha ⟨by decide,qP_ rfl⟩ fun G1 c1 l1 h1=>?_
 walk_at "r"
 refine aV h1 ⟨by decide,qP_ rfl⟩ fun G2 c2 l2 h2=>?_
 walk_at "r"
 refine aV h2 ⟨by decide,qP_ rfl⟩ fun G3 c3 l3 h3=>?_
 walk_at "r"
 refine aV h3 ⟨by decide,qP_ rfl⟩ fun G4 c4 l4 h4=>?_
 walk_at "r"
 refine aV h4 ⟨by decide,qP_ rfl⟩ fun G5 c5 l5 h5=>?_
 walk_at "r"
 refine aV h5 ⟨by decide,qP_ rfl⟩ fun G6 c6 l6 h6=>?_
 walk_at "r"
 exact hq G6 (((((c1.trans c2).trans c3).trans c4).trans c5).trans c6) h6
def eB(y:Sy)(i:Nat)(rd:Bool)(v:Option Int):Sy:={y with av:=y.av++[⟨i,rd,v,y.aR,none,none⟩],last:=putL y.last i y.av.length}
theorem vk{l:List (Nat×Nat)}{k p:Nat}{e:Nat×Nat}(h:e∈putL l k p):e=(k,p)\/e∈l:=by
 unfold putL at h
 split at h
 · obtain⟨x,hx,ex⟩:=qH_.mp h
   split at ex
   · rename_i z;subst ex;rw[z];exact .inl rfl
   · subst ex;exact .inr hx
 · rcases qG_.mp h with z |z
   · exact .inr z
   · simp at z;rw[z];exact .inl rfl
theorem pL{i:Nat}{rd:Bool}{v:Option Int}(Y:d0 G S y)(hz:y.av.length<=1000)(hz2:y.last.length<=1000)(hq:∀a G',Chg (S.own++S.A.foot) G G'->G.length<=a->d0 G' {S with wa:=S.wa++[a]} (eB y i rd v)->Q (.int (y.av.length:Int)) G'):run (dX [.ref S.s,.int (i:Int),.str (word rd),oD v]) G Q E:=by
 obtain⟨n1,n2,n3,n4,n5⟩:=j9 Y.nd
 have ho:=Y.o
 walk_at "f"
 unfold jz
 walk_at "r"
 refine fR Y.w ?_
 rw[show (refs S.wa).length=S.wa.length from qM_ _,Y.wl]
 walk_at "r"
 refine jy Y.w ?_
 refine oE (ay (w_var rfl (ay (w_var rfl (ay (w_var rfl (ay (w_fld (w_var rfl (bI ho (by decide) rfl (aJ ?_)))))))))))
 intro G1 c1 l1 h1
 refine vq h1 fun G2 c2 h2=>⟨rfl,?_⟩
 have nw:∀x∈S.own,x∉ [G.length]:=fun x hx z=>by have:=Y.lt x hx;simp at z;omega
 have w2:=c2.get (c1.get Y.w (by simp)) (nw _ (by simp [Sd.own]))
 refine gf w2 (by rw[show (refs S.wa).length=S.wa.length from qM_ _,Y.wl];unfold aM;omega) fun G3 c3 l3 h3=>?_
 have c12:Chg [] G G2:=(c1.trans' c2 (by intro n hn;simp at hn;rw[hn];exact .inr (qO_ _)))
 have Y2:=Y.frame c12 (by simp)
 have nlw:∀x,x≠S.lw->x∉ [S.lw]:=fun x h z=>h (by simpa using z)
 have o3:=c3.get Y2.o (nlw _ n1)
 have d3:=c3.get Y2.d (nlw _ (Ne.symm n3))
 walk_at "r"
 refine yL d3 rfl (by unfold ir;rw[qM_];unfold aM;omega) fun G4 c4 l4 h4=>?_
 rw[Fc]at h4
 walk_at "r"
 have g12:=c12.1
 have nld:∀x,x≠S.ld->x∉ [S.ld]:=fun x h z=>h (by simpa using z)
 have lwlt:=aO Y.w
 have ldlt:=aO Y.d
 refine hq G.length G4 ?_ (qO_ _) ⟨c4.get o3 (nld _ n2),?_,h4,by simp [eB,Y.wl],fun j b w e1 e2=>?_,?_,?_,fun x hx z=>?_⟩
 · refine((c12.mono (by simp)).trans (c3.mono ?_)).trans (c4.mono ?_)
   · intro n hn;simp at hn;rw[hn];simp [Sd.own]
   · intro n hn;simp at hn;rw[hn];simp [Sd.own]
 · have:=c4.get h3 (nld _ n3)
   show G4[S.lw]? =some (.lst (refs (S.wa++[G.length])))
   rw[this]
   unfold refs
   rw[qT_]
   rfl
 · have e1:(S.wa++[G.length])[j]? =some b:=e1
   have e2:(y.av++[⟨i,rd,v,y.aR,none,none⟩])[j]? =some w:=e2
   by_cases hj:j < S.wa.length
   · rw[qK_ hj]at e1
     rw[qK_ (by rw[<-Y.wl];exact hj)]at e2
     have q:=n5 b (qD_ e1)
     exact c4.get (c3.get (Y2.wk j b w e1 e2) (nlw _ q.2.1)) (nld _ q.2.2)
   · have hj2:j=S.wa.length:=by
      have:=(qB_.mp e1).1
      simp at this
      omega
     subst hj2
     simp at e1
     rw[Y.wl]at e2
     simp at e2
     subst e1 e2
     exact c4.get (c3.get h2 (nlw _ (by omega))) (nld _ (by omega))
 · exact((Y2.H.frame c3 (by intro n hn;simp at hn;rw[hn];exact Y.dj _ (by simp [Sd.own]))).frame c4 (by intro n hn;simp at hn;rw[hn];exact Y.dj _ (by simp [Sd.own])))
 · have nd:=Y.nd
   unfold Sd.own at nd ⊢
   dsimp only
   rw[<-List.append_assoc,List.nodup_append]
   refine⟨nd,by simp,fun x hx z hz w=>?_⟩
   simp at hz
   have:=Y.lt x hx
   omega
 · unfold Sd.own at hx
   dsimp only at hx
   rw[<-List.append_assoc]at hx
   rcases qG_.mp hx with w |w
   · exact Y.dj x w z
   · simp at w
     have:=Y.H.lt x z
     omega
end
def lastOf(l:List (Nat×Nat))(i:Nat):Nat:=((l.find? fun e=>decide (e.1=i)).map (·.2)).getD 0
theorem gY{l:List (Nat×Nat)}{i:Nat}(h:i∈l.map (·.1)):(i,lastOf l i)∈l:=by
 unfold lastOf
 cases q:l.find? fun e=>decide (e.1=i)with
 |none=>
  obtain⟨e,he,ee⟩:=qH_.mp h
  exact absurd (qZ_ ee) (List.find?_eq_none.mp q e he)
 |some e=>
  have h1:=List.find?_some q
  have h2:=List.mem_of_find?_eq_some q
  have h3:e.1=i:=of_decide_eq_true h1
  show (i,e.2)∈l
  rw[<-h3]
  exact h2
def jR(y:Sy)(q:Nat)(f:Wk->Wk):Sy:=match y.av[q]? with
 |none=>y
 |some w=>{y with av:=y.av.set q (f w)}
def zp(y:Sy)(p:Pr)(w:Wk):Wk:={w with val:=some p.2,en:=some y.aR}
def jk(y:Sy)(e:Nat×Pr):Sy:=jR y (lastOf y.last e.1) (zp y e.2)
def dB(y:Sy)(es:List (Nat×Pr)):Sy:=es.foldl jk y
theorem kq(y:Sy)(q:Nat)(f:Wk->Wk):(jR y q f).last=y.last/\(jR y q f).au=y.au/\(jR y q f).aR=y.aR/\(jR y q f).av.length=y.av.length:=by
 unfold jR
 split <;> simp
theorem jv:∀(es:List (Nat×Pr)) (y:Sy),(dB y es).last=y.last/\(dB y es).au=y.au/\(dB y es).aR=y.aR/\(dB y es).av.length=y.av.length
 | [],y=>⟨rfl,rfl,rfl,rfl⟩
 |e :: r,y=>by
  have h1:=jv r (jk y e)
  have h2:=kq y (lastOf y.last e.1) (zp y e.2)
  unfold dB at*
  rw[List.foldl_cons]
  exact⟨h1.1.trans h2.1,h1.2.1.trans h2.2.1,h1.2.2.1.trans h2.2.2.1,h1.2.2.2.trans h2.2.2.2⟩
def seD(y:Sy)(e:Nat×Pr):D:= .tup [.int (lastOf y.last e.1:Int),.int e.2.2]
section
variable{G G':Hh}{Q:D->Hh->Prop}{E:Nat->Hh->Prop}{S:Sd}{y:Sy}
theorem d0.Hq(Y:d0 G S y){i:Nat}{w:Wk}(h:y.av[i]? =some w):∃a,S.wa[i]? =some a/\oX G a w:=by
 have:i < S.wa.length:=by rw[Y.wl];exact(qB_.mp h).1
 exact⟨_,qA_ this,Y.wk i _ w (qA_ this) h⟩
theorem xP{e:Nat×Pr}(Y:d0 G S y)(W:SWF y)(he:e.1∈y.last.map (·.1))(hq:∀G',Chg S.own G G'->d0 G' S (jk y e)->Q (seD y e) G'):run (fA [.ref S.s,.int (e.1:Int),pD e.2]) G Q E:=by
 have hm:=gY he
 have hlt:=(W.la _ hm).2
 have hw:y.av[lastOf y.last e.1]? =some y.av[lastOf y.last e.1]:=qA_ hlt
 generalize y.av[lastOf y.last e.1]=w at hw
 obtain⟨a,ha,hwa⟩:=Y.Hq hw
 have ho:=Y.o
 have hne:S.s∉ [a]:=fun z=>by simp at z;exact(j9 Y.nd).2.2.2.2 a (qD_ ha) |>.1 z.symm
 unfold oX wkF at hwa
 walk_at "f"
 unfold j8
 refine aI (bJ (bc (w_fld (w_var rfl (bI ho (by decide) rfl (w_var rfl (DY Y.d rfl (tH W.nd hm) (w_next ?_))))))))
 walk_at "s"
 refine aI (bJ (bc (w_fld (w_var rfl (bI ho (by decide) rfl (w_var rfl (fz Y.w (km ha) (w_next ?_))))))))
 walk_at "s"
 unfold pD
 refine aI (gX (bc (w_var rfl (w_c (cy rfl (w_var rfl ?_))))))
 refine aV hwa ⟨by decide,qP_ rfl⟩ fun G1 c1 l1 h1=>?_
 have ho1:=c1.get ho hne
 refine w_next ?_
 refine aI (gX (w_fld (w_var rfl (bI ho1 (by decide) rfl (w_var rfl ?_)))))
 refine aV h1 ⟨by decide,qP_ rfl⟩ fun G2 c2 l2 h2=>?_
 refine w_next ?_
 refine cS (ym (ay (w_var rfl (ay (w_fld (w_var rfl (bI h2 (by decide) rfl (aJ ⟨qP_ (by with_unfolding_all rfl),?_⟩))))))))
 walk_at "r"
 have c:=c1.trans c2
 have Y2:=Y.HA (w:=zp y e.2 w) ha c h2
 have e1:jk y e={y with av:=y.av.set (lastOf y.last e.1) (zp y e.2 w)}:=by
  unfold jk jR
  rw[hw]
 refine hq G2 (c.mono (by intro n hn;simp at hn;rw[hn];exact wB ha)) ?_
 rw[e1]
 exact Y2
theorem v5{le:Nat}{es:List (Nat×Pr)}(Y:d0 G S y)(W:SWF y)(hl:G[le]? =some (.lst (es.map qG)))(hn:le∉S.own)(hz:es.length<=1000000)(he:∀e∈es,e.1∈y.last.map (·.1))
 (hq:∀l2 G',Chg S.own G G'->G.length<=l2->d0 G' S (dB y es)->G'[l2]? =some (.lst (es.map (seD y)))->Q (.ref l2) G'):run (cu [.ref S.s,.ref le]) G Q E:=by
 walk_at "f"
 unfold jn
 refine cS (uo (pA (w_var rfl (gO hl ?_))))
 refine ma (xs:=es.map qG) (fun i acc G'=>Chg S.own G G'/\d0 G' S (dB y (es.take i))/\acc=(es.take i).map (seD y)) ?_ ?_ ?_ _ 0 [] G List.drop_zero (qf_ _) ⟨Chg.refl _ _,Y,rfl⟩
 · rintro i acc G' ⟨c,_⟩
   exact qZ_ (c.get hl hn)
 · rintro i x acc G' hx ⟨c,Y',rfl⟩
   obtain⟨e,he1,rfl⟩:=uI hx
   refine jD ?_
   rw[if_pos rfl]
   obtain⟨q1,q2,q3,q4⟩:=jv (es.take i) y
   have W':SWF (dB y (es.take i)):=⟨by rw[q2];exact W.W,by rw[q1,q2,q4];exact W.la,by rw[q1];exact W.nd,by rw[q1,q2];exact W.atw⟩
   have ho:=Y'.o
   unfold qG
   refine bT (w_var rfl (dI ho (ay (bc (w_var rfl (w_c (cy rfl (ay (bc (w_var rfl (w_c (cy rfl (aJ ?_)))))))))))))
   refine xP (e:=e) Y' W' (by rw[q1];exact he e (qD_ he1)) fun G2 c2 Y2=>?_
   refine⟨by have:=List.length_take_le i es;simp [aM];omega,c.trans c2,?_,?_⟩
   · rw[take_succ he1]
     unfold dB at*
     rw[List.foldl_append]
     exact Y2
   · rw[take_succ he1,qT_]
     unfold seD
     rw[q1]
     rfl
 · rintro acc G' ⟨c,Y',rfl⟩
   rw[qM_,List.take_length]at*
   walk_at "r"
   have c3:Chg [] G' (G'++[O.lst (es.map (seD y))]):=Chg.add _ _
   exact hq G'.length _ (c.trans (c3.mono (by simp))) c.1 (Y'.frame c3 (by simp)) (bK _ _)
end
section
variable{G G':Hh}{Q:D->Hh->Prop}{E:Nat->Hh->Prop}{S:Sd}{y:Sy}{σ:St}{QS:Fl×St->Hh->Prop}
theorem Ct{e:E3}{g:D->St->M St}{body:S3}(h:run (e σ) G (fun x G1=>∃n kvs,x= .ref n/\G1[n]? =some (.dK kvs)/\run (forL (fun _=>true) (fun x σ=>bnd (g x σ) body) (gr kvs) σ) (G1.set n (.dF kvs)) (fun p G2=>G2[n]? =some (.dF kvs)/\QS p (G2.set n (.dK kvs))) (fun _ _=>False)) E):run (xR e g body σ) G QS E:=by
 refine aK (aC h (fun x G1 q=>?_) fun _ _ z=>z)
 obtain⟨n,kvs,rfl,hn,hr⟩:=q
 unfold M3.run wR
 dsimp only
 rw[hn]
 dsimp only
 unfold wy
 unfold M3.run at hr
 cases q:forL (fun _=>true) (fun x σ=>bnd (g x σ) body) (gr kvs) σ (G1.set n (.dF kvs))with
 |none=>rw[q]at hr;exact hr
 |some r=>
  obtain⟨o,G2⟩:=r
  rw[q]at hr
  cases o with
  |exc c=>exact absurd hr (by intro z;exact z)
  |ok p=>
   dsimp only at hr ⊢
   rw[if_pos hr.1]
   exact hr.2
def uj(p:Pr)(w:Wk):Wk:={w with mT:=some p.1}
def bV(y:Sy)(e:Nat×Nat):Sy:=match (y.au.hs[e.1]?).bind (·.pair)with
 |none=>y
 |some p=>jR y e.2 (uj p)
def dS(y:Sy):Sy:=y.last.foldl bV y
theorem pz(y:Sy)(e:Nat×Nat):(bV y e).last=y.last/\(bV y e).au=y.au/\(bV y e).aR=y.aR/\(bV y e).av.length=y.av.length:=by
 unfold bV
 split
 · exact⟨rfl,rfl,rfl,rfl⟩
 · exact kq _ _ _
theorem fk:∀(l:List (Nat×Nat)) (y:Sy),(l.foldl bV y).last=y.last/\(l.foldl bV y).au=y.au/\(l.foldl bV y).aR=y.aR/\(l.foldl bV y).av.length=y.av.length
 | [],y=>⟨rfl,rfl,rfl,rfl⟩
 |e :: l,y=>by
  obtain⟨a,b,c,d⟩:=fk l (bV y e)
  obtain⟨a',b',c',d'⟩:=pz y e
  exact⟨a.trans a',b.trans b',c.trans c',d.trans d'⟩
theorem jO{n m:Nat}{o p:O}(h:(G.set n o)[m]? =some p)(hm:m≠n):G[m]? =some p:=by
 rw[qV_ (Ne.symm hm)]at h;exact h
theorem vx{T:List Nat}{n:Nat}{o:O}(c:Chg T G G'):Chg T (G.set n o) (G'.set n o):=by
 refine⟨by simpa using c.1,fun m hm ht=>?_⟩
 have hm':m < G.length:=by simpa using hm
 by_cases z:m=n
 · subst z
   rw[qU_ hm',qU_ (qd_ hm' c.1)]
 · rw[qV_ (Ne.symm z),qV_ (Ne.symm z)]
   exact c.2 m hm' ht
theorem vL{n:Nat}{o p:O}(h:G[n]? =some o):(G.set n p).set n o=G:=by
 rw[List.set_set]
 apply List.ext_getElem?
 intro m
 by_cases z:m=n
 · subst z
   rw[qU_ (aO h),h]
 · rw[qV_ (Ne.symm z)]
theorem rW(Y:d0 G S y)(W:SWF y)(hq:∀G',Chg S.own G G'->d0 G' S (dS y)->Q .non G'):run (ed [.ref S.s]) G Q E:=by
 obtain⟨n1,n2,n3,n4,n5⟩:=j9 Y.nd
 have ho:=Y.o
 walk_at "f"
 unfold iB
 refine Ct (w_fld (w_var rfl (bI ho (by decide) rfl ⟨S.ld,ir y.last,rfl,Y.d,?_⟩)))
 have hit:gr (ir y.last)=y.last.map fun e=>D.tup [.int (e.1:Int),.int (e.2:Int)]:=by
  unfold gr ir
  rw[qb_]
  rfl
 rw[hit]
 refine kN (fun i σ G'=>(∃a b c d,σ=[some (.ref S.s),a,b,c,d])/\G'[S.ld]? =some (.dF (ir y.last))/\Chg S.own G (G'.set S.ld (.dK (ir y.last)))/\d0 (G'.set S.ld (.dK (ir y.last))) S ((y.last.take i).foldl bV y)) (fun _ _ _ _=>rfl) ?_ ?_ ⟨⟨_,_,_,_,rfl⟩,jS Y.d,by rw[vL Y.d];exact Chg.refl _ _,by rw[vL Y.d];exact Y⟩
 · rintro i e σ G' he ⟨⟨v1,v2,v3,v4,rfl⟩,hf,c,Y'⟩
   obtain⟨q1,q2,q3,q4⟩:=fk (y.last.take i) y
   have hem:=qD_ he
   obtain⟨l1,l2⟩:=W.la e hem
   rw[show (y.last.take (i+1)).foldl bV y=bV ((y.last.take i).foldl bV y) e by rw[take_succ he,List.foldl_append];rfl]
   generalize (y.last.take i).foldl bV y=y' at*
   have hh:y'.au.hs[e.1]? =some y.au.hs[e.1]:=by rw[q2];exact qA_ l1
   generalize y.au.hs[e.1]=h at hh
   obtain⟨a,d,ha,hd,hat⟩:=Y'.H.hand hh
   have hso:∀x,x∈S.A.foot->x≠S.ld:=fun x hx z=>Y.dj S.ld (by simp [Sd.own]) (z ▸ hx)
   have o1:=jO Y'.o n2
   have w1:=jO Y'.w n3
   have ho1:=jO Y'.H.o (hso _ (by simp [Ad.foot]))
   have hh1:=jO Y'.H.h (hso _ (by simp [Ad.foot]))
   have ha1:=jO hat.1 (hso _ (vT ha))
   refine aK (D0 rfl ?_)
   walk_at "s"
   refine aI (bJ (w_fld (bc (w_fld (w_fld (w_var rfl (bI o1 (by decide) rfl (bI ho1 (by decide) rfl (w_var rfl (fz hh1 (km ha) (bI ha1 (by decide) rfl (w_next ?_))))))))))))
   walk_at "s"
   refine fQ (jJ (t6 (w_var rfl ?_)))
   walk_at "r"
   rw[qd]
   cases hp:h.pair with
   |none=>
    have e1:bV y' e=y':=by unfold bV;rw[hh];dsimp only[Option.bind];rw[hp]
    rw[e1]
    dsimp only[Option.isNone]
    walk_at "r"
    exact⟨⟨_,_,_,_,rfl⟩,hf,c,Y'⟩
   |some p=>
    have e1:bV y' e=jR y' e.2 (uj p):=by unfold bV;rw[hh];dsimp only[Option.bind];rw[hp]
    rw[e1]
    dsimp only[Option.isNone]
    have hw:y'.av[e.2]? =some (y'.av[e.2]'(by rw[q4];exact l2)):=qA_ _
    generalize y'.av[e.2]'(by rw[q4];exact l2)=w at hw
    obtain⟨b,hb,hwb⟩:=Y'.Hq hw
    have hbn:=n5 b (qD_ hb)
    have hwb1:=jO hwb hbn.2.2
    unfold wkF at hwb1
    walk_at "r"
    refine fz w1 (km hb) ?_
    walk_at "r"
    unfold opD pD
    walk_at "r"
    refine aV hwb1 ⟨by decide,qP_ rfl⟩ fun G2 c2 g2 h2=>?_
    refine⟨⟨_,_,_,_,rfl⟩,c2.get hf (by intro z;simp at z;exact hbn.2.2 z.symm),?_,?_⟩
    · exact c.trans ((vx c2).mono (by intro n hn;simp at hn;rw[hn];exact wB hb))
    · unfold jR
      rw[hw]
      refine Y'.HA (w:=uj p w) hb (vx c2) ?_
      show (G2.set S.ld _)[b]? =some (.ins 3 (wkF (uj p w)))
      rw[qV_ (Ne.symm hbn.2.2)]
      exact h2
 · rintro σ G' ⟨⟨v1,v2,v3,v4,rfl⟩,hf,c,Y'⟩
   refine⟨hf,?_⟩
   rw[List.take_length]at Y'
   walk_at "r"
   exact hq _ c Y'
end
inductive bR where
 |wr (i v:Int)
 |rd (i:Int)
 |ca (n:Int) (s:Bool)
 |pa (i j:Int)
 |sw
 |ag (i:Int)
 |qu (i:Int)
 |st (j:Int)
 |wa (j:Int)
def bO:bR->D
 | .wr i v=>.tup [.str "write",.int i,.int v]
 | .rd i=>.tup [.str "read",.int i]
 | .ca n s=>.tup [.str "carry",.int n,.bl s]
 | .pa i j=>.tup [.str "pass",.int i,.int j]
 | .sw=>.tup [.str "sweep"]
 | .ag i=>.tup [.str "again",.int i]
 | .qu i=>.tup [.str "quit",.int i]
 | .st j=>.tup [.str "stop",.int j]
 | .wa j=>.tup [.str "wake",.int j]
inductive An where
 |one (d:D)
 |lst (ds:List D)
inductive Rs where
 |no (c:Nat)
 |ok (y:Sy) (a:An)
def inB(i:Int)(n:Nat):Option Nat:=if i < 0\/(n:Int)<=i then none else some i.toNat
theorem ia{i:Int}{n:Nat}(h:i < 0\/(n:Int)<=i):inB i n=none:=if_pos h
theorem gy{i:Int}{n j:Nat}(h:i=(j:Int))(hj:j < n):inB i n=some j:=by
 unfold inB
 rw[if_neg (by omega),h]
 rfl
def aG(y:Sy)(h:Hl):Sy:={y with au:=h}
def endsF(y:Sy)(r:Hl×List (Nat×Pr)):Sy:=dB (aG y r.1) r.2
def oo(y:Sy)(r:Hl×List (Nat×Pr)):List D:=r.2.map (seD y)
def cX(y:Sy)(i:Int)(rd:Bool)(v:Option Int):Rs:=match inB i y.au.hs.length with
 |none=>.no 1001
 |some j=>match y.au.hs[j]? with
  |none=>.no 1001
  |some h=>if h.atw then .no 1004 else .ok (eB (aG y (bM y.au j h v)) j rd v) (.one (.int (y.av.length:Int)))
def gJ(y:Sy)(i:Int)(f:Nat->Hd->Rs):Rs:=match inB i y.au.hs.length with
 |none=>.no 1001
 |some j=>match y.au.hs[j]? with
  |none=>.no 1001
  |some h=>if h.atw then f j h else .no 1005
def nA(y:Sy)(i:Int)(f:Nat->Kr->Rs):Rs:=match inB i y.au.ks.length with
 |none=>.no 1002
 |some j=>match y.au.ks[j]? with
  |none=>.no 1002
  |some k=>f j k
def Bt:List D->D
 | []=>.non
 |d :: _=>d
def CA(y:Sy)(n:Int):Nat:=(n % (y.au.row.length:Int)).toNat
def doneF(y:Sy):bR->Rs
 | .wr i v=>cX y i false (some v)
 | .rd i=>cX y i true none
 | .ca n s=>if y.au.row=[]then .no 1003 else .ok (endsF y (aS y.au (CA y n) s)) (.one (Bt (oo y (aS y.au (CA y n) s))))
 | .pa i j=>match inB i y.au.hs.length with
   |none=>.no 1001
   |some p=>match inB j y.au.ks.length with
    |none=>.no 1002
    |some k=>.ok (endsF y (cV (d5 p k) y.au)) (.lst (oo y (cV (d5 p k) y.au)))
 | .sw=>.ok (endsF y (cV ba y.au)) (.lst (oo y (cV ba y.au)))
 | .ag i=>gJ y i fun j h=>.ok (aG y {y.au with row:=newRow y.au h}) (.one (.int ((bL h).length:Int)))
 | .qu i=>gJ y i fun j h=>.ok (aG y {y.au with hs:=y.au.hs.set j {h with atw:=false}}) (.one (.int (lastOf y.last j:Int)))
 | .st i=>nA y i fun j k=>.ok (aG y {y.au with ks:=y.au.ks.set j {k with up:=false}}) (.one (.bl k.up))
 | .wa i=>nA y i fun j k=>.ok (aG y {y.au with ks:=y.au.ks.set j {k with up:=true}}) (.one (.bl (!k.up)))
structure Iv (y:Sy):Prop where
 W:SWF y
 m:mea y.au<=40*y.aR
 w:y.av.length<=y.aR
 l:y.last.length<=9
theorem DC{y:Sy}(nd:(y.last.map (·.1)).Nodup)(la:∀e∈y.last,e.1 < y.au.hs.length)(hs:y.au.hs.length<=9):y.last.length<=9:=by
 have:=ux y.au.hs.length (y.last.map (·.1)) nd (fun x hx=>by
  obtain⟨e,he,rfl⟩:=qH_.mp hx
  exact la e he)
 rw[qM_]at this
 omega
structure Hon (a b:Hl):Prop where
 W:WF b
 hl:b.hs.length=a.hs.length
 at':∀(i:Nat) g,b.hs[i]? =some g->g.atw=true->∃h,a.hs[i]? =some h/\h.atw=true
theorem Hon.swf{y:Sy}{b:Hl}(W:SWF y)(h:Hon y.au b):SWF (aG y b):=by
 refine⟨h.W,fun e he=>⟨by show e.1 < b.hs.length;rw[h.hl];exact(W.la e he).1,(W.la e he).2⟩,W.nd,fun i g hi hg=>?_⟩
 obtain⟨x,h1,h2⟩:=h.at' i g hi hg
 exact W.atw i x h1 h2
theorem rj{a:Hl}(W:WF a)(p:Nat)(s:Bool):Hon a (aS a p s).1:=by
 refine⟨ju W p s,?_,?_⟩
 · unfold aS
   split
   · rfl
   · split
     · rfl
     · simp
   · split
     · rfl
     · rfl
 · intro i g
   unfold aS
   split
   · exact fun h1 h2=>⟨g,h1,h2⟩
   · rename_i l hr
     split
     · exact fun h1 h2=>⟨g,h1,h2⟩
     · rename_i h hh
       intro h1 h2
       have h1:(a.hs.set l.hand (bN h l).1)[i]? =some g:=h1
       by_cases z:i=l.hand
       · subst z
         rw[qU_ (qB_.mp hh).1]at h1
         cases h1
         refine⟨h,hh,?_⟩
         revert h2
         unfold bN
         cases q:h.atw with
         |true=>exact fun _=>rfl
         |false=>intro h2;simp [q]at h2
       · rw[qV_ (Ne.symm z)]at h1
         exact⟨g,h1,h2⟩
   · split
     · exact fun h1 h2=>⟨g,h1,h2⟩
     · exact fun h1 h2=>⟨g,h1,h2⟩
theorem Hon.trans{a b c:Hl}(x:Hon a b)(y:Hon b c):Hon a c:=⟨y.W,y.hl.trans x.hl,fun i g h1 h2=>by
 obtain⟨g',h3,h4⟩:=y.at' i g h1 h2
 exact x.at' i g' h3 h4⟩
theorem Hon.refl{a:Hl}(W:WF a):Hon a a:=⟨W,rfl,fun _ g h1 h2=>⟨g,h1,h2⟩⟩
theorem yr{a:Hl}(p:Nat)(s:Bool):∀e∈(aS a p s).2,∃h,a.hs[e.1]? =some h/\h.atw=true:=by
 intro e he
 unfold aS at he
 split at he
 · cases he
 · split at he
   · cases he
   · rename_i l hr h hh
     dsimp only at he
     split at he
     · cases he
     · rename_i p hp
       simp at he
       subst he
       refine⟨h,hh,?_⟩
       unfold bN at hp
       cases q:h.atw with
       |true=>rfl
       |false=>simp [q]at hp
 · split at he <;> cases he
theorem lq{sel:Hl->Option Nat}(hs:Sel sel):∀(n:Nat) (a:Hl),WF a->mea a<=n->Hon a (cV sel a).1/\mea (cV sel a).1<=mea a/\∀e∈(cV sel a).2,∃h,a.hs[e.1]? =some h/\h.atw=true:=by
 intro n
 induction n with
 |zero=>
  intro a W hm
  cases q:sel a with
  |none=>rw[eS q];exact⟨Hon.refl W,qO_ _,by simp⟩
  |some p=>
   have:=df W (hs a p q)
   omega
 |succ n ih=>
  intro a W hm
  cases q:sel a with
  |none=>rw[eS q];exact⟨Hon.refl W,qO_ _,by simp⟩
  |some p=>
   rw[jY hs W q]
   have h1:=df W (hs a p q)
   have c:=rj W p false
   obtain⟨i1,i2,i3⟩:=ih (aS a p false).1 c.W (by omega)
   refine⟨c.trans i1,by dsimp only;omega,fun e he=>?_⟩
   rcases qG_.mp he with z |z
   · exact yr p false e z
   · obtain⟨h,h2,h3⟩:=i3 e z
     exact c.at' _ h h2 h3
theorem yx{st:Hl}(W:WF st){j:Nat}{h h':Hd}(hj:st.hs[j]? =some h)(ok:HOK st.ks.length j h')(hr:h.rnd<=h'.rnd)(hp:h'.rnd=h.rnd->h'.pair=h.pair):WF {st with hs:=st.hs.set j h'}:=by
 have hlt:=(qB_.mp hj).1
 refine⟨fun i g hg=>?_,fun e he=>?_,W.ksz,by show (st.hs.set j h').length<=9;simpa using W.hsz⟩
 · have hg:(st.hs.set j h')[i]? =some g:=hg
   by_cases z:i=j
   · subst z
     rw[qU_ hlt]at hg
     cases hg
     exact ok
   · rw[qV_ (Ne.symm z)]at hg
     exact W.hk i g hg
 · obtain⟨g,h1,h2,h3,h4⟩:=W.rw e he
   by_cases z:e.2.hand=j
   · rw[z]at h1
     rw[hj]at h1
     cases h1
     refine⟨h',by show (st.hs.set j h')[e.2.hand]? =some h';rw[z];exact qU_ hlt,h2,by omega,fun w=>?_⟩
     have e1:h'.rnd=h.rnd:=by omega
     rw[hp e1]
     exact h4 (by omega)
   · exact⟨g,by show (st.hs.set j h')[e.2.hand]? =some g;rw[qV_ (Ne.symm z)];exact h1,h2,h3,h4⟩
theorem yH{st:Hl}(W:WF st)(j:Nat)(k:Kr):WF {st with ks:=st.ks.set j k}:=by
 have hl:(st.ks.set j k).length=st.ks.length:=by simp
 refine⟨fun i g hg=>?_,fun e he=>?_,by show (st.ks.set j k).length<=9;rw[hl];exact W.ksz,W.hsz⟩
 · have:=W.hk i g hg
   show g.num=i/\g.cnt=(st.ks.set j k).length/\_
   rw[hl]
   exact this
 · have:=W.rw e he
   show ∃h,st.hs[e.2.hand]? =some h/\e.2.kpr < (st.ks.set j k).length/\_
   rw[hl]
   exact this
theorem Bx{st:Hl}(W:WF st){j:Nat}{h:Hd}(hj:st.hs[j]? =some h):WF {st with row:=newRow st h}:=by
 refine⟨W.hk,fun e he=>?_,W.ksz,W.hsz⟩
 have he:e∈st.row++(bL h).map fun x=>(false,x):=he
 rcases qG_.mp he with z |z
 · exact W.rw e z
 · obtain⟨x,hx,rfl⟩:=qH_.mp z
   obtain⟨a,b,c,d⟩:=qL (W.hok hj) hx
   dsimp only
   refine⟨h,by rw[a];exact hj,b,by omega,fun _=>⟨fun _=>d,fun q=>by cases q⟩⟩
theorem Ao{st:Hl}(W:WF st){j:Nat}{h:Hd}(hj:st.hs[j]? =some h)(v:Option Int):WF (bM st j h v):=by
 have hlt:=(qB_.mp hj).1
 have ok:=W.hok hj
 have W1:WF {st with hs:=st.hs.set j (dt h v)}:=yx W hj (vm (by exact ok.2.1) (by exact ok.1) none) (by show h.rnd<=h.rnd+1;omega) (fun z=>by have z:h.rnd+1=h.rnd:=z;omega)
 exact Bx W1 (by show (st.hs.set j (dt h v))[j]? =_;exact qU_ hlt)
theorem yq(st:Hl)(h:Hd)(hc:h.cnt<=9):((newRow st h).map wt).sum<=(st.row.map wt).sum+18:=by
 unfold newRow
 rw[qT_,List.sum_append,pf]
 have:=jB h
 omega
theorem EV(h:Hd):pot h<=2*h.cnt:=by unfold pot;split <;> omega
theorem y6{st:Hl}(W:WF st){j:Nat}{h:Hd}(hj:st.hs[j]? =some h)(v:Option Int):mea (bM st j h v)<=mea st+36:=by
 have ok:=(W.hok hj).2.1
 have hk:=W.ksz
 have hc:(dt h v).cnt<=9:=by show h.cnt<=9;omega
 have a:=yq st (dt h v) hc
 have b:=sum_set (g:=dt h v) hj
 have c:=EV (dt h v)
 show ((newRow st (dt h v)).map wt).sum+((st.hs.set j (dt h v)).map pot).sum<=mea st+36
 unfold mea
 omega
theorem zG{st:Hl}(W:WF st){j:Nat}{h:Hd}(hj:st.hs[j]? =some h):mea {st with row:=newRow st h}<=mea st+18:=by
 have ok:=(W.hok hj).2.1
 have hk:=W.ksz
 have a:=yq st h (by omega)
 show ((newRow st h).map wt).sum+(st.hs.map pot).sum<=mea st+18
 unfold mea
 omega
theorem Bk{st:Hl}{j:Nat}{h:Hd}(hj:st.hs[j]? =some h):mea {st with hs:=st.hs.set j {h with atw:=false}}<=mea st:=by
 have b:=sum_set (g:={h with atw:=false}) hj
 have c:pot {h with atw:=false}=0:=by unfold pot;rfl
 show (st.row.map wt).sum+((st.hs.set j {h with atw:=false}).map pot).sum<=mea st
 unfold mea
 omega
structure Iv1 (y z:Sy):Prop where
 W:SWF z
 d:z.aR=y.aR
 m:mea z.au<=40*y.aR+40
 w:z.av.length<=y.aR+1
 l:z.last.length<=9
 hl:z.au.hs.length=y.au.hs.length
 kl:z.au.ks.length=y.au.ks.length
theorem Iv.same{y:Sy}(I:Iv y):Iv1 y y:=⟨I.W,rfl,by have:=I.m;omega,by have:=I.w;omega,I.l,rfl,rfl⟩
theorem tJ{y z:Sy}(I:Iv1 y z)(es:List (Nat×Pr)):Iv1 y (dB z es):=by
 obtain⟨q1,q2,q3,q4⟩:=jv es z
 exact⟨⟨by rw[q2];exact I.W.W,by rw[q1,q2,q4];exact I.W.la,by rw[q1];exact I.W.nd,by rw[q1,q2];exact I.W.atw⟩,q3.trans I.d,by rw[q2];exact I.m,by rw[q4];exact I.w,by rw[q1];exact I.l,by rw[q2];exact I.hl,by rw[q2];exact I.kl⟩
theorem lS{y:Sy}(I:Iv y){b:Hl}(h:Hon y.au b)(hm:mea b<=mea y.au+40)(hk:b.ks.length=y.au.ks.length):Iv1 y (aG y b):=
 ⟨h.swf I.W,rfl,by have:=I.m;show mea b<=_;omega,by have:=I.w;show y.av.length<=_;omega,I.l,h.hl,hk⟩
theorem wI(l:List (Nat×Nat))(k p:Nat):(putL l k p).map (·.1)=if (l.any fun e=>decide (e.1=k))then l.map (·.1)else l.map (·.1)++[k]:=by
 unfold putL
 split
 · rw[qb_]
   apply List.map_congr_left
   intro e _
   show (if e.1=k then (e.1,p)else e).1=e.1
   split <;> rfl
 · simp
theorem Cv{l:List (Nat×Nat)}{k p:Nat}(h:(l.map (·.1)).Nodup):((putL l k p).map (·.1)).Nodup:=by
 rw[wI]
 split
 · exact h
 · rename_i q
   rw[List.nodup_append]
   refine⟨h,by simp,fun a ha b hb w=>q ?_⟩
   simp at hb
   obtain⟨e,he,e1⟩:=qH_.mp ha
   rw[List.any_eq_true]
   exact⟨e,he,qZ_ (by rw[e1,w,hb])⟩
theorem B8{l:List (Nat×Nat)}{k p i:Nat}(h:i=k\/i∈l.map (·.1)):i∈(putL l k p).map (·.1):=by
 rw[wI]
 split
 · rename_i q
   rcases h with rfl |h
   · rw[List.any_eq_true]at q
     obtain⟨e,he,e1⟩:=q
     exact qH_.mpr ⟨e,he,of_decide_eq_true e1⟩
   · exact h
 · rcases h with rfl |h
   · simp
   · exact qF_ _ h
theorem AN{y:Sy}(I:Iv y){j:Nat}{h:Hd}(hj:y.au.hs[j]? =some h)(rd:Bool)(v:Option Int):Iv1 y (eB (aG y (bM y.au j h v)) j rd v):=by
 have hlt:=(qB_.mp hj).1
 have W:=I.W
 have wf:=Ao W.W hj v
 have hl:(bM y.au j h v).hs.length=y.au.hs.length:=by show (y.au.hs.set j _).length=_;simp
 have la:∀e∈putL y.last j y.av.length,e.1 < y.au.hs.length/\e.2 < y.av.length+1:=by
  intro e he
  rcases vk he with z |z
  · rw[z];exact⟨hlt,by dsimp only;omega⟩
  · have:=W.la e z;exact⟨this.1,by omega⟩
 have nd:=Cv (k:=j) (p:=y.av.length) W.nd
 refine⟨⟨wf,fun e he=>?_,nd,fun i g hg ha=>?_⟩,rfl,?_,?_,?_,hl,rfl⟩
 · have:=la e he
   refine⟨by show e.1 < (bM y.au j h v).hs.length;rw[hl];exact this.1,?_⟩
   show e.2 < (y.av++[_]).length
   simpa using this.2
 · refine B8 ?_
   by_cases z:i=j
   · exact .inl z
   · have hg:(y.au.hs.set j (dt h v))[i]? =some g:=hg
     rw[qV_ (Ne.symm z)]at hg
     exact .inr (W.atw i g hg ha)
 · have:=y6 W.W hj v
   have:=I.m
   show mea (bM y.au j h v)<=_
   omega
 · have:=I.w
   show (y.av++[_]).length<=_
   simp
   omega
 · have:=DC (y:={y with last:=putL y.last j y.av.length}) nd (fun e he=>(la e he).1) W.W.hsz
   exact this
theorem yD(a:Hl)(p:Nat)(s:Bool):(aS a p s).1.ks.length=a.ks.length:=by
 unfold aS
 split
 · rfl
 · split <;> rfl
 · split
   · rfl
   · simp
theorem Cu{sel:Hl->Option Nat}(hs:Sel sel):∀(n:Nat) (a:Hl),WF a->mea a<=n->(cV sel a).1.ks.length=a.ks.length:=by
 intro n
 induction n with
 |zero=>
  intro a W hm
  cases q:sel a with
  |none=>rw[eS q]
  |some p=>
   have:=df W (hs a p q)
   omega
 |succ n ih=>
  intro a W hm
  cases q:sel a with
  |none=>rw[eS q]
  |some p=>
   rw[jY hs W q]
   have h1:=df W (hs a p q)
   exact(ih (aS a p false).1 (ju W p false) (by omega)).trans (yD a p false)
theorem CY{y:Sy}(I:Iv y)(d:bR){z:Sy}{a:An}(h:doneF y d= .ok z a):Iv1 y z:=by
 have W:=I.W
 have bg:∀{i rd v},cX y i rd v= .ok z a->Iv1 y z:=by
  intro i rd v h
  unfold cX at h
  split at h
  · cases h
  · split at h
    · cases h
    · rename_i j _ _ g hg
      split at h
      · cases h
      · cases h
        exact AN I hg rd v
 have rn:∀{sel:Hl->Option Nat},Sel sel->Iv1 y (endsF y (cV sel y.au)):=by
  intro sel hs
  obtain⟨i1,i2,i3⟩:=lq hs (mea y.au) y.au W.W (qO_ _)
  exact tJ (lS I i1 (by omega) (Cu hs _ _ W.W (qO_ _))) _
 cases d with
 |wr i v=>exact bg h
 |rd i=>exact bg h
 |ca n s=>
  unfold doneF at h
  dsimp only at h
  split at h
  · cases h
  · rename_i hne
    cases h
    refine tJ (lS I (rj W.W _ _) ?_ (yD _ _ _)) _
    have hp:CA y n < y.au.row.length:=by
     unfold CA
     have:0 < y.au.row.length:=List.length_pos_iff.mpr hne
     have h1:=Int.emod_nonneg n (b:=(y.au.row.length:Int)) (by omega)
     have h2:=Int.emod_lt_of_pos n (b:=(y.au.row.length:Int)) (by omega)
     omega
    have:=vV W.W (s:=s) (qA_ hp)
    split at this <;> omega
 |pa i j=>
  unfold doneF at h
  dsimp only at h
  split at h
  · cases h
  · split at h
    · cases h
    · cases h
      exact rn (fq _ _)
 |sw=>
  unfold doneF at h
  dsimp only at h
  cases h
  exact rn dR
 |ag i=>
  unfold doneF gJ at h
  dsimp only at h
  split at h
  · cases h
  · split at h
    · cases h
    · rename_i j _ _ g hg
      split at h
      · cases h
        exact lS I ⟨Bx W.W hg,rfl,fun i g h1 h2=>⟨g,h1,h2⟩⟩ (by have:=zG W.W hg;omega) rfl
      · cases h
 |qu i=>
  unfold doneF gJ at h
  dsimp only at h
  split at h
  · cases h
  · split at h
    · cases h
    · rename_i j _ _ g hg
      split at h
      · cases h
        have hlt:=(qB_.mp hg).1
        have ok:=W.W.hok hg
        refine lS I ⟨yx W.W hg (h':={g with atw:=false}) ok (Int.le_refl _) (fun _=>rfl),by show (y.au.hs.set j _).length=_;simp,fun i g' h1 h2=>?_⟩ (by have:=Bk hg;omega) rfl
        have h1:(y.au.hs.set j {g with atw:=false})[i]? =some g':=h1
        by_cases q:i=j
        · subst q
          rw[qU_ hlt]at h1
          cases h1
          cases h2
        · rw[qV_ (Ne.symm q)]at h1
          exact⟨g',h1,h2⟩
      · cases h
 |st i=>
  unfold doneF nA at h
  dsimp only at h
  split at h
  · cases h
  · split at h
    · cases h
    · cases h
      exact lS I ⟨yH W.W _ _,rfl,fun i g h1 h2=>⟨g,h1,h2⟩⟩ (by show mea y.au<=_;omega) (by show (y.au.ks.set _ _).length=_;simp)
 |wa i=>
  unfold doneF nA at h
  dsimp only at h
  split at h
  · cases h
  · split at h
    · cases h
    · cases h
      exact lS I ⟨yH W.W _ _,rfl,fun i g h1 h2=>⟨g,h1,h2⟩⟩ (by show mea y.au<=_;omega) (by show (y.au.ks.set _ _).length=_;simp)
def Sd.all(S:Sd):List Nat:=S.own++S.A.foot
structure Sd.To (S S':Sd) (n:Nat):Prop where
 s:S'.s=S.s
 z:∀x∈S'.all,x∈S.all\/n<=x
theorem Sd.To.refl(S:Sd)(n:Nat):S.To S n:=⟨rfl,fun _ h=>.inl h⟩
theorem Sd.To.au(S:Sd){A':Ad}{n:Nat}(t:S.A.To A' n):S.To {S with A:=A'} n:=by
 refine⟨rfl,fun x hx=>?_⟩
 rcases qG_.mp hx with w |w
 · exact .inl (qF_ _ w)
 · exact(t.foot x w).elim (fun q=>.inl (qE_ _ q)) .inr
def x8(S:Sd)(n:Nat)(G:Hh)(a:An)(v:D):Prop:=match a with
 | .one d=>v=d
 | .lst ds=>∃l,v= .ref l/\n<=l/\l∉S.all/\G[l]? =some (.lst ds)
section
variable{G G':Hh}{Q:D->Hh->Prop}{E:Nat->Hh->Prop}{S:Sd}{y:Sy}{σ:St}{QS:Fl×St->Hh->Prop}
theorem d0.ltA(Y:d0 G S y):∀n∈S.all,n < G.length:=fun n hn=>(qG_.mp hn).elim (Y.lt n) (Y.H.lt n)
theorem bF{u w:Str}{A B:S3}(hv:σ[2]? =some (some (.str u)))(hn:decide (u=w)=false)(h:M3.run (B σ) G QS E):M3.run (aD (sIf (tB (eOp oEq (af 2) (eC (.str w)))) A bU) B σ) G QS E:=by
 refine aI (fQ (jJ (bc (w_var hv (w_c (w_eq (b:=false) ?_ (iy ?_)))))))
 · show some (decide (u=w))=some false
   rw[hn]
 · rw[if_neg qC_]
   exact m7 (w_next h)
theorem lM{u w:Str}{A B:S3}(hv:σ[2]? =some (some (.str u)))(hn:decide (u=w)=true)(h:M3.run (A σ) G (fun r G1=>M3.run (sK B r) G1 QS E) E):M3.run (aD (sIf (tB (eOp oEq (af 2) (eC (.str w)))) A bU) B σ) G QS E:=by
 refine aI (fQ (jJ (bc (w_var hv (w_c (w_eq (b:=true) ?_ (iy ?_)))))))
 · show some (decide (u=w))=some true
   rw[hn]
 · rw[if_pos rfl]
   exact h
theorem Fp{n:Nat}{xs:List D}{QB:Bool->Hh->Prop}(hn:G[n]? =some (.lst xs))(h:QB (!xs.isEmpty) G):M3.run (truth (.ref n)) G QB E:=by
 refine aW (a:=!xs.isEmpty) (G':=G) ?_ h
 unfold truth
 dsimp only
 rw[hn]
theorem pw{i:Int}{j:Nat}{h:Hd}(e:i=(j:Int))(hj:y.au.hs[j]? =some h):inB i y.au.hs.length=some j:=gy e (qB_.mp hj).1
theorem DX{i:Int}{j:Nat}{k:Kr}(e:i=(j:Int))(hj:y.au.ks[j]? =some k):inB i y.au.ks.length=some j:=gy e (qB_.mp hj).1
theorem A5(Y:d0 G S y):G[S.A.a]? =some (.ins 2 [(9,.ref S.A.lk),(10,.ref S.A.lh),(11,.ref S.A.lr)]):=Y.H.o
theorem xl{r:Hl×List (Nat×Pr)}{A':Ad}{G1:Hh}{le:Nat}(I:Iv y)(Y:d0 G S y)(c:Chg S.A.foot G G1)(to:S.A.To A' G.length)(hl:G.length<=le)(H:cg G1 A' r.1)(h:G1[le]? =some (.lst (r.2.map qG)))
 (hon:Hon y.au r.1) (hat:∀e∈r.2,∃h,y.au.hs[e.1]? =some h/\h.atw=true) (hz:r.2.length<=1000000)
 (hq:∀l2 S' G',S'.s=S.s->Chg S.all G G'->S.To S' G.length->d0 G' S' (endsF y r)->G.length<=l2->l2∉S'.all->G'[l2]? =some (.lst (oo y r))->Q (.ref l2) G'):M3.run (cu [.ref S.s,.ref le]) G1 Q E:=by
 have Y1:=Y.au c to H
 have W1:SWF (aG y r.1):=hon.swf I.W
 refine v5 (S:={S with A:=A'}) (y:=aG y r.1) Y1 W1 h (fun z=>?_) hz (fun e he=>?_) fun l2 G2 c2 hl2 Y2 h2=>?_
 · have:=Y.lt le z;omega
 · obtain⟨g,h1,h2⟩:=hat e he
   exact I.W.atw _ g h1 h2
 · have c1:=c.1
   refine hq l2 {S with A:=A'} G2 rfl ((c.mono fun n hn=>qE_ _ hn).trans (c2.mono fun n hn=>qF_ _ hn)) (Sd.To.au S to) Y2 (by omega) (fun z=>?_) h2
   have:=Y1.ltA l2 z
   omega
theorem FG{d:bR}(I:Iv y)(hd:y.aR<=1000)(Y:d0 G S y)
 (hE:∀c G',doneF y d= .no c->Chg [] G G'->E c G')
 (hq:∀v S' G' z a,doneF y d= .ok z a->Chg S.all G G'->S.To S' G.length->d0 G' S' z->x8 S' G.length G' a v->Q v G'):M3.run (iI [.ref S.s,bO d]) G Q E:=by
 have W:=I.W
 have hm:mea y.au<=800000:=by have:=I.m;omega
 have ho:=Y.o
 have hH:=A5 Y
 have r0:=Chg.refl [] G
 walk_at "f"
 unfold nQ
 cases d with
 |wr i v=>
  unfold bO
  refine aI (bJ (bc (w_var rfl (w_c (cy rfl (w_next ?_))))))
  walk_at "s"
  refine lM rfl (by decide) ?_
  refine aI (eE (bT (w_fld (w_var rfl (bI ho (by decide) rfl (dI hH (ay (bc (w_var rfl (w_c (cy rfl (ay (bc (w_var rfl (w_c (cy rfl (aJ ?_)))))))))))))))))
  refine CD Y.H W.W hm (fun z=>hE _ _ ?_ r0) (fun j h e hj ha=>hE _ _ ?_ r0) fun j h e hj ha A' G1 c1 to H1=>?_
  · show cX y i false (some v)=_
    unfold cX
    rw[ia z]
  · show cX y i false (some v)=_
    unfold cX
    rw[pw e hj]
    dsimp only
    rw[hj]
    dsimp only
    rw[if_pos ha]
  · have eR:doneF y (.wr i v)= .ok (eB (aG y (bM y.au j h (some v))) j false (some v)) (.one (.int (y.av.length:Int))):=by
     show cX y i false (some v)=_
     unfold cX
     rw[pw e hj]
     dsimp only
     rw[hj]
     dsimp only
     rw[if_neg (by rw[ha];exact qC_)]
    have Y1:=Y.au c1 to H1
    have ho1:=Y1.o
    subst e
    walk_at "r"
    refine pL (S:={S with A:=A'}) (rd:=false) (v:=some v) Y1 (by have:=I.w;show y.av.length<=1000;omega) (by have:=I.l;show y.last.length<=1000;omega) fun a G2 c2 hl Y2=>?_
    have g1:=c1.1
    have Y1l:=Y1.ltA
    walk_at "r"
    refine hq _ {S with A:=A',wa:=S.wa++[a]} G2 _ _ eR ((c1.mono fun n hn=>qE_ _ hn).trans' c2 fun n hn=>(Sd.To.au S to).z n hn) ⟨rfl,fun x hx=>?_⟩ Y2 rfl
    have hx:x∈([S.s,S.lw,S.ld]++(S.wa++[a]))++A'.foot:=hx
    rcases qG_.mp hx with w |w
    · rw[<-List.append_assoc]at w
      rcases qG_.mp w with w |w
      · exact .inl (qF_ _ w)
      · simp at w;exact .inr (by omega)
    · exact(to.foot x w).elim (fun q=>.inl (qE_ _ q)) .inr
 |rd i=>
  unfold bO
  refine aI (bJ (bc (w_var rfl (w_c (cy rfl (w_next ?_))))))
  walk_at "s"
  refine bF rfl (by decide) ?_
  refine lM rfl (by decide) ?_
  refine aI (eE (bT (w_fld (w_var rfl (bI ho (by decide) rfl (dI hH (ay (bc (w_var rfl (w_c (cy rfl (aJ ?_))))))))))))
  refine Gn Y.H W.W hm (fun z=>hE _ _ ?_ r0) (fun j h e hj ha=>hE _ _ ?_ r0) fun j h e hj ha A' G1 c1 to H1=>?_
  · show cX y i true none=_
    unfold cX
    rw[ia z]
  · show cX y i true none=_
    unfold cX
    rw[pw e hj]
    dsimp only
    rw[hj]
    dsimp only
    rw[if_pos ha]
  · have eR:doneF y (.rd i)= .ok (eB (aG y (bM y.au j h none)) j true none) (.one (.int (y.av.length:Int))):=by
     show cX y i true none=_
     unfold cX
     rw[pw e hj]
     dsimp only
     rw[hj]
     dsimp only
     rw[if_neg (by rw[ha];exact qC_)]
    have Y1:=Y.au c1 to H1
    have ho1:=Y1.o
    subst e
    walk_at "r"
    refine pL (S:={S with A:=A'}) (rd:=true) (v:=none) Y1 (by have:=I.w;show y.av.length<=1000;omega) (by have:=I.l;show y.last.length<=1000;omega) fun a G2 c2 hl Y2=>?_
    have g1:=c1.1
    have Y1l:=Y1.ltA
    walk_at "r"
    refine hq _ {S with A:=A',wa:=S.wa++[a]} G2 _ _ eR ((c1.mono fun n hn=>qE_ _ hn).trans' c2 fun n hn=>(Sd.To.au S to).z n hn) ⟨rfl,fun x hx=>?_⟩ Y2 rfl
    have hx:x∈([S.s,S.lw,S.ld]++(S.wa++[a]))++A'.foot:=hx
    rcases qG_.mp hx with w |w
    · rw[<-List.append_assoc]at w
      rcases qG_.mp w with w |w
      · exact .inl (qF_ _ w)
      · simp at w;exact .inr (by omega)
    · exact(to.foot x w).elim (fun q=>.inl (qE_ _ q)) .inr
 |ca n s=>
  unfold bO
  refine aI (bJ (bc (w_var rfl (w_c (cy rfl (w_next ?_))))))
  walk_at "s"
  refine bF rfl (by decide) ?_
  refine bF rfl (by decide) ?_
  refine lM rfl (by decide) ?_
  refine aI (bJ (bT (w_var rfl (dI ho (ay (bT (w_fld (w_var rfl (bI ho (by decide) rfl (dI hH (ay (bc (w_var rfl (w_c (cy rfl (ay (bc (w_var rfl (w_c (cy rfl (aJ ?_)))))))))))))))))))))
  refine CP Y.H W.W hm (fun z=>hE _ _ (if_pos z) r0) fun p hp hlt le A' G1 c1 to hl H1 h1=>aJ ?_
  have eR:doneF y (.ca n s)= .ok (endsF y (aS y.au p s)) (.one (Bt (oo y (aS y.au p s)))):=by
   subst hp
   exact if_neg (by intro z;rw[z]at hlt;simp at hlt)
  have hln:=lV y.au p s
  refine xl I Y c1 to hl H1 h1 (rj W.W p s) (yr p s) (by omega) fun l2 S' G2 hs c2 to2 Y2 hl2 hn2 h2=>?_
  walk_at "r"
  refine Fp h2 ?_
  cases q:oo y (aS y.au p s)with
  |nil=>
   dsimp only[List.isEmpty]
   walk_at "r"
   exact hq _ S' G2 _ _ eR c2 to2 Y2 (by rw[q];rfl)
  |cons x r=>
   rw[q]at h2
   dsimp only[List.isEmpty]
   walk_at "r"
   refine fz h2 (show atI (x :: r) 0=some x from ?_) ?_
   · unfold atI M3.ixN
     simp
   walk_at "r"
   exact hq _ S' G2 _ _ eR c2 to2 Y2 (by rw[q];rfl)
 |pa i j=>
  unfold bO
  refine aI (bJ (bc (w_var rfl (w_c (cy rfl (w_next ?_))))))
  walk_at "s"
  refine bF rfl (by decide) ?_
  refine bF rfl (by decide) ?_
  refine bF rfl (by decide) ?_
  refine lM rfl (by decide) ?_
  refine cS (bT (w_var rfl (dI ho (ay (bT (w_fld (w_var rfl (bI ho (by decide) rfl (dI hH (ay (bc (w_var rfl (w_c (cy rfl (ay (bc (w_var rfl (w_c (cy rfl (aJ ?_))))))))))))))))))))
  refine pS Y.H W.W hm (fun z=>hE _ _ ?_ r0) (fun z1 z2=>hE _ _ ?_ r0) fun p k e1 e2 h1 h2 le A' G1 c1 to hl hn H1 g1=>aJ ?_
  · unfold doneF
    dsimp only
    rw[ia z]
  · unfold doneF
    dsimp only
    have:inB i y.au.hs.length=some i.toNat:=by unfold inB;rw[if_neg z1]
    rw[this]
    dsimp only
    rw[ia z2]
  have eR:doneF y (.pa i j)= .ok (endsF y (cV (d5 p k) y.au)) (.lst (oo y (cV (d5 p k) y.au))):=by
   unfold doneF
   dsimp only
   rw[gy e1 h1]
   dsimp only
   rw[gy e2 h2]
  have hln:=ot (fq p k) (mea y.au) y.au W.W (qO_ _)
  obtain⟨i1,i2,i3⟩:=lq (fq p k) (mea y.au) y.au W.W (qO_ _)
  refine xl I Y c1 to hl H1 g1 i1 i3 (by omega) fun l2 S' G2 hs c2 to2 Y2 hl2 hn2 h2=>?_
  walk_at "r"
  exact hq _ S' G2 _ _ eR c2 to2 Y2 ⟨l2,rfl,hl2,hn2,h2⟩
 |sw=>
  unfold bO
  refine aI (bJ (bc (w_var rfl (w_c (cy rfl (w_next ?_))))))
  walk_at "s"
  refine bF rfl (by decide) ?_
  refine bF rfl (by decide) ?_
  refine bF rfl (by decide) ?_
  refine bF rfl (by decide) ?_
  refine lM rfl (by decide) ?_
  refine cS (bT (w_var rfl (dI ho (ay (bT (w_fld (w_var rfl (bI ho (by decide) rfl (dI hH (aJ ?_))))))))))
  refine CH Y.H W.W hm fun le A' G1 c1 to hl hn H1 g1=>aJ ?_
  have hln:=ot dR (mea y.au) y.au W.W (qO_ _)
  obtain⟨i1,i2,i3⟩:=lq dR (mea y.au) y.au W.W (qO_ _)
  refine xl I Y c1 to hl H1 g1 i1 i3 (by omega) fun l2 S' G2 hs c2 to2 Y2 hl2 hn2 h2=>?_
  walk_at "r"
  exact hq _ S' G2 _ _ rfl c2 to2 Y2 ⟨l2,rfl,hl2,hn2,h2⟩
 |ag i=>
  unfold bO
  refine aI (bJ (bc (w_var rfl (w_c (cy rfl (w_next ?_))))))
  walk_at "s"
  refine bF rfl (by decide) ?_
  refine bF rfl (by decide) ?_
  refine bF rfl (by decide) ?_
  refine bF rfl (by decide) ?_
  refine bF rfl (by decide) ?_
  refine lM rfl (by decide) ?_
  refine cS (bT (w_fld (w_var rfl (bI ho (by decide) rfl (dI hH (ay (bc (w_var rfl (w_c (cy rfl (aJ ?_)))))))))))
  refine B9 Y.H W.W hm (fun z=>hE _ _ ?_ r0) (fun j h e hj ha G1 c1=>hE _ _ ?_ c1) fun j h e hj ha G1 c1 H1=>?_
  · unfold doneF gJ
    dsimp only
    rw[ia z]
  · unfold doneF gJ
    dsimp only
    rw[pw e hj]
    dsimp only
    rw[hj]
    dsimp only
    rw[if_neg (by rw[ha];exact qC_)]
  · have eR:doneF y (.ag i)= .ok (aG y {y.au with row:=newRow y.au h}) (.one (.int ((bL h).length:Int))):=by
     unfold doneF gJ
     dsimp only
     rw[pw e hj]
     dsimp only
     rw[hj]
     dsimp only
     rw[if_pos ha]
    have to:=Ad.To.refl S.A G.length
    walk_at "r"
    exact hq _ S G1 _ _ eR (c1.mono fun n hn=>qE_ _ hn) (Sd.To.refl _ _) (Y.au c1 to H1) rfl
 |qu i=>
  unfold bO
  refine aI (bJ (bc (w_var rfl (w_c (cy rfl (w_next ?_))))))
  walk_at "s"
  refine bF rfl (by decide) ?_
  refine bF rfl (by decide) ?_
  refine bF rfl (by decide) ?_
  refine bF rfl (by decide) ?_
  refine bF rfl (by decide) ?_
  refine bF rfl (by decide) ?_
  refine lM rfl (by decide) ?_
  refine aI (eE (bT (w_fld (w_var rfl (bI ho (by decide) rfl (dI hH (ay (bc (w_var rfl (w_c (cy rfl (aJ ?_))))))))))))
  refine DE Y.H (fun z=>hE _ _ ?_ r0) (fun j h e hj ha=>hE _ _ ?_ r0) fun j h e hj ha G1 c1 H1=>?_
  · unfold doneF gJ
    dsimp only
    rw[ia z]
  · unfold doneF gJ
    dsimp only
    rw[pw e hj]
    dsimp only
    rw[hj]
    dsimp only
    rw[if_neg (by rw[ha];exact qC_)]
  · have eR:doneF y (.qu i)= .ok (aG y {y.au with hs:=y.au.hs.set j {h with atw:=false}}) (.one (.int (lastOf y.last j:Int))):=by
     unfold doneF gJ
     dsimp only
     rw[pw e hj]
     dsimp only
     rw[hj]
     dsimp only
     rw[if_pos ha]
    have Y1:=Y.au c1 (Ad.To.refl S.A G.length) H1
    have ho1:=Y1.o
    have hl:=tH W.nd (gY (W.atw j h hj ha))
    subst e
    refine w_next (cS (bc (w_fld (w_var rfl (bI ho1 (by decide) rfl (bc (w_var rfl (w_c (cy rfl (DY Y1.d rfl hl ?_))))))))))
    walk_at "r"
    exact hq _ S G1 _ _ eR (c1.mono fun n hn=>qE_ _ hn) (Sd.To.refl _ _) Y1 rfl
 |st i=>
  unfold bO
  refine aI (bJ (bc (w_var rfl (w_c (cy rfl (w_next ?_))))))
  walk_at "s"
  refine bF rfl (by decide) ?_
  refine bF rfl (by decide) ?_
  refine bF rfl (by decide) ?_
  refine bF rfl (by decide) ?_
  refine bF rfl (by decide) ?_
  refine bF rfl (by decide) ?_
  refine bF rfl (by decide) ?_
  refine lM rfl (by decide) ?_
  refine cS (bT (w_fld (w_var rfl (bI ho (by decide) rfl (dI hH (ay (bc (w_var rfl (w_c (cy rfl (aJ ?_)))))))))))
  refine sh Y.H (fun z=>hE _ _ ?_ r0) fun j k e hj G1 c1 H1=>?_
  · unfold doneF nA
    dsimp only
    rw[ia z]
  · have eR:doneF y (.st i)= .ok (aG y {y.au with ks:=y.au.ks.set j {k with up:=false}}) (.one (.bl k.up)):=by
     unfold doneF nA
     dsimp only
     rw[DX e hj]
     dsimp only
     rw[hj]
    walk_at "r"
    exact hq _ S G1 _ _ eR (c1.mono fun n hn=>qE_ _ hn) (Sd.To.refl _ _) (Y.au c1 (Ad.To.refl S.A G.length) H1) rfl
 |wa i=>
  unfold bO
  refine aI (bJ (bc (w_var rfl (w_c (cy rfl (w_next ?_))))))
  walk_at "s"
  refine bF rfl (by decide) ?_
  refine bF rfl (by decide) ?_
  refine bF rfl (by decide) ?_
  refine bF rfl (by decide) ?_
  refine bF rfl (by decide) ?_
  refine bF rfl (by decide) ?_
  refine bF rfl (by decide) ?_
  refine bF rfl (by decide) ?_
  refine cS (bT (w_fld (w_var rfl (bI ho (by decide) rfl (dI hH (ay (bc (w_var rfl (w_c (cy rfl (aJ ?_)))))))))))
  refine sv Y.H (fun z=>hE _ _ ?_ r0) fun j k e hj G1 c1 H1=>?_
  · unfold doneF nA
    dsimp only
    rw[ia z]
  · have eR:doneF y (.wa i)= .ok (aG y {y.au with ks:=y.au.ks.set j {k with up:=true}}) (.one (.bl (!k.up))):=by
     unfold doneF nA
     dsimp only
     rw[DX e hj]
     dsimp only
     rw[hj]
    walk_at "r"
    exact hq _ S G1 _ _ eR (c1.mono fun n hn=>qE_ _ hn) (Sd.To.refl _ _) (Y.au c1 (Ad.To.refl S.A G.length) H1) rfl
end
def wordOf(c:Nat):Str:=if c=1001 then "no hand" else if c=1002 then "no keeper" else if c=1003 then "no letter" else if c=1004 then "busy" else "idle"
def mB(y:Sy)(d:bR):Sy×An:=match doneF y d with
 | .no c=>(y,.one (.str (wordOf c)))
 | .ok z a=>(z,a)
def nM(y:Sy):Sy:={y with aR:=y.aR+1}
def bb(y:Sy)(d:bR):Sy×An:=(nM (dS (mB y d).1),(mB y d).2)
def dm(y:Sy)(ds:List bR):Sy:=ds.foldl (fun y d=>(bb y d).1) y
def qY:Sy->List bR->List An
 |_,[]=>[]
 |y,d :: r=>(bb y d).2 :: qY (bb y d).1 r
theorem zJ(y:Sy)(a b:List bR):qY y (a++b)=qY y a++qY (dm y a) b:=by
 induction a generalizing y with
 |nil=>rfl
 |cons d r ih=>
  show _ :: qY _ (r++b)=_
  rw[ih]
  rfl
theorem eP(y:Sy)(a b:List bR):dm y (a++b)=dm (dm y a) b:=List.foldl_append
theorem Dw{y:Sy}{d:bR}{c:Nat}(h:doneF y d= .no c):c=1001\/c=1002\/c=1003\/c=1004\/c=1005:=by
 cases d <;> (unfold doneF at h;(try unfold cX at h);(try unfold gJ at h);(try unfold nA at h);dsimp only at h;repeat' split at h) <;> cases h <;> simp
theorem lZ{y z:Sy}(I:Iv1 y z):Iv1 y (dS z):=by
 obtain⟨q1,q2,q3,q4⟩:=fk z.last z
 unfold dS
 exact⟨⟨by rw[q2];exact I.W.W,by rw[q1,q2,q4];exact I.W.la,by rw[q1];exact I.W.nd,by rw[q1,q2];exact I.W.atw⟩,q3.trans I.d,by rw[q2];exact I.m,by rw[q4];exact I.w,by rw[q1];exact I.l,by rw[q2];exact I.hl,by rw[q2];exact I.kl⟩
theorem nY{y:Sy}(I:Iv y)(d:bR):Iv1 y (mB y d).1:=by
 unfold mB
 split
 · exact I.same
 · rename_i z a h
   exact CY I d h
theorem z0{y z:Sy}(I:Iv1 y z):Iv (nM z):=by
 have h1:=I.d
 have h2:=I.m
 have h3:=I.w
 refine⟨⟨I.W.W,I.W.la,I.W.nd,I.W.atw⟩,?_,?_,I.l⟩
 · show mea z.au<=40*(z.aR+1);omega
 · show z.av.length<=z.aR+1;omega
theorem mf{y:Sy}(I:Iv y)(d:bR):Iv (bb y d).1:=z0 (lZ (nY I d))
theorem wQ{y:Sy}(I:Iv y)(d:bR):(bb y d).1.aR=y.aR+1:=by
 show (dS (mB y d).1).aR+1=_
 rw[(lZ (nY I d)).d]
theorem Bu{y:Sy}(I:Iv y)(d:bR):(bb y d).1.au.hs.length=y.au.hs.length/\(bb y d).1.au.ks.length=y.au.ks.length:=⟨(lZ (nY I d)).hl,(lZ (nY I d)).kl⟩
theorem kA{y:Sy}(I:Iv y)(ds:List bR):Iv (dm y ds)/\(dm y ds).aR=y.aR+ds.length/\(dm y ds).au.hs.length=y.au.hs.length/\(dm y ds).au.ks.length=y.au.ks.length:=by
 induction ds generalizing y with
 |nil=>exact⟨I,rfl,rfl,rfl⟩
 |cons d r ih=>
  obtain⟨a,b,c,e⟩:=ih (mf I d)
  obtain⟨p,q⟩:=Bu I d
  refine⟨a,b.trans ?_,c.trans p,e.trans q⟩
  rw[wQ I d,List.length_cons]
  omega
section
variable{G G':Hh}{Q:D->Hh->Prop}{E:Nat->Hh->Prop}{S:Sd}{y:Sy}{σ:St}{QS:Fl×St->Hh->Prop}
theorem x8.chg{n:Nat}{a:An}{v:D}{T:List Nat}(h:x8 S n G a v)(c:Chg T G G')(ht:∀x∈T,x∈S.all):x8 S n G' a v:=by
 cases a with
 |one d=>exact h
 |lst ds=>
  obtain⟨l,e,h1,h2,h3⟩:=h
  exact⟨l,e,h1,h2,c.get h3 fun z=>h2 (ht l z)⟩
theorem d0.count(Y:d0 G S y)(c:Chg [S.s] G G')(h:G'[S.s]? =some (.ins 4 [(17,.ref S.A.a),(18,.ref S.lw),(19,.ref S.ld),(20,.int ((y.aR+1:Nat):Int))])):d0 G' S (nM y):=by
 obtain⟨n1,n2,n3,n4,n5⟩:=j9 Y.nd
 have ns:∀n,n≠S.s->n∉ [S.s]:=fun n h z=>h (by simpa using z)
 exact⟨h,c.get Y.w (ns _ (Ne.symm n1)),c.get Y.d (ns _ (Ne.symm n2)),Y.wl,fun i a w h1 h2=>c.get (Y.wk i a w h1 h2) (ns _ (n5 a (qD_ h1)).1),Y.H.frame c (by intro n hn;simp at hn;rw[hn];exact Y.dj _ (by simp [Sd.own])),Y.nd,Y.dj⟩
theorem nR{d:bR}(I:Iv y)(hd:y.aR<=1000)(Y:d0 G S y)
 (hq:∀v S' G',Chg S.all G G'->S.To S' G.length->d0 G' S' (mB y d).1->x8 S' G.length G' (mB y d).2 v->Q v G'):M3.run (di [.ref S.s,bO d]) G Q E:=by
 have ho:=Y.o
 walk_at "f"
 unfold gb
 refine GL (bT (w_var rfl (dI ho (ay (w_var rfl (aJ ?_))))))
 refine FG I hd Y (fun c G1 e c1=>?_) fun v S' G1 z a e c1 t Y1 h1=>?_
 · have e1:mB y d=(y,.one (.str (wordOf c))):=by unfold mB;rw[e]
   have Y1:d0 G1 S (mB y d).1:=by rw[e1];exact Y.frame c1 (by simp)
   have q:=hq (.str (wordOf c)) S G1 (c1.mono (by simp)) (Sd.To.refl _ _) Y1 (by rw[e1];rfl)
   rcases Dw e with rfl |rfl |rfl |rfl |rfl
   · exact⟨_,rfl,cS (w_c (nB q))⟩
   · exact⟨_,rfl,cS (w_c (nB q))⟩
   · exact⟨_,rfl,cS (w_c (nB q))⟩
   · exact⟨_,rfl,cS (w_c (nB q))⟩
   · exact⟨_,rfl,cS (w_c (nB q))⟩
 · have e1:mB y d=(z,a):=by unfold mB;rw[e]
   refine nB (hq v S' G1 c1 t (by rw[e1];exact Y1) (by rw[e1];exact h1))
theorem AR{d:bR}(I:Iv y)(hd:y.aR<=1000)(Y:d0 G S y)
 (hq:∀v S' G',Chg S.all G G'->S.To S' G.length->d0 G' S' (bb y d).1->x8 S' G.length G' (bb y d).2 v->Q v G'):M3.run (fm [.ref S.s,bO d]) G Q E:=by
 have ho:=Y.o
 walk_at "f"
 unfold lA
 refine aI (bJ (bT (w_var rfl (dI ho (ay (w_var rfl (aJ ?_)))))))
 refine nR I hd Y fun v S1 G1 c1 t1 Y1 h1=>w_next ?_
 walk_at "s"
 have I1:=nY I d
 have ho1:=Y1.o
 rw[t1.s]at ho1
 refine aI (eE (bT (w_var rfl (dI ho1 (aJ ?_)))))
 rw[<-t1.s]
 refine rW Y1 I1.W fun G2 c2 Y2=>w_next ?_
 have ho2:=Y2.o
 have h2:=h1.chg c2 fun x hx=>qF_ _ hx
 refine aI (gX (bc (w_fld (w_var rfl (bI ho2 (by decide) rfl (w_c (xc (w_var rfl ?_))))))))
 refine aV ho2 ⟨by decide,qP_ rfl⟩ fun G3 c3 l3 h3=>?_
 walk_at "r"
 have sm:S1.s∈S1.all:=qF_ _ (by simp [Sd.own])
 refine hq v S1 G3 ?_ t1 (Y2.count c3 ?_) (h2.chg c3 (by intro x hx;simp at hx;rw[hx];exact sm))
 · refine(c1.trans' c2 fun n hn=>t1.z n (qF_ _ hn)).trans' c3 fun n hn=>?_
   simp at hn
   rw[hn]
   exact t1.z _ sm
 · exact h3
end
def k0:Kr:=⟨start,true⟩
def gx(count many:Nat):Hl:=⟨List.replicate count k0,(List.range many).map fun i=>mP i count,[]⟩
def cT(count many:Nat):Sy:=⟨gx count many,[],[],0⟩
theorem lQ{c m:Nat}(hc:c<=9)(hm:m<=9):Iv (cT c m):=by
 have hg:∀(i:Nat) h,(gx c m).hs[i]? =some h->h=mP i c:=by
  intro i h hh
  unfold gx at hh
  dsimp only at hh
  rw[qQ_]at hh
  cases q:(List.range m)[i]? with
  |none=>rw[q]at hh;cases hh
  |some j=>
   rw[q]at hh
   obtain⟨h1,h2⟩:=qB_.mp q
   rw[List.getElem_range]at h2
   cases hh
   rw[h2]
 have hk:(gx c m).ks.length=c:=by unfold gx;simp
 have hl:(gx c m).hs.length=m:=by unfold gx;simp
 refine⟨⟨⟨fun i h hh=>?_,fun e he=>(by cases he),by rw[show (cT c m).au=gx c m from rfl,hk];exact hc,by rw[show (cT c m).au=gx c m from rfl,hl];exact hm⟩,fun e he=>(by cases he),List.nodup_nil,fun i h hh ha=>?_⟩,?_,qO_ _,qf_ _⟩
 · rw[hg i h hh]
   exact⟨rfl,hk.symm,by simp [mP],by simp [mP],by simp [mP]⟩
 · rw[hg i h hh]at ha
   cases ha
 · show mea (gx c m)<=0
   unfold mea gx
   dsimp only
   rw[qb_]
   have:∀l:List Nat,(l.map (pot ∘ fun i=>mP i c)).sum=0:=by
    intro l
    induction l with
    |nil=>rfl
    |cons x r ih=>rw[List.map_cons,List.sum_cons,ih];rfl
   rw[this]
   exact qO_ _
section
variable{G G':Hh}{Q:D->Hh->Prop}{E:Nat->Hh->Prop}{S:Sd}{y:Sy}{σ:St}{QS:Fl×St->Hh->Prop}
theorem iE{it:I3}{cap:List Nat}{cond:T3}{elt:E3}
 (h:M3.run (it σ) G (fun s G1=>M3.run (dH s.ck (fun x=>cond (some x :: fW σ cap)) (fun x=>elt (some x :: fW σ cap)) s.xs []) G1 (fun ys G2=>∀G3,Chg [] G2 G3->G3.length=G2.length+1->G3[G2.length]? =some (.lst ys)->Q (.ref G2.length) G3) E) E):M3.run (gL it cap cond elt σ) G Q E:=
 uo (aC h (fun s G1 q=>aC q (fun ys G2 q=>q _ (Chg.add _ _) (by simp) (bK _ _)) fun _ _ z=>z) fun _ _ z=>z)
theorem r9{a:Nat}(ha:G[a]? =some (.ins 1 []))(hq:∀G',Chg [a] G G'->ja G' a k0->Q .non G'):M3.run (hG [.ref a]) G Q E:=by
 walk_at "f"
 unfold mR
 walk_at "r"
 refine aV ha ⟨by decide,qP_ rfl⟩ fun G1 c1 l1 h1=>?_
 walk_at "r"
 refine aV h1 ⟨by decide,qP_ rfl⟩ fun G2 c2 l2 h2=>?_
 walk_at "r"
 exact hq G2 (c1.trans c2) h2
theorem lD{i:Int}{j:Nat}{QI:Src->Hh->Prop}(e:i=(j:Int))(hj:j<=1000000)(h:QI ⟨rng 0 j,fun _=>true⟩ G):M3.run (Ck (.int i)) G QI E:=by
 rw[e]
 with_reducible exact lK hj h
theorem wA{a c m:Nat}{ci mi:Int}(hci:ci=(c:Int))(hmi:mi=(m:Int))(ha:G[a]? =some (.ins 2 []))(hc:c<=9)(hm:m<=9)(hq:∀A G',A.a=a->Chg [a] G G'->(∀x∈A.foot,x=a\/G.length<=x)->cg G' A (gx c m)->Q .non G'):M3.run (hX [.ref a,.int ci,.int mi]) G Q E:=by
 have hal:=aO ha
 unfold hX
 with_reducible refine M3.FL rfl ?_
 simp only[List.map_cons,List.map_nil,List.cons_append,qc_]
 unfold pE
 with_reducible refine aI ?_
 with_reducible refine gX ?_
 with_reducible refine iE ?_
 with_reducible refine gF ?_
 walk_at "w"
 with_reducible refine lD hci (by omega) ?_
 with_reducible refine ma (xs:=rng 0 c) (fun i acc G'=>∃ka:List Nat,acc=refs ka/\ka.length=i/\ka.Nodup/\(∀x∈ka,G.length<=x/\ja G' x k0)/\Chg [] G G') (fun _ _ _ _=>rfl) ?_ ?_ _ 0 [] G List.drop_zero (qf_ _) ⟨[],rfl,rfl,List.nodup_nil,by simp,Chg.refl _ _⟩
 · rintro i x acc G' hx ⟨ka,rfl,hl,hnd,hk,cc⟩
   obtain⟨_,hi⟩:=oF hx
   refine jD ?_
   rw[if_pos rfl]
   refine oE (aJ fun G1 c1 l1 h1=>?_)
   refine r9 h1 fun G2 c2 h2=>⟨rfl,?_,ka++[G'.length],?_,?_,?_,?_,?_⟩
   · unfold refs;rw[qM_,hl];unfold aM;omega
   · unfold refs;rw[qT_];rfl
   · simp [hl]
   · rw[List.nodup_append]
     refine⟨hnd,by simp,fun x hx y hy w=>?_⟩
     simp at hy
     have:=aO (hk x hx).2
     omega
   · intro x hx
     have g:=cc.1
     rcases qG_.mp hx with w |w
     · obtain⟨q1,q2⟩:=hk x w
       have:=aO q2
       exact⟨q1,c2.get (c1.get q2 (by simp)) (by simp;omega)⟩
     · simp at w
       subst w
       exact⟨g,h2⟩
   · have g:=cc.1
     exact cc.trans (c1.trans' c2 (by intro n hn;simp at hn;rw[hn];exact .inr (qO_ _)))
 rintro acc G1 ⟨ka,rfl,hkl,hknd,hk,cc1⟩
 rw[qf]at hkl
 refine fun G2 c2 l2 h2=>w_var rfl ?_
 have cc2:=cc1.trans c2
 have ha2:=cc2.get ha (by simp)
 refine aV ha2 ⟨by decide,qP_ rfl⟩ fun G3 c3 l3 h3=>w_next ?_
 have g1:=cc1.1
 with_reducible refine aI ?_
 with_reducible refine gX ?_
 with_reducible refine iE ?_
 with_reducible refine gF ?_
 walk_at "w"
 with_reducible refine lD hmi (by omega) ?_
 with_reducible refine ma (xs:=rng 0 m) (fun i acc G'=>∃ha da:List Nat,acc=refs ha/\ha.length=i/\da.length=i/\(ha++da).Nodup/\(∀x∈ha++da,G3.length<=x/\x < G'.length)/\(∀(j:Nat) a d,ha[j]? =some a->da[j]? =some d->gQ G' a d (mP j c))/\Chg [] G3 G') (fun _ _ _ _=>rfl) ?_ ?_ _ 0 [] G3 List.drop_zero (qf_ _) ⟨[],[],rfl,rfl,rfl,(by simp),(by simp),(by simp),Chg.refl _ _⟩
 · rintro i x acc G' hx ⟨ha,da,rfl,hl,hdl,hnd,hk,hh,cc⟩
   obtain⟨rfl,hi⟩:=oF hx
   rw[Int.zero_add]
   refine jD ?_
   rw[if_pos rfl]
   refine oE (ay (w_var rfl (ay (w_var rfl (aJ fun G4 c4 l4 h4=>?_)))))
   rw[hci]
   with_reducible refine vH h4 fun G5 d c5 hd h5=>⟨rfl,?_,ha++[G'.length],da++[d],?_,?_,?_,?_,?_,?_,?_⟩
   · unfold refs;rw[qM_,hl];unfold aM;omega
   · unfold refs;rw[qT_];rfl
   · simp [hl]
   · simp [hdl]
   · have hlt:∀x∈ha++da,x < G'.length:=fun x hx=>(hk x hx).2
     refine(List.Perm.nodup_iff (l₂:=(ha++da)++[G'.length,d]) ?_).mpr ?_
     · rw[List.append_assoc,List.append_assoc]
       exact List.Perm.append_left ha (show (G'.length :: (da++[d])).Perm (da++G'.length :: [d])from List.perm_middle.symm)
     · rw[List.nodup_append]
       refine⟨hnd,by simp;omega,fun x hx y hy w=>?_⟩
       have:=hlt x hx
       simp at hy
       rcases hy with q |q <;> omega
   · intro x hx
     have g:=cc.1
     have l5:=aO h5.1
     have l6:=aO h5.2
     have g5:=c5.1
     simp only[qG_,qS_,List.not_mem_nil,or_false]at hx
     rcases hx with (w |w) |(w |w)
     · have:=hk x (qF_ _ w);omega
     · omega
     · have:=hk x (qE_ _ w);omega
     · omega
   · intro j a' d' e1 e2
     by_cases z:j < i
     · rw[qK_ (by omega)]at e1
       rw[qK_ (by omega)]at e2
       have q:=hh j a' d' e1 e2
       have r1:=aO q.1
       have r2:=aO q.2
       exact(q.chg c4 (by simp) (by simp)).chg c5 (by simp;omega) (by simp;omega)
     · have z1:j=i:=by
        have:=(qB_.mp e1).1
        simp at this
        omega
       subst z1
       rw[List.getElem?_append_right (by omega)]at e1 e2
       simp [hl]at e1
       simp [hdl]at e2
       subst e1 e2
       exact h5
   · exact cc.trans (c4.trans' c5 (by intro n hn;simp at hn;rw[hn];exact .inr (qO_ _)))
 rintro acc G4 ⟨hA,dA,rfl,hhl,hdl,hnd,hk4,hh,cc4⟩
 rw[qf]at hhl hdl
 refine fun G5 c5 l5 h5=>w_var rfl ?_
 have ha5:=c5.get (cc4.get h3 (by simp)) (by simp)
 refine aV ha5 ⟨by decide,qP_ rfl⟩ fun G6 c6 l6 h6=>w_next ?_
 refine gX (gB fun G7 c7 l7 h7=>w_var rfl ?_)
 have ha7:=c7.get h6 (by simp)
 refine aV ha7 ⟨by decide,qP_ rfl⟩ fun G8 c8 l8 h8=>?_
 have g4:=cc4.1
 have na:∀x,x≠a->x∉ [a]:=fun x h z=>h (by simpa using z)
 have k8:G8[G1.length]? =some (.lst (refs ka)):=c8.get (c7.get (c6.get (c5.get (cc4.get (c3.get h2 (na _ (by omega))) (by simp)) (by simp)) (na _ (by omega))) (by simp)) (na _ (by omega))
 have r8:G8[G4.length]? =some (.lst (refs hA)):=c8.get (c7.get (c6.get h5 (na _ (by omega))) (by simp)) (na _ (by omega))
 have e8:G8[G6.length]? =some (.lst []):=c8.get h7 (na _ (by omega))
 refine va ?_
 refine hq ⟨a,G1.length,G4.length,G6.length,ka,hA,dA⟩ G8 rfl ?_ ?_ ⟨h8,k8,r8,e8,?_,?_,?_,?_,?_,?_⟩
 · exact((cc2.mono (by simp)).trans c3).trans ((((cc4.mono (by simp)).trans (c5.mono (by simp))).trans c6).trans ((c7.mono (by simp)).trans c8))
 · intro x hx
   unfold Ad.foot at hx
   simp only[qG_,qS_,List.not_mem_nil,or_false]at hx
   rcases hx with (w |w |w |w) |(w |w |w)
   · exact .inl w
   · exact .inr (by omega)
   · exact .inr (by omega)
   · exact .inr (by omega)
   · exact .inr (hk x w).1
   · have:=hk4 x (qF_ _ w);exact .inr (by omega)
   · have:=hk4 x (qE_ _ w);exact .inr (by omega)
 · unfold gx;simp [hkl]
 · unfold gx;simp [hhl]
 · unfold gx;simp [hdl]
 · intro i x k h1 h2
   have hk':=hk x (qD_ h1)
   have hlt:=aO hk'.2
   have:k=k0:=by
    have:=qD_ h2
    unfold gx at this
    exact(List.mem_replicate.mp this).2
   subst this
   exact c8.get (c7.get (c6.get (c5.get (cc4.get (c3.get (c2.get hk'.2 (by simp)) (na _ (by omega))) (by simp)) (by simp)) (na _ (by omega))) (by simp)) (na _ (by omega))
 · intro i x d h h1 h2 h3'
   have q:=hh i x d h1 h2
   have e:h=mP i c:=by
    unfold gx at h3'
    dsimp only at h3'
    rw[qQ_]at h3'
    cases w:(List.range m)[i]? with
    |none=>rw[w]at h3';cases h3'
    |some j=>
     rw[w]at h3'
     obtain⟨_,w2⟩:=qB_.mp w
     rw[List.getElem_range]at w2
     cases h3'
     rw[w2]
   subst e
   have u1:=hk4 x (qF_ _ (qD_ h1))
   have u2:=hk4 d (qE_ _ (qD_ h2))
   exact(((q.chg c5 (by simp) (by simp)).chg c6 (na _ (by omega)) (na _ (by omega))).chg c7 (by simp) (by simp)).chg c8 (na _ (by omega)) (na _ (by omega))
 · unfold Ad.foot
   dsimp only
   rw[List.nodup_append]
   refine⟨by simp;omega,?_,fun x hx z hz w=>?_⟩
   · rw[List.nodup_append]
     refine⟨hknd,hnd,fun x hx z hz w=>?_⟩
     have u1:=aO (hk x hx).2
     have u2:=hk4 z hz
     omega
   · subst w
     simp only[qS_,List.not_mem_nil,or_false]at hx
     rcases qG_.mp hz with q |q
     · have u1:=(hk x q).1
       have u2:=aO (hk x q).2
       omega
     · have:=hk4 x q
       omega
theorem uA{a c m:Nat}{ci mi:Int}(hci:ci=(c:Int))(hmi:mi=(m:Int))(ha:G[a]? =some (.ins 4 []))(hc:c<=9)(hm:m<=9)
 (hq:∀S G',S.s=a->Chg [a] G G'->(∀x∈S.all,x=a\/G.length<=x)->d0 G' S (cT c m)->Q .non G'):M3.run (iJ [.ref a,.int ci,.int mi]) G Q E:=by
 have hal:=aO ha
 have na:∀x,x≠a->x∉ [a]:=fun x h z=>h (by simpa using z)
 walk_at "f"
 unfold ol
 refine aI (gX (oE (ay (w_var rfl (ay (w_var rfl (aJ fun G1 c1 l1 h1=>?_)))))))
 refine wA hci hmi h1 hc hm fun A G2 hA c2 hf H2=>⟨rfl,w_var rfl ?_⟩
 have ns2:∀x,x < G.length->x∉ [G.length]:=fun x h z=>by simp at z;omega
 have ha2:=c2.get (c1.get ha (by simp)) (ns2 _ hal)
 refine aV ha2 ⟨by decide,qP_ rfl⟩ fun G3 c3 l3 h3=>w_next ?_
 refine aI (gX (gB fun G4 c4 l4 h4=>w_var rfl ?_))
 have ha4:=c4.get h3 (by simp)
 refine aV ha4 ⟨by decide,qP_ rfl⟩ fun G5 c5 l5 h5=>w_next ?_
 refine aI (gX (rL fun G6 c6 l6 h6=>w_var rfl ?_))
 have ha6:=c6.get h5 (by simp)
 refine aV ha6 ⟨by decide,qP_ rfl⟩ fun G7 c7 l7 h7=>w_next ?_
 refine gX (w_c (w_var rfl ?_))
 refine aV h7 ⟨by decide,qP_ rfl⟩ fun G8 c8 l8 h8=>va ?_
 have g2:=c2.1
 have hfa:∀x∈A.foot,x≠a/\G.length<=x/\x < G2.length:=fun x hx=>by
  have:=H2.lt x hx
  rcases hf x hx with w |w <;> omega
 have fr:∀{T:List Nat} {X Y:Hh},Chg T X Y->(∀n∈T,n=a)->cg X A (gx c m)->cg Y A (gx c m):=fun cc ht H=>H.frame cc fun n hn z=>(hfa n z).1 (ht n hn)
 have e1:∀n∈ [a],n=a:=by simp
 have e0:∀n∈([]:List Nat),n=a:=by simp
 have H8:=fr c8 e1 (fr c7 e1 (fr c6 e0 (fr c5 e1 (fr c4 e0 (fr c3 e1 H2)))))
 rw[<-hA]at h8
 have n1:G3.length∉ [a]:=na _ (by omega)
 have n2:G5.length∉ [a]:=na _ (by omega)
 have w8:G8[G3.length]? =some (.lst []):=c8.get (c7.get (c6.get (c5.get h4 n1) (by simp)) n1) n1
 have d8:G8[G5.length]? =some (.dK []):=c8.get (c7.get h6 n2) n2
 refine hq ⟨a,G3.length,G5.length,[],A⟩ G8 rfl ?_ ?_ ⟨h8,w8,d8,rfl,by simp,H8,?_,?_⟩
 · exact(((c1.mono (T:=[a]) (by simp)).trans' c2 (by intro n hn;simp at hn;exact .inr (by omega))).trans c3 |>.trans (c4.mono (by simp)) |>.trans c5 |>.trans (c6.mono (by simp)) |>.trans c7 |>.trans c8)
 · intro x hx
   rcases qG_.mp hx with w |w
   · unfold Sd.own at w
     simp only[qY_,qS_,List.not_mem_nil,or_false]at w
     rcases w with w |w |w
     · exact .inl w
     · exact .inr (by omega)
     · exact .inr (by omega)
   · exact .inr (hfa x w).2.1
 · unfold Sd.own
   simp
   omega
 · intro x hx z
   unfold Sd.own at hx
   simp only[qY_,qS_,List.not_mem_nil,or_false]at hx
   have:=hfa x z
   omega
theorem zX{d:bR}{s:Nat}(hs:S.s=s)(I:Iv y)(hd:y.aR<=1000)(Y:d0 G S y)
 (hq:∀v S' G',Chg S.all G G'->S.To S' G.length->d0 G' S' (bb y d).1->x8 S' G.length G' (bb y d).2 v->Q v G'):M3.run (fm [.ref s,bO d]) G Q E:=by
 subst hs
 exact AR I hd Y hq
theorem A4{ds:List bR}{i:Nat}{d:bR}(h:ds[i]? =some d)(y:Sy):dm y (ds.take (i+1))=(bb (dm y (ds.take i)) d).1/\qY y (ds.take (i+1))=qY y (ds.take i)++[(bb (dm y (ds.take i)) d).2]:=by
 rw[take_succ h,eP,zJ]
 exact⟨rfl,rfl⟩
theorem EK{a:Nat}{w:Wk}(ha:oX G a w)(hq:Q (cp w) G):M3.run (jF [.ref a]) G Q E:=by
 unfold oX wkF at ha
 walk_at "f"
 unfold ph
 walk_at "r"
 exact hq
theorem tU{f:Nat->D}{xs:List Nat}{ck:Hh->Bool}{cond:D->M Bool}{elt:D->M D}{QA:List D->Hh->Prop}(hck:ck G=true)(hz:xs.length<=1000000)
 (hc:∀x∈xs,M3.run (cond (.ref x)) G (fun c G1=>G1=G/\c=true) E) (he:∀x∈xs,M3.run (elt (.ref x)) G (fun y G1=>G1=G/\y=f x) E)
 (h:QA (xs.map f) G):M3.run (dH ck cond elt (refs xs) []) G QA E:=by
 refine iN (f:=D.ref) (p:=fun _=>true) (g:=f) hck hz hc (fun x hx _=>he x hx) ?_
 rw[List.filter_eq_self.mpr (fun _ _=>rfl)]
 exact h
theorem xX{α:Type}{as:List Nat}{ws:List α}{f:Nat->D}{g:α->D}(hl:as.length=ws.length)(h:∀(i:Nat) a w,as[i]? =some a->ws[i]? =some w->f a=g w):as.map f=ws.map g:=by
 apply List.ext_getElem?
 intro i
 rw[qQ_,qQ_]
 cases p:as[i]? with
 |none=>
  have:ws[i]? =none:=by rw[List.getElem?_eq_none_iff]at*;omega
  rw[this]
  rfl
 |some a=>
  have hi:=(qB_.mp p).1
  have:ws[i]? =some ws[i]:=qA_ (by omega)
  rw[this]
  show some (f a)=some (g _)
  rw[h i a _ p this]
def tV(G:Hh)(a:Nat):D:=match G[a]? with
 |some (.ins _ [(_,a),(_,b),(_,c),(_,d),(_,e),_])=>.tup [a,b,c,d,e]
 |_=>.non
def pj(G:Hh)(i:Nat)(a:Nat):D:=match G[a]? with
 |some (.ins _ fs)=>(fs.lookup i).getD .non
 |_=>.non
def FJ(y:Sy)(l1 l2 l3:Nat)(G:Hh):Prop:=G[l1]? =some (.lst (y.av.map cp))/\G[l2]? =some (.lst (y.av.map fun w=>stD w.mT))/\G[l3]? =some (.lst (y.au.ks.map fun k=>pD k.pair))
theorem v8{c m l:Nat}{ci mi:Int}{ds:List bR}(hci:ci=(c:Int))(hmi:mi=(m:Int))(hc:c<=9)(hm:m<=9)(hl:G[l]? =some (.lst (ds.map bO)))(hz:ds.length<=1000)
 (hq:∀l1 l2 l3 G',Chg [] G G'->G.length<=l1->G.length<=l2->G.length<=l3->FJ (dm (cT c m) ds) l1 l2 l3 G'->Q (.tup [.ref l1,.ref l2,.ref l3]) G'):M3.run (jC [.int ci,.int mi,.ref l]) G Q E:=by
 have hll:=aO hl
 walk_at "f"
 unfold pM
 refine aI (bJ (oE (ay (w_var rfl (ay (w_var rfl (aJ fun G1 c1 l1 h1=>?_)))))))
 refine uA hci hmi h1 hc hm fun S0 G2 hS c2 hf Y2=>⟨rfl,w_next ?_⟩
 walk_at "s"
 have I0:=lQ hc hm
 have c12:Chg [] G G2:=c1.trans' c2 (by intro n hn;simp at hn;rw[hn];exact .inr (qO_ _))
 have hf0:∀x∈S0.all,G.length<=x:=fun x hx=>by rcases hf x hx with w |w <;> omega
 have hl2:=c12.get hl (by simp)
 refine aI (qN (pA (w_var rfl (gO hl2 ?_))))
 refine kN (fun i σ G'=>∃S' v,σ=[some (.int ci),some (.int mi),some (.ref l),some (.ref G.length),v,none,none,none]/\Chg [] G G'/\S'.s=G.length/\(∀x∈S'.all,G.length<=x)/\d0 G' S' (dm (cT c m) (ds.take i))) ?_ ?_ ?_ ⟨S0,none,rfl,c12,hS,hf0,Y2⟩
 · rintro i σ G' ⟨S',v,_,cc,_⟩
   exact qZ_ (cc.get hl (by simp))
 · rintro i d σ G' hd ⟨S',v,rfl,cc,hs,hf',Y'⟩
   obtain⟨I',hdd,_,_⟩:=kA I0 (ds.take i)
   obtain⟨e1,e2⟩:=A4 hd (cT c m)
   have hdd':(dm (cT c m) (ds.take i)).aR<=1000:=by
    rw[hdd,List.length_take]
    show 0+_<=_
    omega
   have ho:=Y'.o
   rw[hs]at ho
   refine aK (kT ?_)
   walk_at "s"
   refine eE (bT (w_var rfl (dI ho (ay (w_var rfl (aJ ?_))))))
   refine zX hs (d:=d) I' hdd' Y' fun v S2 G2 c2 t2 Y2 A2=>?_
   have g:=cc.1
   refine⟨S2,_,rfl,cc.trans' c2 fun n hn=>.inr (hf' n hn),t2.s.trans hs,fun x hx=>?_,by rw[e1];exact Y2⟩
   rcases t2.z x hx with w |w
   · exact hf' x w
   · omega
 · rintro σ G3 ⟨S',v,rfl,cc,hs,hf',Y⟩
   rw[List.take_length]at Y
   obtain⟨I',hdd,_,_⟩:=kA I0 ds
   have hw:(dm (cT c m) ds).av.length<=1000:=by
    have:=I'.w
    rw[hdd]at this
    have:(dm (cT c m) ds).av.length<=0+ds.length:=this
    omega
   have hk9:=I'.W.W.ksz
   generalize dm (cT c m) ds=y at*
   have ho:=Y.o
   rw[hs]at ho
   refine w_next ?_
   have hwa:∀a∈S'.wa,∃w,oX G3 a w:=fun a ha=>by
    obtain⟨i,hi,e⟩:=List.getElem_of_mem ha
    have h1:S'.wa[i]? =some a:=by rw[qA_ hi,e]
    exact⟨_,Y.wk i a _ h1 (qA_ (by rw[<-Y.wl];exact hi))⟩
   refine aI (bJ (iE (pA (w_fld (w_var rfl (bI ho (by decide) rfl (gO Y.w ?_)))))))
   refine tU (f:=tV G3) (qZ_ Y.w) (by rw[Y.wl];omega) (fun x _=>jD ⟨rfl,rfl⟩) (fun x hx=>?_) ?_
   · obtain⟨w,hw⟩:=hwa x hx
     have hw0:=hw
     unfold oX wkF at hw0
     refine bT (w_var rfl (dI hw0 (aJ ?_)))
     refine EK hw ⟨rfl,?_⟩
     unfold tV
     rw[hw0]
     rfl
   have em1:S'.wa.map (tV G3)=y.av.map cp:=xX Y.wl fun i a w h1 h2=>by
    have:=Y.wk i a w h1 h2
    unfold oX wkF at this
    unfold tV
    rw[this]
    rfl
   rw[em1]
   intro G4 c4 l4 h4
   refine w_next ?_
   walk_at "s"
   have Y4:=Y.frame c4 (by simp)
   have ho4:=c4.get ho (by simp)
   have hwa4:∀a∈S'.wa,∃w,oX G4 a w:=fun a ha=>by
    obtain⟨w,hw⟩:=hwa a ha
    exact⟨w,c4.get hw (by simp)⟩
   refine aI (bJ (iE (pA (w_fld (w_var rfl (bI ho4 (by decide) rfl (gO Y4.w ?_)))))))
   refine tU (f:=pj G4 16) (qZ_ Y4.w) (by rw[Y4.wl];omega) (fun x _=>jD ⟨rfl,rfl⟩) (fun x hx=>?_) ?_
   · obtain⟨w,hw⟩:=hwa4 x hx
     unfold oX wkF at hw
     refine w_fld (w_var rfl (bI hw (by decide) rfl ⟨rfl,?_⟩))
     unfold pj
     rw[hw]
     rfl
   have em2:S'.wa.map (pj G4 16)=y.av.map fun w=>stD w.mT:=xX Y4.wl fun i a w h1 h2=>by
    have:=Y4.wk i a w h1 h2
    unfold oX wkF at this
    unfold pj
    rw[this]
    rfl
   rw[em2]
   intro G5 c5 l5 h5
   refine w_next ?_
   walk_at "s"
   have Y5:=Y4.frame c5 (by simp)
   have ho5:=c5.get ho4 (by simp)
   have hh5:=Y5.H.o
   have hka:∀a∈S'.A.ka,∃k,ja G5 a k:=fun a ha=>by
    obtain⟨i,hi,e⟩:=List.getElem_of_mem ha
    have h1:S'.A.ka[i]? =some a:=by rw[qA_ hi,e]
    exact⟨_,Y5.H.kr i a _ h1 (qA_ (by rw[<-Y5.H.kl];exact hi))⟩
   refine aI (bJ (iE (pA (w_fld (w_fld (w_var rfl (bI ho5 (by decide) rfl (bI hh5 (by decide) rfl (gO Y5.H.k ?_)))))))))
   refine tU (f:=pj G5 4) (qZ_ Y5.H.k) (by rw[Y5.H.kl];omega) (fun x _=>jD ⟨rfl,rfl⟩) (fun x hx=>?_) ?_
   · obtain⟨w,hw⟩:=hka x hx
     unfold ja krF at hw
     refine w_fld (w_var rfl (bI hw (by decide) rfl ⟨rfl,?_⟩))
     unfold pj
     rw[hw]
     rfl
   have em3:S'.A.ka.map (pj G5 4)=y.au.ks.map fun k=>pD k.pair:=xX Y5.H.kl fun i a w h1 h2=>by
    have:=Y5.H.kr i a w h1 h2
    unfold ja krF at this
    unfold pj
    rw[this]
    rfl
   rw[em3]
   intro G6 c6 l6 h6
   have g3:=cc.1
   refine w_next ?_
   walk_at "s"
   walk_at "r"
   exact hq G3.length G4.length G5.length G6 (((cc.trans c4).trans c5).trans c6) (by omega) (by omega) (by omega) ⟨c6.get (c5.get h4 (by simp)) (by simp),c6.get h5 (by simp),h6⟩
end
def DIn(c m:Nat):bR->Prop
 | .wr i _=>0<=i/\i < (m:Int)
 | .rd i=>0<=i/\i < (m:Int)
 | .ca _ _=>True
 | .pa i j=>(0<=i/\i < (m:Int))/\(0<=j/\j < (c:Int))
 | .sw=>True
 | .ag i=>0<=i/\i < (m:Int)
 | .qu i=>0<=i/\i < (m:Int)
 | .st j=>0<=j/\j < (c:Int)
 | .wa j=>0<=j/\j < (c:Int)
section
variable{G G':Hh}{Q:D->Hh->Prop}{E:Nat->Hh->Prop}{σ:St}
theorem p8{xs:List Int}{i:Int}(h0:0<=i)(h1:i < (xs.length:Int)):∃v∈xs,atI (xs.map D.int) i=some (.int v):=by
 have hl:i.toNat < xs.length:=by omega
 exact⟨xs[i.toNat],List.getElem_mem hl,A1 h0 (qA_ hl)⟩
theorem jq{i:Int}(h:Q (.bl true) G):M3.run (fT [.int i]) G Q E:=by
 walk_at "f"
 unfold yQ
 walk_at "r"
 exact h
theorem FI{l:Nat}{ns:List Int}{k:Nat}(hl:G[l]? =some (.frz (ns.map D.int)))(h:∀v:Int,Q (.int v) G):M3.run (xj [.ref l,.int (k:Int)]) G Q E:=by
 unfold xj
 with_reducible refine M3.FL rfl ?_
 simp only[List.map_cons,List.map_nil,List.cons_append,qc_]
 unfold He
 walk_at "r"
 with_reducible refine Ez hl ?_
 walk_at "r"
 refine w_ite (fun z=>?_) fun z=>?_
 · have z':=of_decide_eq_true z
   rw[qM_]at z'
   obtain⟨v,_,e⟩:=p8 (xs:=ns) (i:=(k:Int)) (by omega) z'
   walk_at "r"
   with_reducible refine Ib hl e ?_
   walk_at "r"
   exact h v
 · walk_at "r"
   exact h 0
def Zn(n:Int):Str:=Txt.mul "0" n
theorem tza{i:Int}(h0:0<=i)(h1:i<=1000)(h:Q (.str (Zn i)) G):M3.run (gH (.str "0") (.int i)) G Q E:=by
 have c:(0:Int)<=i/\i<=1000/\("0":Str).length<=1000:=⟨h0,h1,by decide +kernel⟩
 show M3.run (if (0:Int)<=i/\i<=1000/\("0":Str).length<=1000 then ret (D.str (Txt.mul "0" i))else fail) G _ E
 rw[if_pos c]
 exact h
theorem IZ:intText? (("1":Str)++Zn 88)=some (10 ^ 88):=by decide +kernel
theorem Ir:intText? (("1":Str)++Zn 90)=some (10 ^ 90):=by decide +kernel
theorem Iy:(("1":Str)++Zn 88).length<=640:=by decide +kernel
theorem IF:(("1":Str)++Zn 90).length<=640:=by decide +kernel
theorem tzc{s:Str}{i:Int}(hn:intText? s=some i)(hl:s.length<=640)(h:Q (.int i) G):M3.run (uH [.str s]) G Q E:=by
 refine aW (a:= .int i) (G':=G) ?_ h
 unfold uH
 dsimp only
 rw[hn]
 dsimp only
 rw[if_pos hl]
theorem xV{c k:Int}(h:∀v G',Ext G G'->Q (.int v) G'):M3.run (kB [.int c,.int k]) G Q E:=by
 walk_at "f"
 unfold qC
 walk_at "r"
 refine tza (by decide) (by decide) ?_
 walk_at "r"
 refine AU (by decide +kernel) ?_
 walk_at "r"
 refine tzc IZ Iy ?_
 refine jI (by decide) ?_
 walk_at "r"
 have i1:0<=c*48271 % 1009 % 6:=Int.emod_nonneg _ (by decide)
 have i2:c*48271 % 1009 % 6 < 6:=Int.emod_lt_of_pos _ (by decide)
 obtain⟨v,_,e⟩:=p8 (xs:=[k+1,0 - k - 1,1000*k+7,c % 10 ^ 88*100+k,0 - (c % 10 ^ 88*100+k),0]) i1 i2
 refine fz (bK _ _) e ?_
 walk_at "r"
 exact h v _ (Ext.add _ _)
theorem Ac{a b:D}{i:Int}(h0:0<=i)(h1:i < 2):atI [a,b] i=some a\/atI [a,b] i=some b:=by
 have:i=0\/i=1:=by omega
 rcases this with rfl |rfl
 · exact .inl rfl
 · exact .inr rfl
theorem zw{c m:Nat}{x k ci mi:Int}(hci:ci=(c:Int))(hmi:mi=(m:Int))(hc:0 < c)(hm:0 < m)(h:∀d G',Ext G G'->DIn c m d->Q (bO d) G'):M3.run (jX [.int x,.int k,.int ci,.int mi]) G Q E:=by
 have e0:=Ext.refl G
 walk_at "f"
 unfold sU
 walk_at "r"
 refine jI (by omega) ?_
 walk_at "r"
 refine jI (by omega) ?_
 have a1:0<=x*48271 % 1019 % mi:=Int.emod_nonneg _ (by omega)
 have a2:x*48271 % 1019 % mi < (m:Int):=by rw[<-hmi];exact Int.emod_lt_of_pos _ (by omega)
 have b1:0<=x*48271 % 1021 % ci:=Int.emod_nonneg _ (by omega)
 have b2:x*48271 % 1021 % ci < (c:Int):=by rw[<-hci];exact Int.emod_lt_of_pos _ (by omega)
 generalize x*48271 % 1019 % mi=hh at*
 generalize x*48271 % 1021 % ci=kk at*
 have w1:0<=x*48271 % 1013 % 20:=Int.emod_nonneg _ (by decide)
 have w2:x*48271 % 1013 % 20 < 20:=Int.emod_lt_of_pos _ (by decide)
 generalize x*48271 % 1013 % 20=way at*
 walk_at "r"
 refine w_ite (fun z=>?_) fun z1=>?_
 · walk_at "r"
   refine xV fun v G1 e1=>?_
   walk_at "r"
   exact h (.wr hh v) G1 e1 ⟨a1,a2⟩
 walk_at "r"
 refine w_ite (fun z=>?_) fun z2=>?_
 · walk_at "r"
   exact h (.rd hh) G e0 ⟨a1,a2⟩
 walk_at "r"
 refine w_ite (fun z=>?_) fun z3=>?_
 · walk_at "r"
   exact h (.pa hh kk) G e0 ⟨⟨a1,a2⟩,b1,b2⟩
 walk_at "r"
 refine w_ite (fun z=>?_) fun z4=>?_
 · walk_at "r"
   refine w_eq (by rfl) ?_
   walk_at "r"
   refine w_ite (fun z=>?_) fun z=>?_
   · walk_at "r"
     refine tza (by decide) (by decide) ?_
     walk_at "r"
     refine AU (by decide +kernel) ?_
     walk_at "r"
     refine tzc Ir IF ?_
     refine jI (by decide) ?_
     walk_at "r"
     exact h (.ca _ _) G e0 trivial
   · walk_at "r"
     exact h (.ca _ _) G e0 trivial
 have z4:=of_decide_eq_false z4
 walk_at "r"
 refine w_eq (by rfl) ?_
 walk_at "r"
 refine w_ite (fun z=>?_) fun z5=>?_
 · walk_at "r"
   exact h (.ag hh) G e0 ⟨a1,a2⟩
 have z5:=of_decide_eq_false z5
 walk_at "r"
 refine w_eq (by rfl) ?_
 walk_at "r"
 refine w_ite (fun z=>?_) fun z6=>?_
 · walk_at "r"
   have i1:0<=x*48271 % 1039 % 2:=Int.emod_nonneg _ (by decide)
   have i2:x*48271 % 1039 % 2 < 2:=Int.emod_lt_of_pos _ (by decide)
   rcases Ac (a:= .tup [.str "quit",.int hh]) (b:= .tup [.str "sweep"]) i1 i2 with e |e
   · refine fz (bK _ _) e ?_
     walk_at "r"
     exact h (.qu hh) _ (Ext.add _ _) ⟨a1,a2⟩
   · refine fz (bK _ _) e ?_
     walk_at "r"
     exact h .sw _ (Ext.add _ _) trivial
 have z6:=of_decide_eq_false z6
 walk_at "r"
 rcases Ac (a:= .tup [.str "stop",.int kk]) (b:= .tup [.str "wake",.int kk]) (i:=way - 16) (by omega) (by omega)with e |e
 · refine fz (bK _ _) e ?_
   walk_at "r"
   exact h (.st kk) _ (Ext.add _ _) ⟨b1,b2⟩
 · refine fz (bK _ _) e ?_
   walk_at "r"
   exact h (.wa kk) _ (Ext.add _ _) ⟨b1,b2⟩
theorem CB{i j:Nat}{xs:List D}(h1:G[i]? =some (.lst xs))(h2:G[j]? =some (.lst []))(h:Q (.bl (!xs.isEmpty)) G):M3.run (oNe (.ref i) (.ref j)) G Q E:=by
 refine pW (b:=xs.isEmpty) ?_ h
 have e1:M3.listOf G i=some xs:=by unfold M3.listOf;rw[h1]
 have e2:M3.listOf G j=some []:=by unfold M3.listOf;rw[h2]
 unfold eqG
 dsimp only
 rw[e1,e2]
 dsimp only
 cases xs with
 |nil=>rfl
 |cons a r=>rw[if_neg (by simp)];rfl
theorem ke{i j:Nat}{a b:List D}(h1:G[i]? =some (.lst a))(h2:G[j]? =some (.lst b))(hl:a.length+b.length<=aM)(h:∀G',Chg [] G G'->G'.length=G.length+1->G'[G.length]? =some (.lst (a++b))->Q (.ref G.length) G'):M3.run (gC (.ref i) (.ref j)) G Q E:=
 Be h1 h2 hl (h _ (Chg.add _ _) (by simp) (bK _ _))
theorem iq{a:A3}(h:M3.run (a σ) G (fun xs G1=>xs.length<=aM/\∀G2,Chg [] G1 G2->G2.length=G1.length+1->G2[G1.length]? =some (.lst xs)->Q (.ref G1.length) G2) E):M3.run (fu a σ) G Q E:=
 BG (aC h (fun xs G1 ⟨q1,q2⟩=>⟨q1,q2 _ (Chg.add _ _) (by simp) (bK _ _)⟩) fun _ _ z=>z)
theorem zd{c m:Nat}{x ci mi:Int}(hci:ci=(c:Int))(hmi:mi=(m:Int))(hc:0 < c)(hm:0 < m)
 (h:∀(ds:List bR) l G',Chg [] G G'->G.length<=l->ds.length<=10->(∀d∈ds,DIn c m d)->G'[l]? =some (.lst (ds.map bO))->Q (.ref l) G'):M3.run (mv [.int x,.int ci,.int mi]) G Q E:=by
 walk_at "f"
 unfold sL
 walk_at "r"
 refine w_eq (by rfl) ?_
 walk_at "r"
 refine w_ite (fun z=>?_) fun z=>?_
 · refine aI ?_
   refine bJ ?_
   refine iq ?_
   walk_at "r"
   intro G1 c1 l1 h1
   refine w_next ?_
   walk_at "s"
   refine cS (bc (w_var rfl ?_))
   refine iq ?_
   walk_at "r"
   intro G2 c2 l2 h2
   refine ke (c2.get h1 (by simp)) h2 (qP_ (by with_unfolding_all rfl)) fun G3 c3 l3 h3=>?_
   walk_at "r"
   refine h [.wr 0 7,.ca 0 true,.ca 0 true,.ca ci false,.ca ci false] G2.length G3 ((c1.trans c2).trans c3) (by omega) (by simp) ?_ h3
   intro d hd
   simp only[qS_,List.not_mem_nil,or_false]at hd
   rcases hd with rfl |rfl |rfl |rfl |rfl
   · exact⟨by decide,by omega⟩
   all_goals trivial
 walk_at "r"
 refine w_ite (fun z1=>?_) fun z1=>?_
 · walk_at "r"
   refine w_eq (by rfl) ?_
   walk_at "r"
   refine w_ite (fun z2=>?_) fun z2=>?_
   · have z2:=of_decide_eq_true z2
     walk_at "r"
     refine w_ite (fun z3=>?_) fun z3=>?_
     · have z3:=of_decide_eq_true z3
       refine aI ?_
       refine bJ ?_
       refine iq ?_
       walk_at "r"
       intro G1 c1 l1 h1
       refine w_next ?_
       walk_at "s"
       refine aI (eE (wz (w_var rfl (jy h1 ?_))))
       refine iq ?_
       walk_at "r"
       intro G2 c2 l2 h2
       refine jd (c2.get h1 (by simp)) h2 (by decide) fun G3 c3 l3 h3=>?_
       refine w_next ?_
       refine aI (eE (wz (w_var rfl (jy h3 ?_))))
       refine iq ?_
       walk_at "r"
       intro G4 c4 l4 h4
       refine jd (c4.get h3 (by simp)) h4 (by decide) fun G5 c5 l5 h5=>?_
       refine w_next ?_
       refine cS (bc (w_var rfl ?_))
       refine iq ?_
       walk_at "r"
       intro G6 c6 l6 h6
       refine ke (c6.get h5 (by simp)) h6 (by decide) fun G7 c7 l7 h7=>?_
       walk_at "r"
       have c13:Chg [] G G3:=(c1.trans c2).trans' c3 (by intro n hn;simp at hn;exact .inr (by omega))
       have c15:Chg [] G G5:=(c13.trans c4).trans' c5 (by intro n hn;simp at hn;exact .inr (by omega))
       refine h [.rd 0,.ca 0 true,.wr 1 9,.pa 1 0,.pa 1 1,.pa 1 0,.ca 0 true,.ca 6 false,.ca 3 false,.pa 0 2] G6.length G7 ((c15.trans c6).trans c7) (by omega) (by simp) ?_ h7
       intro d hd
       simp only[qS_,List.not_mem_nil,or_false]at hd
       rcases hd with rfl |rfl |rfl |rfl |rfl |rfl |rfl |rfl |rfl |rfl
       · exact⟨by decide,by omega⟩
       · trivial
       · exact⟨by decide,by omega⟩
       · exact⟨⟨by decide,by omega⟩,by decide,by omega⟩
       · exact⟨⟨by decide,by omega⟩,by decide,by omega⟩
       · exact⟨⟨by decide,by omega⟩,by decide,by omega⟩
       · trivial
       · trivial
       · trivial
       · exact⟨⟨by decide,by omega⟩,by decide,by omega⟩
     · walk_at "r"
       exact h [] _ _ (Chg.add _ _) (qO_ _) (by simp) (by simp) (bK _ _)
   · walk_at "r"
     exact h [] _ _ (Chg.add _ _) (qO_ _) (by simp) (by simp) (bK _ _)
 · walk_at "r"
   exact h [] _ _ (Chg.add _ _) (qO_ _) (by simp) (by simp) (bK _ _)
theorem DF{c m l:Nat}{ci mi:Int}{ns:List Int}(hci:ci=(c:Int))(hmi:mi=(m:Int))(hc:0 < c)(hm:0 < m)(hl:G[l]? =some (.lst (ns.map D.int)))(hz:ns.length<=16)
 (h:∀(ds:List bR) ld G',Chg [] G G'->G.length<=ld->ds.length<=26->(∀d∈ds,DIn c m d)->G'[ld]? =some (.lst (ds.map bO))->Q (.ref ld) G'):M3.run (qh [.ref l,.int ci,.int mi]) G Q E:=by
 have hll:=aO hl
 walk_at "f"
 unfold yC
 refine aI (bJ (gB fun G1 c1 l1 h1=>w_next ?_))
 walk_at "s"
 have hl1:=c1.get hl (by simp)
 have loop:∀(ds:List bR) (ld:Nat) (G2:Hh),Chg [] G G2->G.length<=ld->ds.length<=10->(∀d∈ds,DIn c m d)->G2[ld]? =some (.lst (ds.map bO))->
  M3.run ((aD (kJ (gI (aP fw (ah (af 0) ax))) (gNm 4) (cY (pY (af 3) (aP jX (ah (eOp gC (eOp oIx (af 0) (af 4)) (eOp gH (eC (.int 7)) (af 4))) (ah (af 4) (ah (af 1) (ah (af 2) ax)))))))) (aU (af 3))) [some (.ref l),some (.int ci),some (.int mi),some (.ref ld),none]) G2 (fun r G3=>M3.run (fK r) G3 Q E) E:=by
  intro ds ld G2 c2 g2 hd hin h2
  have hl2:=c2.get hl (by simp)
  walk_at "r"
  refine fR hl2 ?_
  rw[qM_]
  with_reducible refine lK (by omega) ?_
  refine qW (fun i σ G'=>∃(ds:List bR) (v:Option D),σ=[some (.ref l),some (.int ci),some (.int mi),some (.ref ld),v]/\Chg [] G G'/\ds.length<=10+i/\(∀d∈ds,DIn c m d)/\G'[ld]? =some (.lst (ds.map bO))) ?_ ?_ ⟨ds,none,rfl,c2,hd,hin,h2⟩
  · rintro i σ G3 hi ⟨ds,v,rfl,c3,hd,hin,h3⟩
    have hn:ns[i]? =some ns[i]:=qA_ hi
    have hix:=lR (f:=D.int) hn
    generalize ns[i]=nv at*
    have hi':(i:Int)<=16:=by omega
    generalize (i:Int)=ii at*
    refine aK (kT ?_)
    walk_at "s"
    refine eE (qT (w_var rfl (jy h3 ?_)))
    refine dq (ay (bc (bc (w_var rfl (w_var rfl (fz (c3.get hl (by simp)) hix ?_))))))
    walk_at "r"
    refine zw hci hmi hc hm fun d G4 e4 din=>?_
    refine gf (e4.get h3) (by rw[qM_];unfold aM;omega) fun G5 c5 l5 h5=>?_
    refine⟨ds++[d],_,rfl,(c3.trans (Ext.chg e4)).trans' c5 (by intro n hn;simp at hn;exact .inr (by omega)),by simp;omega,?_,by rw[qT_];exact h5⟩
    intro x hx
    rcases qG_.mp hx with w |w
    · exact hin x w
    · simp at w;rw[w];exact din
  · rintro σ G3 ⟨ds,v,rfl,c3,hd,hin,h3⟩
    walk_at "r"
    exact h ds ld G3 c3 g2 (by omega) hin h3
 refine aI (fQ (jJ (bc (w_var rfl ?_))))
 refine gB fun G2 c2 l2 h2=>?_
 have hl2:=c2.get hl1 (by simp)
 refine CB hl2 h2 ?_
 cases ns with
 |nil=>
  walk_at "r"
  exact loop [] G.length G2 (c1.trans c2) (qO_ _) (by simp) (by simp) (c2.get h1 (by simp))
 |cons a r=>
  dsimp only[List.map,List.isEmpty]
  walk_at "r"
  refine fz (d:= .int a) hl2 (lR (f:=D.int) (xs:=a :: r) (i:=0) rfl) ?_
  walk_at "r"
  refine zd hci hmi hc hm fun ds ld G3 c3 hld hd hin h3=>?_
  refine w_next ?_
  walk_at "s"
  exact loop ds ld G3 ((c1.trans c2).trans c3) (by omega) hd hin h3
theorem rO{s:Int×Int}(h:Q (.bl true) G):M3.run (gM [.tup [.int s.1,.int s.2]]) G Q E:=by
 walk_at "f"
 unfold qF
 walk_at "r"
 refine pW (b:=true) rfl ?_
 walk_at "r"
 refine jq ?_
 walk_at "r"
 refine jq ?_
 walk_at "r"
 exact h
theorem zZ{p:Pr}(h:Q (.bl true) G):M3.run (mj [pD p]) G Q E:=by
 unfold pD
 walk_at "f"
 unfold sM
 walk_at "r"
 refine pW (b:=true) rfl ?_
 walk_at "r"
 refine rO (s:=p.1) ?_
 walk_at "r"
 refine jq ?_
 walk_at "r"
 exact h
theorem xY(o:Option Nat):decide (nD o= .non)=o.isNone:=by cases o <;> rfl
theorem zB{w:Wk}(h:Q (.bl true) G):M3.run (lU [cp w]) G Q E:=by
 unfold cp
 walk_at "f"
 unfold tu
 walk_at "r"
 refine pW (b:=true) rfl ?_
 generalize (w.hand:Int)=wh
 generalize (w.beg:Int)=wb
 walk_at "r"
 refine jq ?_
 walk_at "r"
 refine jq ?_
 walk_at "r"
 rw[A0]
 cases hv:w.val with
 |none=>
  dsimp only[Option.isNone]
  walk_at "r"
  rw[xY]
  cases he:w.en with
  |none=>
   dsimp only[Option.isNone]
   walk_at "r"
   exact h
  |some e=>
   dsimp only[Option.isNone]
   walk_at "r"
   refine jq (i:=(e:Int)) ?_
   walk_at "r"
   exact h
 |some v=>
  dsimp only[Option.isNone]
  simp only[oD]
  walk_at "r"
  refine jq ?_
  walk_at "r"
  rw[xY]
  cases he:w.en with
  |none=>
   dsimp only[Option.isNone]
   walk_at "r"
   exact h
  |some e=>
   dsimp only[Option.isNone]
   walk_at "r"
   refine jq (i:=(e:Int)) ?_
   walk_at "r"
   exact h
end
section
variable{G G':Hh}{Q:D->Hh->Prop}{E:Nat->Hh->Prop}{σ:St}{y:Sy}
theorem FW{xs:List D}{QI:Src->Hh->Prop}(h:QI ⟨xs,fun _=>true⟩ G):M3.run (srcOf (.tup xs)) G QI E:=h
theorem vf{l1 l2 l3 c:Nat}{ci:Int}(hci:ci=(c:Int))(A:FJ y l1 l2 l3 G)(hk:y.au.ks.length=c)(h:Q (.bl true) G):M3.run (jA [.tup [.ref l1,.ref l2,.ref l3],.int ci]) G Q E:=by
 obtain⟨h1,h2,h3⟩:=A
 walk_at "f"
 unfold pG
 walk_at "r"
 refine pW (b:=true) rfl ?_
 walk_at "r"
 refine FW ?_
 refine kN (f:=fun d:D=>d) (xs:=[.ref l1,.ref l2,.ref l3]) (fun i σ G'=>G'=G/\∃v,σ=[some (.tup [.ref l1,.ref l2,.ref l3]),some (.int ci),v,none,none,none]) (fun _ _ _ _=>rfl) ?_ ?_ ⟨rfl,none,rfl⟩
 · rintro i d σ G' hd ⟨rfl,v,rfl⟩
   have:d= .ref l1\/d= .ref l2\/d= .ref l3:=by
    have:=qD_ hd
    simpa using this
   rcases this with rfl |rfl |rfl
   · walk_at "r"
     refine ko h1 ?_
     walk_at "r"
     exact⟨rfl,_,rfl⟩
   · walk_at "r"
     refine ko h2 ?_
     walk_at "r"
     exact⟨rfl,_,rfl⟩
   · walk_at "r"
     refine ko h3 ?_
     walk_at "r"
     exact⟨rfl,_,rfl⟩
 rintro σ G' ⟨rfl,v,rfl⟩
 walk_at "r"
 refine gO h1 ?_
 refine kN (fun i σ G1=>G1=G'/\∃u,σ=[some (.tup [.ref l1,.ref l2,.ref l3]),some (.int ci),v,u,none,none]) ?_ ?_ ?_ ⟨rfl,none,rfl⟩
 · rintro i σ G1 ⟨rfl,_⟩
   exact qZ_ h1
 · rintro i w σ G1 hw ⟨rfl,u,rfl⟩
   refine aK (kT ?_)
   walk_at "s"
   refine fQ (oV (nS (dq (ay (w_var rfl (aJ ?_))))))
   refine zB ?_
   walk_at "r"
   exact⟨rfl,_,rfl⟩
 rintro σ G1 ⟨rfl,u,rfl⟩
 walk_at "r"
 refine gO h2 ?_
 refine kN (fun i σ G2=>G2=G1/\∃u',σ=[some (.tup [.ref l1,.ref l2,.ref l3]),some (.int ci),v,u,u',none]) ?_ ?_ ?_ ⟨rfl,none,rfl⟩
 · rintro i σ G2 ⟨rfl,_⟩
   exact qZ_ h2
 · rintro i w σ G2 hw ⟨rfl,u',rfl⟩
   refine aK (kT ?_)
   walk_at "s"
   cases hs:w.mT with
   |none=>
    simp only[stD]
    refine fQ (xw (jJ (t6 (w_var rfl (qR (iy ?_))))))
    rw[if_neg (by decide)]
    walk_at "r"
    exact⟨rfl,_,rfl⟩
   |some s=>
    refine fQ (xw (jJ (t6 (w_var rfl (qR (iy ?_))))))
    rw[if_pos (by rfl)]
    refine oV (nS (dq (ay (w_var rfl (aJ ?_)))))
    refine rO (s:=s) ?_
    walk_at "r"
    exact⟨rfl,_,rfl⟩
 rintro σ G2 ⟨rfl,u',rfl⟩
 walk_at "r"
 refine gO h3 ?_
 refine kN (fun i σ G3=>G3=G2/\∃u'',σ=[some (.tup [.ref l1,.ref l2,.ref l3]),some (.int ci),v,u,u',u'']) ?_ ?_ ?_ ⟨rfl,none,rfl⟩
 · rintro i σ G3 ⟨rfl,_⟩
   exact qZ_ h3
 · rintro i k σ G3 hw ⟨rfl,u'',rfl⟩
   refine aK (kT ?_)
   walk_at "s"
   refine fQ (oV (nS (dq (ay (w_var rfl (aJ ?_))))))
   refine zZ ?_
   walk_at "r"
   exact⟨rfl,_,rfl⟩
 rintro σ G3 ⟨rfl,u'',rfl⟩
 refine w_next ?_
 refine cS (Am ?_)
 refine bc (dq (ay (bc (w_var rfl (w_c (cy rfl (aJ ?_)))))))
 refine fR h1 ?_
 refine dq (ay (bc (w_var rfl (w_c (cy rfl (aJ ?_))))))
 refine fR h2 ?_
 refine w_eq (b:=true) ?_ ?_
 · rw[qM_,qM_,eq_int]
   simp
 walk_at "r"
 refine fR h3 ?_
 walk_at "r"
 refine w_eq (b:=true) ?_ ?_
 · rw[qM_,eq_int,hk,hci]
   simp
 walk_at "r"
 exact h
theorem qU{f:D->D->Option Bool}:∀{xs:List D},(∀x∈xs,f x x=some true)->eqZ f xs xs=some true
 | [],_=>rfl
 |a :: r,h=>by
  unfold eqZ
  rw[h a qI_,qU fun x hx=>h x (qR_ _ hx)]
  rfl
theorem jf{k:Nat}{xs:List D}(h:∀x∈xs,eqG G k x x=some true):eqG G (k+1) (.tup xs) (.tup xs)=some true:=by
 show (eqZ (eqG G k) xs xs).map (·&&decide (xs.length=xs.length))=some true
 rw[qU h]
 simp
theorem eJ{k:Nat}(i:Int):eqG G (k+1) (.int i) (.int i)=some true:=by show some (decide (i=i))=_;simp
theorem gz{k:Nat}(i:Str):eqG G (k+1) (.str i) (.str i)=some true:=by show some (decide (i=i))=_;simp
theorem E2{k:Nat}(i:Bool):eqG G (k+1) (.bl i) (.bl i)=some true:=by show some (i==i)=_;simp
theorem all1{P:D->Prop}{a:D}(h1:P a):∀x∈ [a],P x:=by simp [h1]
theorem all2{P:D->Prop}{a b:D}(h1:P a)(h2:P b):∀x∈ [a,b],P x:=by simp [h1,h2]
theorem EA{P:D->Prop}{a b c:D}(h1:P a)(h2:P b)(h3:P c):∀x∈ [a,b,c],P x:=by simp [h1,h2,h3]
theorem CL(d:bR)(k:Nat):eqG G (k+2) (bO d) (bO d)=some true:=by
 cases d with
 |wr i v=>exact jf (EA (gz _) (eJ _) (eJ _))
 |rd i=>exact jf (all2 (gz _) (eJ _))
 |ca n s=>exact jf (EA (gz _) (eJ _) (E2 _))
 |pa i j=>exact jf (EA (gz _) (eJ _) (eJ _))
 |sw=>exact jf (all1 (gz _))
 |ag i=>exact jf (all2 (gz _) (eJ _))
 |qu i=>exact jf (all2 (gz _) (eJ _))
 |st i=>exact jf (all2 (gz _) (eJ _))
 |wa i=>exact jf (all2 (gz _) (eJ _))
theorem eq_list{i j k:Nat}{xs:List D}(h1:G[i]? =some (.lst xs))(h2:G[j]? =some (.lst xs))(h:∀x∈xs,eqG G k x x=some true):eqG G (k+1) (.ref i) (.ref j)=some true:=by
 have e1:M3.listOf G i=some xs:=by unfold M3.listOf;rw[h1]
 have e2:M3.listOf G j=some xs:=by unfold M3.listOf;rw[h2]
 unfold eqG
 dsimp only
 rw[e1,e2]
 dsimp only
 rw[if_pos rfl]
 exact qU h
theorem rk{c m l:Nat}{ci mi:Int}{ds:List bR}(hci:ci=(c:Int))(hmi:mi=(m:Int))(hc:c<=9)(hm:m<=9)(hl:G[l]? =some (.lst (ds.map bO)))(hz:ds.length<=1000)
 (hq:∀l1 l2 l3 G',Chg [] G G'->G.length<=l1->G.length<=l2->G.length<=l3->FJ (dm (cT c m) ds) l1 l2 l3 G'->Q (.tup [.ref l1,.ref l2,.ref l3]) G'):M3.run (i0 [.int ci,.int mi,.ref l]) G Q E:=by
 have hll:=aO hl
 walk_at "f"
 unfold rl
 refine aI (bJ (dq (ay (w_var rfl (aJ ?_)))))
 refine CT hl ?_
 have c1:Chg [] G (G++[O.lst (ds.map bO)]):=Chg.add _ _
 have h1:=bK G (.lst (ds.map bO))
 have l1:(G++[O.lst (ds.map bO)]).length=G.length+1:=by simp
 generalize G++[O.lst (ds.map bO)]=G1 at*
 refine w_next ?_
 walk_at "s"
 refine aI (bJ (dq (ay (w_var rfl (ay (w_var rfl (ay (w_var rfl (aJ ?_)))))))))
 refine v8 hci hmi hc hm h1 hz fun a1 a2 a3 G2 c2 g1 g2 g3 A=>?_
 refine w_next ?_
 walk_at "s"
 refine aI (fQ (vz (jJ (bc (w_var rfl (w_var rfl ?_))))))
 refine pW (b:=true) (eq_list (c2.get h1 (by simp)) ((c1.trans c2).get hl (by simp)) fun x hx=>?_) ?_
 · obtain⟨d,_,rfl⟩:=qH_.mp hx
   exact CL d 5
 walk_at "r"
 have hk:(dm (cT c m) ds).au.ks.length=c:=by
  rw[(kA (lQ hc hm) ds).2.2.2]
  show (List.replicate c k0).length=c
  simp
 refine vf hci A hk ?_
 walk_at "r"
 exact hq a1 a2 a3 G2 (c1.trans c2) (by omega) (by omega) (by omega) A
end
def asg(hs:List Hd):List (Nat×Nat)->Nat->Option (Int×Int)
 | [],_=>none
 |e :: r,q=>match asg hs r q with
  |some s=>some s
  |none=>if e.2=q then ((hs[e.1]?).bind (·.pair)).map (·.1)else none
def app(o:Option (Int×Int))(w:Wk):Wk:=match o with
 |none=>w
 |some s=>{w with mT:=some s}
theorem zh(y:Sy)(e:Nat×Nat)(q:Nat):(bV y e).av[q]? =(y.av[q]?).map (app (if e.2=q then ((y.au.hs[e.1]?).bind (·.pair)).map (·.1)else none)):=by
 unfold bV
 cases hp:(y.au.hs[e.1]?).bind (·.pair)with
 |none=>
  have e0:(if e.2=q then Option.map (·.1) (none:Option Pr)else none)=none:=by split <;> rfl
  rw[e0]
  show y.av[q]? =(y.av[q]?).map (app none)
  cases y.av[q]? <;> rfl
 |some p=>
  unfold jR
  cases hw:y.av[e.2]? with
  |none=>
   dsimp only
   by_cases z:e.2=q
   · subst z;rw[hw];rfl
   · rw[if_neg z];cases y.av[q]? <;> rfl
  |some w=>
   dsimp only
   by_cases z:e.2=q
   · subst z
     rw[if_pos rfl,qU_ (qB_.mp hw).1,hw]
     rfl
   · rw[if_neg z,qV_ z]
     cases y.av[q]? <;> rfl
theorem iO:∀(l:List (Nat×Nat)) (y:Sy) (q:Nat),(l.foldl bV y).av[q]? =(y.av[q]?).map (app (asg y.au.hs l q))
 | [],y,q=>by
   show y.av[q]? =(y.av[q]?).map (app none)
   cases y.av[q]? <;> rfl
 |e :: l,y,q=>by
  show (l.foldl bV (bV y e)).av[q]? =_
  rw[iO l (bV y e) q,zh,(pz y e).2.1]
  rw[show asg y.au.hs (e :: l) q=(match asg y.au.hs l q with
   |some s=>some s
   |none=>if e.2=q then ((y.au.hs[e.1]?).bind (·.pair)).map (·.1)else none)from rfl]
  cases h1:asg y.au.hs l q with
  |none=>dsimp only;cases y.av[q]? <;> rfl
  |some s=>
   dsimp only
   cases y.av[q]? with
   |none=>rfl
   |some w=>
    show some (app (some s) (app _ w))=some (app (some s) w)
    generalize (if e.2=q then _ else _:Option (Int×Int))=o
    cases o <;> rfl
theorem Az(y:Sy)(e:Nat×Pr)(p:Nat):(jk y e).av[p]? =if p=lastOf y.last e.1 then (y.av[p]?).map (zp y e.2)else y.av[p]?:=by
 unfold jk jR
 cases hw:y.av[lastOf y.last e.1]? with
 |none=>
  dsimp only
  split
  · rename_i z;rw[z,hw];rfl
  · rfl
 |some w=>
  dsimp only
  split
  · rename_i z;subst z
    rw[qU_ (qB_.mp hw).1,hw];rfl
  · rename_i z
    rw[qV_ (Ne.symm z)]
theorem tq:∀(es:List (Nat×Pr)) (y:Sy) (p:Nat) (w':Wk),(dB y es).av[p]? =some w'->∃w,y.av[p]? =some w/\w'.hand=w.hand/\(w'.en=none↔(w.en=none/\p∉es.map fun e=>lastOf y.last e.1))
 | [],y,p,w',h=>⟨w',h,rfl,by simp⟩
 |e :: es,y,p,w',h=>by
  have h:(dB (jk y e) es).av[p]? =some w':=h
  obtain⟨w,h1,h2,h3⟩:=tq es (jk y e) p w' h
  have hl:(jk y e).last=y.last:=(kq _ _ _).1
  rw[hl]at h3
  rw[Az]at h1
  by_cases z:p=lastOf y.last e.1
  · rw[if_pos z]at h1
    cases q:y.av[p]? with
    |none=>rw[q]at h1;cases h1
    |some v=>
     rw[q]at h1
     cases h1
     refine⟨v,rfl,h2,?_⟩
     rw[h3]
     constructor
     · rintro⟨k,_⟩;cases k
     · rintro⟨_,k⟩
       exact absurd (by rw[List.map_cons,z];exact qI_) k
  · rw[if_neg z]at h1
    refine⟨w,h1,h2,?_⟩
    rw[h3]
    simp [z]
theorem qo(k:Nat):lastOf [] k=0:=rfl
theorem hV(e:Nat×Nat)(l:List (Nat×Nat))(k:Nat):lastOf (e :: l) k=if e.1=k then e.2 else lastOf l k:=by
 unfold lastOf
 rw[List.find?_cons]
 by_cases z:e.1=k
 · rw[qZ_ z,if_pos z];rfl
 · rw[qa_ z,if_neg z]
theorem xN(l:List (Nat×Nat))(j p k:Nat):lastOf (l.map fun e=>if e.1=j then (e.1,p)else e) k=if k=j/\(l.any fun e=>decide (e.1=j))=true then p else lastOf l k:=by
 induction l with
 |nil=>simp [qo]
 |cons e r ih=>
  rw[List.map_cons,hV,hV,ih,List.any_cons]
  by_cases z:e.1=j
  · rw[if_pos z,qZ_ z]
    dsimp only
    by_cases w:e.1=k
    · rw[if_pos w,if_pos ⟨by omega,by simp⟩]
    · rw[if_neg w,if_neg w,if_neg (by omega),if_neg (by omega)]
  · rw[if_neg z,qa_ z,Bool.false_or]
    by_cases w:e.1=k
    · rw[if_pos w,if_pos w,if_neg (by omega)]
    · rw[if_neg w,if_neg w]
theorem xO(l:List (Nat×Nat))(j p k:Nat)(h:(l.any fun e=>decide (e.1=j))=false):lastOf (l++[(j,p)]) k=if k=j then p else lastOf l k:=by
 induction l with
 |nil=>
  rw[qc_,hV,qo]
  by_cases z:k=j
  · rw[if_pos z.symm,if_pos z]
  · rw[if_neg (Ne.symm z),if_neg z]
 |cons e r ih=>
  rw[List.any_cons,Bool.or_eq_false_iff]at h
  rw[List.cons_append,hV,hV,ih h.2]
  have hz:=of_decide_eq_false h.1
  by_cases w:e.1=k
  · rw[if_pos w,if_pos w,if_neg (by omega)]
  · rw[if_neg w,if_neg w]
theorem xi(l:List (Nat×Nat))(j p k:Nat):lastOf (putL l j p) k=if k=j then p else lastOf l k:=by
 unfold putL
 cases h:(l.any fun e=>decide (e.1=j))with
 |true=>
  rw[if_pos rfl,xN,h]
  by_cases z:k=j
  · rw[if_pos ⟨z,rfl⟩,if_pos z]
  · rw[if_neg (by omega),if_neg z]
 |false=>
  rw[if_neg qC_]
  exact xO l j p k h
def ku(p:Nat):D:= .int (p:Int)
section
variable{G G':Hh}{Q:D->Hh->Prop}{E:Nat->Hh->Prop}{σ:St}{y:Sy}{QA:List D->Hh->Prop}
theorem yG(n:Nat):rng 0 n=(List.range n).map ku:=HR n
theorem GB{xs:List Nat}{p:Nat->Bool}{ck:Hh->Bool}{cond:D->M Bool}{elt:D->M D}(hck:ck G=true)(hz:xs.length<=1000000)
 (hc:∀x∈xs,M3.run (cond (ku x)) G (fun c G1=>G1=G/\c=p x) E) (he:∀x,M3.run (elt (ku x)) G (fun y G1=>G1=G/\y=ku x) E)
 (h:QA ((xs.filter p).map ku) G):M3.run (dH ck cond elt (xs.map ku) []) G QA E:=
 iN (f:=ku) (p:=p) (g:=ku) hck hz hc (fun x _ _=>he x) h
theorem wK{ws:List Wk}{lw:Nat}{p:Nat}{w:Wk}(hw:G[lw]? =some (.lst (ws.map cp)))(hp:ws[p]? =some w)(h:Q (cp w) G):M3.run (oIx (.ref lw) (ku p)) G Q E:=by
 unfold ku
 with_reducible exact fz hw (lR hp) h
end
section
variable{G G':Hh}{Q:D->Hh->Prop}{E:Nat->Hh->Prop}{σ:St}{y:Sy}
theorem BX(ns:List Int)(a b:Nat):∃ms:List Int,cutD (ns.map D.int) (some (a:Int)) (some (b:Int))=ms.map D.int/\ms.length<=b - a:=by
 unfold cutD
 refine⟨(ns.drop (sIx (ns.map D.int).length 0 (some (a:Int)))).take (sIx (ns.map D.int).length (ns.map D.int).length (some (b:Int)) - sIx (ns.map D.int).length 0 (some (a:Int))),?_,?_⟩
 · rw[List.map_take,List.map_drop]
 · rw[List.length_take,List.length_drop,qM_]
   unfold sIx
   dsimp only
   rw[if_neg (by omega),if_neg (by omega)]
   omega
theorem Fw{n:Nat}{xs:List D}{lo hi:Option Int}(hn:G[n]? =some (.frz xs))(h:∀G',Chg [] G G'->G'.length=G.length+1->G'[G.length]? =some (.lst (cutD xs lo hi))->Q (.ref G.length) G'):M3.run (oSl (.ref n) lo hi) G Q E:=
 HN hn (h _ (Chg.add _ _) (by simp) (bK _ _))
theorem vF{xs:List Int}{v:Int}(h:v∈xs)(hx:∀x∈xs,1<=x/\x<=9):∃c:Nat,v=(c:Int)/\0 < c/\c<=9:=by
 obtain⟨h1,h2⟩:=hx v h
 exact⟨v.toNat,by omega,by omega,by omega⟩
end
theorem CJ(k:Kr)(p:Pr):(vn k p).up=k.up:=by
 unfold vn
 split <;> rfl
theorem yz{sel:Hl->Option Nat}(hs:Sel sel)(P:Hl->List (Nat×Pr)->Prop)(step:∀st es p,WF st->sel st=some p->P st es->P (aS st p false).1 (es++(aS st p false).2)):
 ∀(n:Nat) (st:Hl) (es:List (Nat×Pr)),mea st<=n->WF st->P st es->WF (cV sel st).1/\P (cV sel st).1 (es++(cV sel st).2)/\sel (cV sel st).1=none:=by
 intro n
 induction n with
 |zero=>
  intro st es hm W h
  cases q:sel st with
  |none=>
   rw[eS q,qY_]
   exact⟨W,h,q⟩
  |some p=>have:=df W (hs st p q);omega
 |succ n ih=>
  intro st es hm W h
  cases q:sel st with
  |none=>
   rw[eS q,qY_]
   exact⟨W,h,q⟩
  |some p=>
   have h1:=df W (hs st p q)
   rw[jY hs W q,<-List.append_assoc]
   exact ih _ _ (by omega) (ju W p false) (step st es p W q h)
theorem wX{st:Hl}(h:ba st=none):st.row=[]:=by
 unfold ba at h
 split at h
 · assumption
 · cases h
theorem jZ:∀{a b:List Nat},a.Nodup->(∀x∈a,x∈b)->a.length<=b.length
 | [],b,_,_=>qf_ _
 |x :: r,b,hn,h=>by
  have hx:=h x qI_
  rw[List.nodup_cons]at hn
  have:=jZ (a:=r) (b:=b.erase x) hn.2 fun y hy=>(List.mem_erase_of_ne (by rintro rfl;exact hn.1 hy)).mpr (h y (qR_ _ hy))
  rw[List.length_erase_of_mem hx]at this
  have:0 < b.length:=List.length_pos_of_mem hx
  simp only[List.length_cons]
  omega
theorem AS{st:Hl}{l:Lt}{rest:List (Bool×Lt)}{k:Kr}(h:st.row=(false,l) :: rest)(hk:st.ks[l.kpr]? =some k):
 aS st 0 false=({st with ks:=st.ks.set l.kpr (cx k l).1,row:=rest++(match (cx k l).2 with
  |none=>[]
  |some x=>[(true,x)])},[]):=by
 unfold aS
 rw[h]
 show (match st.ks[l.kpr]? with |none=>_ |some k=>_)=_
 rw[hk]
 dsimp only
 unfold eN
 rw[h]
 rfl
theorem BY{st:Hl}{l:Lt}{rest:List (Bool×Lt)}{h:Hd}(hr:st.row=(true,l) :: rest)(hh:st.hs[l.hand]? =some h):
 aS st 0 false=({st with hs:=st.hs.set l.hand (bN h l).1,row:=rest++(bN h l).2.1.map fun x=>(false,x)},match (bN h l).2.2 with
  |none=>[]
  |some p=>[(l.hand,p)]):=by
 unfold aS
 rw[hr]
 show (match st.hs[l.hand]? with |none=>_ |some k=>_)=_
 rw[hh]
 dsimp only
 unfold eN
 rw[hr]
 rfl
theorem set_same{α:Type}{xs:List α}{i:Nat}{x:α}(h:xs[i]? =some x):xs.set i x=xs:=by
 apply List.ext_getElem?
 intro j
 rw[qJ_]
 split
 · rename_i e
   subst e
   split
   · exact h.symm
   · rename_i z
     have:=(qB_.mp h).1
     exact absurd this z
 · rfl
theorem sF{l:List (Nat×Option Pr)}{k:Nat}{p:Option Pr}{x:Nat}:x∈(bH l k p).map (·.1)↔x=k\/x∈l.map (·.1):=by
 unfold bH
 split
 · rename_i h
   rw[qb_]
   have e:((fun x:Nat×Option Pr=>x.1) ∘ fun e:Nat×Option Pr=>if e.1=k then (e.1,p)else e)=fun e=>e.1:=by
    funext e
    show (if e.1=k then (e.1,p)else e).1=e.1
    split <;> rfl
   rw[e]
   obtain⟨x0,he,hk⟩:=List.any_eq_true.mp h
   have hk:x0.1=k:=of_decide_eq_true hk
   constructor
   · exact .inr
   · rintro(rfl |z)
     · exact qH_.mpr ⟨x0,he,hk⟩
     · exact z
 · rw[qT_,qG_]
   simp
   constructor
   · rintro(z |z)
     · exact .inr z
     · exact .inl z
   · rintro(z |z)
     · exact .inr z
     · exact .inl z
section
variable{ks0:List Kr}{hs0:List Hd}{j:Nat}{r:Int}{vo:Option Int}{P0:Pr}
theorem qM{h:Hd}{l:Lt}(z:h.atw=false\/l.num≠h.rnd):bN h l=(h,[],none):=by
 unfold bN
 rw[if_pos]
 rcases z with z |z
 · rw[z];rfl
 · rw[qa_ z];simp
theorem vZ{h:Hd}{l:Lt}(ha:h.atw=true)(hn:l.num=h.rnd)(hs:¬h.cnt < (bH h.aA l.kpr l.pair).length*2):bN h l=({h with aA:=bH h.aA l.kpr l.pair},[],none):=by
 unfold bN
 rw[if_neg (by rw[ha,qZ_ hn];decide)]
 dsimp only
 rw[if_pos (by rw[qa_ hs];rfl)]
theorem AK{h:Hd}{l:Lt}(ha:h.atw=true)(hn:l.num=h.rnd)(hs:h.cnt < (bH h.aA l.kpr l.pair).length*2)(hp:h.pair=none):
 bN h l=(roundF (cF {h with aA:=bH h.aA l.kpr l.pair} (vals (bH h.aA l.kpr l.pair))).1 (some (cF {h with aA:=bH h.aA l.kpr l.pair} (vals (bH h.aA l.kpr l.pair))).2),bL (roundF (cF {h with aA:=bH h.aA l.kpr l.pair} (vals (bH h.aA l.kpr l.pair))).1 (some (cF {h with aA:=bH h.aA l.kpr l.pair} (vals (bH h.aA l.kpr l.pair))).2)),none):=by
 unfold bN
 rw[if_neg (by rw[ha,qZ_ hn];decide)]
 dsimp only
 rw[if_neg (by rw[qZ_ hs];decide),hp]
theorem BF{h:Hd}{l:Lt}{P:Pr}(ha:h.atw=true)(hn:l.num=h.rnd)(hs:h.cnt < (bH h.aA l.kpr l.pair).length*2)(hp:h.pair=some P):
 bN h l=({h with aA:=bH h.aA l.kpr l.pair,atw:=false},[],some P):=by
 unfold bN
 rw[if_neg (by rw[ha,qZ_ hn];decide)]
 dsimp only
 rw[if_neg (by rw[qZ_ hs];decide),hp]
theorem zc{h:Hd}(e:h.aA=[]):nV h=List.range h.cnt:=by
 unfold nV
 rw[e]
 exact List.filter_eq_self.mpr (by simp)
end
theorem AJ(y:Sy)(e:Nat×Pr)(p:Nat)(w':Wk)(h:(jk y e).av[p]? =some w'):∃w,y.av[p]? =some w/\w'.hand=w.hand/\w'.rd=w.rd/\w'.mT=w.mT/\w'.beg=w.beg/\(w'=w\/(p=lastOf y.last e.1/\w'.val=some e.2.2/\w'.en=some y.aR)):=by
 unfold jk jR at h
 cases hw:y.av[lastOf y.last e.1]? with
 |none=>rw[hw]at h;exact⟨w',h,rfl,rfl,rfl,rfl,.inl rfl⟩
 |some u=>
  rw[hw]at h
  dsimp only at h
  rw[qJ_]at h
  split at h
  · rename_i z
    split at h
    · cases h
      exact⟨u,by rw[<-z];exact hw,rfl,rfl,rfl,rfl,.inr ⟨z.symm,rfl,rfl⟩⟩
    · cases h
  · exact⟨w',h,rfl,rfl,rfl,rfl,.inl rfl⟩
theorem sY:∀(es:List (Nat×Pr)) (y:Sy) (p:Nat) (w':Wk),(dB y es).av[p]? =some w'->∃w,y.av[p]? =some w/\w'.hand=w.hand/\w'.rd=w.rd/\w'.mT=w.mT/\w'.beg=w.beg/\((w'.val=w.val/\w'.en=w.en)\/∃e∈es,p=lastOf y.last e.1/\w'.val=some e.2.2/\w'.en=some y.aR)
 | [],y,p,w',h=>⟨w',h,rfl,rfl,rfl,rfl,.inl ⟨rfl,rfl⟩⟩
 |e :: r,y,p,w',h=>by
  obtain⟨w1,h1,a1,a2,a3,a4,a5⟩:=sY r (jk y e) p w' h
  obtain⟨q1,q2,q3,q4⟩:=kq y (lastOf y.last e.1) (zp y e.2)
  have q1:(jk y e).last=y.last:=q1
  have q3:(jk y e).aR=y.aR:=q3
  obtain⟨w,h2,b1,b2,b3,b4,b5⟩:=AJ y e p w1 h1
  refine⟨w,h2,a1.trans b1,a2.trans b2,a3.trans b3,a4.trans b4,?_⟩
  rcases a5 with ⟨c1,c2⟩ |⟨x,hx,c1,c2,c3⟩
  · rcases b5 with rfl |⟨d1,d2,d3⟩
    · exact .inl ⟨c1,c2⟩
    · exact .inr ⟨e,qI_,d1,c1.trans d2,c2.trans d3⟩
  · exact .inr ⟨x,qR_ _ hx,by rw[<-q1];exact c1,c2,by rw[<-q3];exact c3⟩
theorem zA{l:List (Nat×Nat)}(nd:(l.map (·.1)).Nodup){j p p':Nat}(h:(j,p)∈l)(h':(j,p')∈l):p=p':=by
 induction l with
 |nil=>cases h
 |cons e r ih=>
  rw[List.map_cons,List.nodup_cons]at nd
  rcases qS_.mp h with a |a
  · rcases qS_.mp h' with b |b
    · rw[<-a]at b;cases b;rfl
    · exact absurd (qH_.mpr ⟨_,b,by rw[<-a]⟩) nd.1
  · rcases qS_.mp h' with b |b
    · exact absurd (qH_.mpr ⟨_,a,by rw[<-b]⟩) nd.1
    · exact ih nd.2 a b
theorem nF(st:Hl)(p:Nat)(s:Bool):aS st p s=(st,[])\/
 (∃l k,(false,l)∈st.row/\st.ks[l.kpr]? =some k/\aS st p s=({st with ks:=st.ks.set l.kpr (cx k l).1,row:=eN st p s++(match (cx k l).2 with |none=>[] |some x=>[(true,x)])},[]))\/
 (∃l h,(true,l)∈st.row/\st.hs[l.hand]? =some h/\aS st p s=({st with hs:=st.hs.set l.hand (bN h l).1,row:=eN st p s++(bN h l).2.1.map fun x=>(false,x)},match (bN h l).2.2 with |none=>[] |some p=>[(l.hand,p)])):=by
 unfold aS
 cases hr:st.row[p]? with
 |none=>exact .inl rfl
 |some e=>
  have hm:e∈st.row:=qD_ hr
  obtain⟨b,l⟩:=e
  cases b with
  |false=>
   dsimp only
   cases hk:st.ks[l.kpr]? with
   |none=>exact .inl rfl
   |some k=>exact .inr (.inl ⟨l,k,hm,hk,rfl⟩)
  |true=>
   dsimp only
   cases hh:st.hs[l.hand]? with
   |none=>exact .inl rfl
   |some h=>exact .inr (.inr ⟨l,h,hm,hh,rfl⟩)
theorem pb(k:Kr)(l:Lt):(cx k l).1.up=k.up/\∀x,(cx k l).2=some x->k.up=true/\x.hand=l.hand/\x.kpr=l.kpr/\x.num=l.num:=by
 unfold cx
 cases hu:k.up with
 |false=>exact⟨hu,fun x e=>by cases e⟩
 |true=>
  rw[if_pos rfl]
  cases l.pair with
  |none=>exact⟨hu,fun x e=>by cases e;exact⟨rfl,rfl,rfl,rfl⟩⟩
  |some p=>exact⟨(CJ k p).trans hu,fun x e=>by cases e;exact⟨rfl,rfl,rfl,rfl⟩⟩
def upK(ks:List Kr)(i:Nat):Bool:=(ks[i]?).any (·.up)
theorem GC{ks:List Kr}{i:Nat}{k k':Kr}(h:ks[i]? =some k)(e:k'.up=k.up)(x:Nat):upK (ks.set i k') x=upK ks x:=by
 unfold upK
 rw[qJ_]
 by_cases z:i=x
 · subst z
   rw[if_pos rfl,if_pos (qB_.mp h).1,h]
   exact e
 · rw[if_neg z]
theorem uY(st:Hl)(p:Nat)(s:Bool)(x:Nat):upK (aS st p s).1.ks x=upK st.ks x:=by
 rcases nF st p s with h |⟨l,k,_,hk,h⟩ |⟨l,g,_,hg,h⟩
 · rw[h]
 · rw[h];exact GC hk (pb k l).1 x
 · rw[h]
theorem rE(st:Hl)(p:Nat)(s:Bool):(aS st p s).1.ks.length=st.ks.length:=by
 rcases nF st p s with h |⟨l,k,_,hk,h⟩ |⟨l,g,_,hg,h⟩
 · rw[h]
 · rw[h];simp
 · rw[h]
structure vQ (U:List Nat) (k:Nat) (st:Hl):Prop where
 hd:∃h,st.hs[k]? =some h/\h.atw=true/\h.pair=none/\(∀e∈h.aA,e.1∈U)/\∀e∈st.row,e.2.hand=k->e.2.num=h.rnd->e.1=true->e.2.kpr∈U
theorem zL{U:List Nat}{k:Nat}{st:Hl}(W:WF st)(hu:∀i,upK st.ks i=true->i∈U)(hU:¬st.ks.length < U.length*2)(L:vQ U k st)(p:Nat)(s:Bool):vQ U k (aS st p s).1/\∀e∈(aS st p s).2,e.1≠k:=by
 obtain⟨h,e,aw,pn,hd,rw'⟩:=L.hd
 rcases nF st p s with hc |⟨l,q,hm,hq,hc⟩ |⟨l,g,hm,hg,hc⟩
 · rw[hc]
   exact⟨L,fun e he=>by cases he⟩
 · rw[hc]
   refine⟨⟨h,e,aw,pn,hd,fun x hx a b c=>?_⟩,fun e he=>by cases he⟩
   rcases qG_.mp hx with z |z
   · exact rw' x (lY z) a b c
   · obtain⟨_,a2⟩:=pb q l
     revert z
     cases hz:(cx q l).2 with
     |none=>intro z;cases z
     |some u=>
      intro z
      simp at z
      subst z
      obtain⟨b1,b2,b3,b4⟩:=a2 u hz
      refine hu _ ?_
      show upK st.ks u.kpr=true
      unfold upK
      rw[b3,hq]
      exact b1
 · rw[hc]
   have hlt:=(qB_.mp hg).1
   have hn:g.num=l.hand:=(W.hk _ g hg).1
   by_cases z:l.hand=k
   · rw[z,e]at hg
     cases hg
     by_cases off:l.num=h.rnd
     · have kU:=rw' _ hm z off rfl
       have hc':h.cnt=st.ks.length:=(W.hk k h e).2.1
       have hd':∀x∈bH h.aA l.kpr l.pair,x.1∈U:=fun x hx=>by
        rcases om hx with w |w
        · rw[w.1];exact kU
        · exact hd x w
       have sm:¬h.cnt < (bH h.aA l.kpr l.pair).length*2:=by
        have:=jZ (a:=(bH h.aA l.kpr l.pair).map (·.1)) (b:=U) (qX (W.hk k h e).2.2.2.1) fun x hx=>by
         obtain⟨y,hy,rfl⟩:=qH_.mp hx
         exact hd' y hy
        rw[qM_]at this
        omega
       rw[vZ aw off sm]
       refine⟨⟨{h with aA:=bH h.aA l.kpr l.pair},?_,aw,pn,hd',fun x hx a b c=>?_⟩,fun e he=>by cases he⟩
       · show (st.hs.set l.hand _)[k]? =_
         rw[z,qJ_,if_pos rfl,if_pos (by rw[<-z];exact hlt)]
       · rcases qG_.mp hx with w |w
         · exact rw' x (lY w) a b c
         · cases w
     · rw[qM (.inr off)]
       refine⟨⟨h,?_,aw,pn,hd,fun x hx a b c=>?_⟩,fun e he=>by cases he⟩
       · show (st.hs.set l.hand h)[k]? =_
         rw[z,set_same e]
         exact e
       · rcases qG_.mp hx with w |w
         · exact rw' x (lY w) a b c
         · cases w
   · refine⟨⟨h,?_,aw,pn,hd,fun x hx a b c=>?_⟩,fun x hx=>?_⟩
     · show (st.hs.set l.hand _)[k]? =_
       rw[qJ_,if_neg z]
       exact e
     · rcases qG_.mp hx with w |w
       · exact rw' x (lY w) a b c
       · obtain⟨u,hu',rfl⟩:=qH_.mp w
         cases c
     · revert hx
       cases (bN g l).2.2 with
       |none=>intro hx;cases hx
       |some P=>intro hx;simp at hx;subst hx;exact z
theorem BW{U:List Nat}{sel:Hl->Option Nat}(hs:Sel sel){st:Hl}(W:WF st)(hu:∀i,upK st.ks i=true->i∈U)(hU:¬st.ks.length < U.length*2):(∀k,vQ U k st->vQ U k (cV sel st).1/\∀e∈(cV sel st).2,e.1≠k)/\(∀i,upK (cV sel st).1.ks i=upK st.ks i)/\(cV sel st).1.ks.length=st.ks.length:=by
 obtain⟨_,h,_⟩:=yz hs (fun a es=>(∀k,vQ U k st->vQ U k a/\∀e∈es,e.1≠k)/\(∀i,upK a.ks i=upK st.ks i)/\a.ks.length=st.ks.length) (fun a es p W _ ⟨h1,h2,h3⟩=>by
  refine⟨fun k L=>?_,fun i=>(uY a p false i).trans (h2 i),(rE a p false).trans h3⟩
  obtain⟨L1,e1⟩:=h1 k L
  obtain⟨L2,e2⟩:=zL W (fun i hi=>hu i ((h2 i).symm.trans hi)) (by rw[h3];exact hU) L1 p false
  refine⟨L2,fun e he=>?_⟩
  rcases qG_.mp he with z |z
  · exact e1 e z
  · exact e2 e z) (mea st) st [] (qO_ _) W ⟨fun k L=>⟨L,fun e he=>by cases he⟩,fun i=>rfl,rfl⟩
 rw[qc_]at h
 exact h
def Cov(k:Nat)(st:Hl):Prop:=∃h,st.hs[k]? =some h/\h.atw=true/\(∀i,upK st.ks i=true->i∈h.aA.map (·.1)\/∃e∈st.row,e.2.hand=k/\e.2.kpr=i/\e.2.num=h.rnd)/\¬st.ks.length < h.aA.length*2
def Done(k:Nat)(st:Hl)(es:List (Nat×Pr)):Prop:=∃h P,st.hs[k]? =some h/\h.atw=false/\(k,P)∈es
theorem zT{k:Nat}{st:Hl}{es:List (Nat×Pr)}(W:WF st)(hr:st.row≠ [])(L:Cov k st\/Done k st es):Cov k (aS st 0 false).1\/Done k (aS st 0 false).1 (es++(aS st 0 false).2):=by
 cases q:st.row with
 |nil=>exact absurd q hr
 |cons x rest=>
  obtain⟨b,l⟩:=x
  have hm:(b,l)∈st.row:=by rw[q];exact qI_
  obtain⟨g,hg,hk,_⟩:=W.rw _ hm
  have hg:st.hs[l.hand]? =some g:=hg
  have hk:l.kpr < st.ks.length:=hk
  cases b with
  |false=>
   have hk':st.ks[l.kpr]? =some (st.ks[l.kpr]'hk):=qA_ hk
   generalize st.ks[l.kpr]'hk=kk at hk'
   have eu:∀i,upK (aS st 0 false).1.ks i=upK st.ks i:=uY st 0 false
   have el:=rE st 0 false
   rw[AS q hk']at eu el ⊢
   rcases L with ⟨h,e,aw,cov,sm⟩ |⟨h,P,e,aw,hP⟩
   · refine .inl ⟨h,e,aw,fun i hi=>?_,by rw[el];exact sm⟩
     rw[eu]at hi
     rcases cov i hi with z |⟨y,hy,y1,y2,y3⟩
     · exact .inl z
     · rw[q]at hy
       rcases qS_.mp hy with rfl |hy
       · have y2:l.kpr=i:=y2
         have up:kk.up=true:=by
          unfold upK at hi
          rw[<-y2,hk']at hi
          exact hi
         refine .inr ?_
         cases ha:(cx kk l).2 with
         |none=>
          exfalso
          unfold cx at ha
          rw[up,if_pos rfl]at ha
          revert ha
          cases l.pair <;> intro ha <;> cases ha
         |some u=>
          obtain⟨_,b2,b3,b4⟩:=(pb kk l).2 u ha
          exact⟨(true,u),qE_ _ (by simp),b2.trans y1,b3.trans y2,b4.trans y3⟩
       · exact .inr ⟨y,qF_ _ hy,y1,y2,y3⟩
   · exact .inr ⟨h,P,e,aw,qF_ _ hP⟩
  |true=>
   have hlt:=(qB_.mp hg).1
   have hn:g.num=l.hand:=(W.hk _ g hg).1
   have hc:g.cnt=st.ks.length:=(W.hk _ g hg).2.1
   rw[BY q hg]
   by_cases z:l.hand=k
   · have self:∀x:Hd,(st.hs.set l.hand x)[k]? =some x:=fun x=>by rw[z,qJ_,if_pos rfl,if_pos (by rw[<-z];exact hlt)]
     rcases L with ⟨h,e,aw,cov,sm⟩ |⟨h,P,e,aw,hP⟩
     · rw[z,e]at hg
       have hgh:=Option.some.inj hg
       subst hgh
       by_cases off:l.num=h.rnd
       · by_cases big:h.cnt < (bH h.aA l.kpr l.pair).length*2
         · cases hp:h.pair with
           |none=>
            rw[AK aw off big hp]
            obtain⟨n1,n2,n3⟩:=rf {h with aA:=bH h.aA l.kpr l.pair} (vals (bH h.aA l.kpr l.pair))
            have n4:=iU {h with aA:=bH h.aA l.kpr l.pair} (vals (bH h.aA l.kpr l.pair))
            generalize cF {h with aA:=bH h.aA l.kpr l.pair} (vals (bH h.aA l.kpr l.pair))=cc at n1 n2 n3 n4
            refine .inl ⟨roundF cc.1 (some cc.2),self _,n3.trans aw,fun i hi=>.inr ?_,by show ¬_ < 0*2;omega⟩
            refine⟨(false,⟨(roundF cc.1 (some cc.2)).num,i,(roundF cc.1 (some cc.2)).rnd,some cc.2⟩),qE_ _ (qH_.mpr ⟨_,qH_.mpr ⟨i,?_,rfl⟩,rfl⟩),?_,rfl,rfl⟩
            · rw[zc rfl]
              refine List.mem_range.mpr ?_
              show i < cc.1.cnt
              rw[n4]
              show i < h.cnt
              rw[hc]
              unfold upK at hi
              cases hx:st.ks[i]? with
              |none=>
               have hi:(st.ks[i]?).any (·.up)=true:=hi
               rw[hx]at hi;cases hi
              |some kx=>exact(qB_.mp hx).1
            · show cc.1.num=k
              rw[n1]
              exact hn.trans z
           |some P=>
            rw[BF aw off big hp]
            exact .inr ⟨_,P,self _,rfl,qE_ _ (by rw[z];exact qI_)⟩
         · rw[vZ aw off big]
           refine .inl ⟨{h with aA:=bH h.aA l.kpr l.pair},self _,aw,fun i hi=>?_,by rw[<-hc];exact big⟩
           rcases cov i hi with w |⟨y,hy,y1,y2,y3⟩
           · exact .inl (sF.mpr (.inr w))
           · rw[q]at hy
             rcases qS_.mp hy with rfl |hy
             · exact .inl (sF.mpr (.inl y2.symm))
             · exact .inr ⟨y,qF_ _ hy,y1,y2,y3⟩
       · rw[qM (.inr off)]
         refine .inl ⟨h,self h,aw,fun i hi=>?_,sm⟩
         rcases cov i hi with w |⟨y,hy,y1,y2,y3⟩
         · exact .inl w
         · rw[q]at hy
           rcases qS_.mp hy with rfl |hy
           · exact absurd y3 off
           · exact .inr ⟨y,qF_ _ hy,y1,y2,y3⟩
     · rw[z,e]at hg
       have hgh:=Option.some.inj hg
       subst hgh
       rw[qM (.inl aw)]
       exact .inr ⟨h,P,self h,aw,qF_ _ hP⟩
   · have oth:∀x:Hd,(st.hs.set l.hand x)[k]? =st.hs[k]?:=fun x=>by rw[qJ_,if_neg z]
     rcases L with ⟨h,e,aw,cov,sm⟩ |⟨h,P,e,aw,hP⟩
     · refine .inl ⟨h,(oth _).trans e,aw,fun i hi=>?_,sm⟩
       rcases cov i hi with w |⟨y,hy,y1,y2,y3⟩
       · exact .inl w
       · rw[q]at hy
         rcases qS_.mp hy with rfl |hy
         · exact absurd y1 z
         · exact .inr ⟨y,qF_ _ hy,y1,y2,y3⟩
     · exact .inr ⟨h,P,(oth _).trans e,aw,qF_ _ hP⟩
theorem wO{st:Hl}(W:WF st)(hU:∃us:List Nat,us.Nodup/\st.ks.length < 2*us.length/\∀k∈us,upK st.ks k=true):(cV ba st).1.row=[]/\∀k,Cov k st->Done k (cV ba st).1 (cV ba st).2:=by
 obtain⟨_,⟨h1,h2,h3⟩,h⟩:=yz dR (fun a es=>(∀k,Cov k st->Cov k a\/Done k a es)/\(∀i,upK a.ks i=upK st.ks i)/\a.ks.length=st.ks.length) (fun a es p W hsel ⟨h1,h2,h3⟩=>by
  unfold ba at hsel
  split at hsel
  · cases hsel
  · rename_i hne
    cases hsel
    exact⟨fun k C=>zT W hne (h1 k C),fun i=>(uY a 0 false i).trans (h2 i),(rE a 0 false).trans h3⟩) (mea st) st [] (qO_ _) W ⟨fun k C=>.inl C,fun i=>rfl,rfl⟩
 rw[qc_]at h1
 have hrow:=wX h
 refine⟨hrow,fun k C=>?_⟩
 rcases h1 k C with ⟨g,e,aw,cov,sm⟩ |D
 · obtain⟨us,u1,u2,u3⟩:=hU
   have:=jZ (b:=g.aA.map (·.1)) u1 fun x hx=>by
    rcases cov x ((h2 x).trans (u3 x hx))with z |⟨y,hy,_⟩
    · exact z
    · rw[hrow]at hy;cases hy
   rw[qM_]at this
   rw[h3]at sm
   omega
 · exact D
theorem lB(o:Option (Int×Int))(w:Wk):(app o w).hand=w.hand/\(app o w).rd=w.rd/\(app o w).val=w.val/\(app o w).beg=w.beg/\(app o w).en=w.en:=by
 unfold app
 split <;> exact⟨rfl,rfl,rfl,rfl,rfl⟩
theorem yf{a b:Wk}(h1:a.hand=b.hand)(h2:a.rd=b.rd)(h3:a.val=b.val)(h4:a.beg=b.beg)(h5:a.en=b.en):cp a=cp b:=by
 unfold cp
 rw[h1,h2,h3,h4,h5]
theorem gT{y:Sy}{d:bR}{b:Hl}{es:List (Nat×Pr)}{a:An}(h:doneF y d= .ok (endsF y (b,es)) a):(bb y d).1.au=b/\(bb y d).1.last=y.last/\(bb y d).1.aR=y.aR+1/\(bb y d).1.av.length=y.av.length/\
 ∀(p:Nat) w',(bb y d).1.av[p]? =some w'->∃w,y.av[p]? =some w/\w'.hand=w.hand/\w'.rd=w.rd/\w'.beg=w.beg/\((w'.val=w.val/\w'.en=w.en)\/∃e∈es,p=lastOf y.last e.1/\w'.val=some e.2.2/\w'.en=some y.aR):=by
 obtain⟨n1,n2,n3,n4⟩:=jv es (aG y b)
 obtain⟨s1,s2,s3,s4⟩:=fk (dB (aG y b) es).last (dB (aG y b) es)
 have ea:(bb y d).1=nM (dS (endsF y (b,es))):=by unfold bb mB;rw[h]
 rw[ea]
 refine⟨s2.trans n2,s1.trans n1,?_,s4.trans n4,fun p w' hw=>?_⟩
 · show (dS (endsF y (b,es))).aR+1=_
   have:(dS (endsF y (b,es))).aR=y.aR:=s3.trans n3
   rw[this]
 · have hw:((dB (aG y b) es).last.foldl bV (dB (aG y b) es)).av[p]? =some w':=hw
   rw[iO]at hw
   cases hw1:(dB (aG y b) es).av[p]? with
   |none=>rw[hw1]at hw;cases hw
   |some w1=>
    rw[hw1]at hw
    have hw:=Option.some.inj hw
    obtain⟨t1,t2,t3,t4,t5⟩:=lB (asg (dB (aG y b) es).au.hs (dB (aG y b) es).last p) w1
    rw[hw]at t1 t2 t3 t4 t5
    obtain⟨w,h0,a1,a2,_,a4,a5⟩:=sY es (aG y b) p w1 hw1
    refine⟨w,h0,t1.trans a1,t2.trans a2,t4.trans a4,?_⟩
    rcases a5 with ⟨c1,c2⟩ |⟨e,he,c1,c2,c3⟩
    · exact .inl ⟨t3.trans c1,t5.trans c2⟩
    · exact .inr ⟨e,he,c1,t3.trans c2,t5.trans c3⟩
theorem uV{y:Sy}{d:bR}{c:Nat}(h:doneF y d= .no c):(bb y d).1.au=y.au/\(bb y d).1.last=y.last/\(bb y d).1.aR=y.aR+1/\(bb y d).1.av.length=y.av.length/\
 ∀(p:Nat) w',(bb y d).1.av[p]? =some w'->∃w,y.av[p]? =some w/\w'.hand=w.hand/\w'.rd=w.rd/\w'.beg=w.beg/\w'.val=w.val/\w'.en=w.en:=by
 obtain⟨s1,s2,s3,s4⟩:=fk y.last y
 have ea:(bb y d).1=nM (dS y):=by unfold bb mB;rw[h]
 rw[ea]
 refine⟨s2,s1,by show (dS y).aR+1=_;rw[show (dS y).aR=y.aR from s3],s4,fun p w' hw=>?_⟩
 have hw:(y.last.foldl bV y).av[p]? =some w':=hw
 rw[iO]at hw
 cases hw1:y.av[p]? with
 |none=>rw[hw1]at hw;cases hw
 |some w1=>
  rw[hw1]at hw
  have hw:=Option.some.inj hw
  obtain⟨t1,t2,t3,t4,t5⟩:=lB (asg y.au.hs y.last p) w1
  rw[hw]at t1 t2 t3 t4 t5
  exact⟨w1,rfl,t1,t2,t4,t3,t5⟩
structure LS (U:List Nat) (n0 w0 j c m:Nat) (y:Sy):Prop where
 I:Iv y
 kl:y.au.ks.length=c
 hl:y.au.hs.length=m
 vh:∀k,k < j->vQ U k y.au
 up:∀i,upK y.au.ks i=true->i∈U
 la:∀k p,(k,p)∈y.last->(k < j->p=w0+k)/\(j<=k->p < w0)
 wl:y.av.length=w0+j
 old:∀(p:Nat) w,p < w0->y.av[p]? =some w->w.beg < n0
 new:∀k,k < j->∃w,y.av[w0+k]? =some w/\w.hand=k/\n0<=w.beg/\w.en=none
 dd:n0<=y.aR
theorem LS.au{U:List Nat}{n0 w0 j c m:Nat}{y:Sy}(L:LS U n0 w0 j c m y){d:bR}{b:Hl}{es:List (Nat×Pr)}{a:An}(h:doneF y d= .ok (endsF y (b,es)) a)(kl:b.ks.length=y.au.ks.length)(hl:b.hs.length=y.au.hs.length)
 (hlate:∀k,k < j->vQ U k b) (hup:∀i,upK b.ks i=true->i∈U) (hes:∀e∈es,∀k,k < j->e.1≠k) (hin:∀e∈es,e.1∈y.last.map (·.1)):LS U n0 w0 j c m (bb y d).1:=by
 obtain⟨e1,e2,e3,e4,e5⟩:=gT h
 refine⟨mf L.I d,by rw[e1,kl];exact L.kl,by rw[e1,hl];exact L.hl,by rw[e1];exact hlate,by rw[e1];exact hup,by rw[e2];exact L.la,e4.trans L.wl,fun p w' hp hw=>?_,fun k hk=>?_,by rw[e3];have:=L.dd;omega⟩
 · obtain⟨w,h0,_,_,a3,_⟩:=e5 p w' hw
   rw[a3]
   exact L.old p w hp h0
 · obtain⟨w,h0,b1,b2,b3⟩:=L.new k hk
   have hlt:w0+k < (bb y d).1.av.length:=by rw[e4];exact(qB_.mp h0).1
   refine⟨_,qA_ hlt,?_⟩
   obtain⟨w1,h1,a1,a2,a3,a4⟩:=e5 (w0+k) _ (qA_ hlt)
   rw[h0]at h1
   cases h1
   refine⟨a1.trans b1,by rw[a3];exact b2,?_⟩
   rcases a4 with ⟨_,a4⟩ |⟨e,he,c1,_,_⟩
   · exact a4.trans b3
   · have:=gY (hin e he)
     rw[<-c1]at this
     obtain⟨l1,l2⟩:=L.la _ _ this
     by_cases z:e.1 < j
     · exact absurd rfl (hes e he e.1 z)
     · have:=l2 (by omega)
       omega
theorem LS.no{U:List Nat}{n0 w0 j c m:Nat}{y:Sy}(L:LS U n0 w0 j c m y){d:bR}{q:Nat}(h:doneF y d= .no q):LS U n0 w0 j c m (bb y d).1:=by
 obtain⟨e1,e2,e3,e4,e5⟩:=uV h
 refine⟨mf L.I d,by rw[e1];exact L.kl,by rw[e1];exact L.hl,by rw[e1];exact L.vh,by rw[e1];exact L.up,by rw[e2];exact L.la,e4.trans L.wl,fun p w' hp hw=>?_,fun k hk=>?_,by rw[e3];have:=L.dd;omega⟩
 · obtain⟨w,h0,_,_,a3,_⟩:=e5 p w' hw
   rw[a3]
   exact L.old p w hp h0
 · obtain⟨w,h0,b1,b2,b3⟩:=L.new k hk
   have hlt:w0+k < (bb y d).1.av.length:=by rw[e4];exact(qB_.mp h0).1
   refine⟨_,qA_ hlt,?_⟩
   obtain⟨w1,h1,a1,a2,a3,a4,a5⟩:=e5 (w0+k) _ (qA_ hlt)
   rw[h0]at h1
   cases h1
   exact⟨a1.trans b1,by rw[a3];exact b2,a5.trans b3⟩
theorem LS.run{U:List Nat}{n0 w0 j c m:Nat}{y:Sy}(L:LS U n0 w0 j c m y)(hU:¬c < U.length*2){d:bR}{sel:Hl->Option Nat}(hs:Sel sel){a:An}(h:doneF y d= .ok (endsF y (cV sel y.au)) a):LS U n0 w0 j c m (bb y d).1:=by
 obtain⟨h1,h2,h3⟩:=BW (U:=U) hs L.I.W.W L.up (by rw[L.kl];exact hU)
 obtain⟨hon,_,hat⟩:=lq hs (mea y.au) y.au L.I.W.W (qO_ _)
 refine L.au (b:=(cV sel y.au).1) (es:=(cV sel y.au).2) h h3 hon.hl (fun k hk=>(h1 k (L.vh k hk)).1) (fun i hi=>L.up i ((h2 i).symm.trans hi)) (fun e he k hk=>(h1 k (L.vh k hk)).2 e he) fun e he=>?_
 obtain⟨g,g1,g2⟩:=hat e he
 exact L.I.W.atw _ g g1 g2
theorem LS.Hm{U:List Nat}{n0 w0 j c m:Nat}{y:Sy}(L:LS U n0 w0 j c m y)(hU:¬c < U.length*2):LS U n0 w0 j c m (bb y .sw).1:=L.run hU dR (a:= .lst (oo y (cV ba y.au))) rfl
theorem LS.IL{U:List Nat}{n0 w0 j c m:Nat}{y:Sy}(L:LS U n0 w0 j c m y)(hU:¬c < U.length*2)(i q:Int):LS U n0 w0 j c m (bb y (.pa i q)).1:=by
 cases h:doneF y (.pa i q)with
 |no x=>exact L.no h
 |ok z a=>
  have h0:=h
  unfold doneF at h
  dsimp only at h
  split at h
  · cases h
  · split at h
    · cases h
    · cases h
      exact L.run hU (fq _ _) h0
theorem LS.again{U:List Nat}{n0 w0 j c m:Nat}{y:Sy}(L:LS U n0 w0 j c m y)(i:Int):LS U n0 w0 j c m (bb y (.ag i)).1:=by
 cases h:doneF y (.ag i)with
 |no x=>exact L.no h
 |ok z a=>
  have h0:=h
  unfold doneF gJ at h
  dsimp only at h
  split at h
  · cases h
  · split at h
    · cases h
    · rename_i p _ _ g hg
      split at h
      · cases h
        refine L.au (b:={y.au with row:=newRow y.au g}) (es:=[]) h0 rfl rfl (fun k hk=>?_) L.up (fun e he=>by cases he) (fun e he=>by cases he)
        obtain⟨h,e,aw,pn,hd,rw'⟩:=(L.vh k hk).hd
        refine⟨h,e,aw,pn,hd,fun x hx a b c=>?_⟩
        rcases qG_.mp hx with z |z
        · exact rw' x z a b c
        · obtain⟨l,_,rfl⟩:=qH_.mp z
          cases c
      · cases h
theorem LS.next{U:List Nat}{n0 w0 j c m:Nat}{y:Sy}(L:LS U n0 w0 j c m y)(hj:j < m)(d:bR)(rd:Bool)(v:Option Int)(hd:∀y,doneF y d=cX y (j:Int) rd v):LS U n0 w0 (j+1) c m (bb (bb y (.qu (j:Int))).1 d).1:=by
 have hjl:j < y.au.hs.length:=by rw[L.hl];exact hj
 have L1:LS U n0 w0 j c m (bb y (.qu (j:Int))).1/\∃h,(bb y (.qu (j:Int))).1.au.hs[j]? =some h/\h.atw=false:=by
  have hg:y.au.hs[j]? =some y.au.hs[j]:=qA_ hjl
  generalize y.au.hs[j]=g at hg
  have hh:doneF y (.qu (j:Int))=if g.atw then .ok (aG y {y.au with hs:=y.au.hs.set j {g with atw:=false}}) (.one (.int (lastOf y.last j:Int)))else .no 1005:=by
   show gJ y (j:Int) _=_
   unfold gJ
   rw[gy rfl hjl]
   dsimp only
   rw[hg]
  cases ha:g.atw with
  |false=>
   rw[ha,if_neg qC_]at hh
   exact⟨L.no hh,g,by rw[(uV hh).1];exact hg,ha⟩
  |true=>
   rw[ha,if_pos rfl]at hh
   have self:(y.au.hs.set j {g with atw:=false})[j]? =some {g with atw:=false}:=by rw[qJ_,if_pos rfl,if_pos hjl]
   refine⟨L.au (b:={y.au with hs:=y.au.hs.set j {g with atw:=false}}) (es:=[]) hh rfl (by simp) (fun k hk=>?_) L.up (fun e he=>by cases he) (fun e he=>by cases he),_,by rw[(gT (b:={y.au with hs:=y.au.hs.set j {g with atw:=false}}) (es:=[]) hh).1];exact self,rfl⟩
   obtain⟨h,e,aw,pn,hd,rw'⟩:=(L.vh k hk).hd
   refine⟨h,?_,aw,pn,hd,rw'⟩
   show (y.au.hs.set j _)[k]? =_
   rw[qJ_,if_neg (by omega)]
   exact e
 obtain⟨L1,h,hh,ha⟩:=L1
 generalize (bb y (.qu (j:Int))).1=z at L1 hh
 have hjz:j < z.au.hs.length:=(qB_.mp hh).1
 have hb:doneF z d= .ok (eB (aG z (bM z.au j h v)) j rd v) (.one (.int (z.av.length:Int))):=by
  rw[hd]
  unfold cX
  rw[gy rfl hjz]
  dsimp only
  rw[hh]
  dsimp only
  rw[ha,if_neg qC_]
 have ea:(bb z d).1=nM (dS (eB (aG z (bM z.au j h v)) j rd v)):=by unfold bb mB;rw[hb]
 obtain⟨s1,s2,s3,s4⟩:=fk (eB (aG z (bM z.au j h v)) j rd v).last (eB (aG z (bM z.au j h v)) j rd v)
 have I2:=mf L1.I d
 have e1:(bb z d).1.au=bM z.au j h v:=by rw[ea];exact s2
 have e2:(bb z d).1.last=putL z.last j z.av.length:=by rw[ea];exact s1
 have e3:(bb z d).1.aR=z.aR+1:=by
  rw[ea]
  show (dS _).aR+1=_
  rw[show (dS (eB (aG z (bM z.au j h v)) j rd v)).aR=z.aR from s3]
 have e4:(bb z d).1.av.length=w0+j+1:=by
  rw[ea]
  refine s4.trans ?_
  show (z.av++[_]).length=_
  rw[qN_,L1.wl]
  rfl
 have e5:∀(p:Nat) w',(bb z d).1.av[p]? =some w'->∃w,(z.av++[(⟨j,rd,v,z.aR,none,none⟩:Wk)])[p]? =some w/\w'.hand=w.hand/\w'.beg=w.beg/\w'.en=w.en:=fun p w' hw=>by
  rw[ea]at hw
  have hw:((eB (aG z (bM z.au j h v)) j rd v).last.foldl bV (eB (aG z (bM z.au j h v)) j rd v)).av[p]? =some w':=hw
  rw[iO]at hw
  cases hw1:(eB (aG z (bM z.au j h v)) j rd v).av[p]? with
  |none=>rw[hw1]at hw;cases hw
  |some w1=>
   rw[hw1]at hw
   have hw:=Option.some.inj hw
   obtain⟨t1,t2,t3,t4,t5⟩:=lB (asg (eB (aG z (bM z.au j h v)) j rd v).au.hs (eB (aG z (bM z.au j h v)) j rd v).last p) w1
   rw[hw]at t1 t2 t3 t4 t5
   exact⟨w1,hw1,t1,t4,t5⟩
 have cn:h.cnt=z.au.ks.length:=(L1.I.W.W.hk j h hh).2.1
 have W1:=L1.I.W.W
 refine⟨I2,by rw[e1];exact L1.kl,by rw[e1];show (z.au.hs.set j _).length=m;rw[qX_];exact L1.hl,fun k hk=>?_,by rw[e1];exact L1.up,fun k p hp=>?_,by omega,fun p w' hp hw=>?_,fun k hk=>?_,by rw[e3];have:=L1.dd;omega⟩
 · rw[e1]
   by_cases z1:k=j
   · subst z1
     refine⟨dt h v,?_,rfl,rfl,fun e he=>(by cases he),fun x hx a b c=>?_⟩
     · show (z.au.hs.set k _)[k]? =_
       rw[qJ_,if_pos rfl,if_pos hjz]
     · rcases qG_.mp hx with q |q
       · obtain⟨g,g1,_,g2,_⟩:=W1.rw x q
         rw[a,hh]at g1
         cases g1
         have b:x.2.num=h.rnd+1:=b
         omega
       · obtain⟨l,_,rfl⟩:=qH_.mp q
         cases c
   · obtain⟨g,e,aw,pn,hd',rw'⟩:=(L1.vh k (by omega)).hd
     refine⟨g,?_,aw,pn,hd',fun x hx a b c=>?_⟩
     · show (z.au.hs.set j _)[k]? =_
       rw[qJ_,if_neg (fun q=>z1 q.symm)]
       exact e
     · rcases qG_.mp hx with q |q
       · exact rw' x q a b c
       · obtain⟨l,_,rfl⟩:=qH_.mp q
         cases c
 · rw[e2]at hp
   rcases vk hp with q |q
   · cases q
     exact⟨fun _=>L1.wl,fun q=>by omega⟩
   · obtain⟨l1,l2⟩:=L1.la k p q
     by_cases z1:k=j
     · subst z1
       have nd:((putL z.last k z.av.length).map (·.1)).Nodup:=by rw[<-e2];exact I2.W.nd
       have hin:k∈(putL z.last k z.av.length).map (·.1):=qH_.mpr ⟨_,hp,rfl⟩
       have m1:=gY hin
       rw[xi,if_pos rfl]at m1
       have:=zA nd hp m1
       exact⟨fun _=>by rw[this];exact L1.wl,fun q=>by omega⟩
     · exact⟨fun hk=>l1 (by omega),fun hk=>l2 (by omega)⟩
 · obtain⟨w,h0,a1,a2,a3⟩:=e5 p w' hw
   rw[qK_ (by rw[L1.wl];omega)]at h0
   rw[a2]
   exact L1.old p w hp h0
 · have hlt:w0+k < (bb z d).1.av.length:=by rw[e4];omega
   refine⟨_,qA_ hlt,?_⟩
   obtain⟨w,h0,a1,a2,a3⟩:=e5 (w0+k) _ (qA_ hlt)
   by_cases z1:k=j
   · rw[List.getElem?_append_right (by rw[L1.wl];omega)]at h0
     have:=qD_ h0
     simp at this
     subst this
     exact⟨a1.trans z1.symm,by rw[a2];exact L1.dd,a3⟩
   · obtain⟨w1,h1,b1,b2,b3⟩:=L1.new k (by omega)
     rw[qK_ (by rw[L1.wl];omega),h1]at h0
     cases h0
     exact⟨a1.trans b1,by rw[a2];exact b2,a3.trans b3⟩
theorem Aj{a b:List Wk}(hl:a.length=b.length)(h:∀(p:Nat) w w',a[p]? =some w->b[p]? =some w'->cp w=cp w'):a.map cp=b.map cp:=by
 apply List.ext_getElem?
 intro p
 rw[qQ_,qQ_]
 cases ha:a[p]? with
 |none=>
  have:b[p]? =none:=by rw[List.getElem?_eq_none_iff]at ha ⊢;omega
  rw[this]
 |some w=>
  have hp:=(qB_.mp ha).1
  have hb:b[p]? =some (b[p]'(by omega)):=qA_ _
  rw[hb]
  exact congrArg some (h p w _ ha hb)
theorem sI{y:Sy}{d:bR}{b:Hl}{a:An}(h:doneF y d= .ok (aG y b) a):(bb y d).1.av.map cp=y.av.map cp:=by
 obtain⟨_,_,_,e4,e5⟩:=gT (b:=b) (es:=[]) h
 refine Aj e4 fun p w w' hw hw'=>?_
 obtain⟨w0,h0,a1,a2,a3,a4⟩:=e5 p w hw
 rw[hw']at h0
 cases h0
 rcases a4 with ⟨a4,a5⟩ |⟨e,he,_⟩
 · exact yf a1 a2 a4 a3 a5
 · cases he
theorem xQ(y:Sy)(d:bR):(∃c,doneF y d= .no c)\/(∃b es a,doneF y d= .ok (endsF y (b,es)) a)\/(∃j h rd v a,doneF y d= .ok (eB (aG y (bM y.au j h v)) j rd v) a):=by
 have bg:∀i rd v,(∃c,cX y i rd v= .no c)\/(∃b es a,cX y i rd v= .ok (endsF y (b,es)) a)\/(∃j h rd' v' a,cX y i rd v= .ok (eB (aG y (bM y.au j h v')) j rd' v') a):=by
  intro i rd v
  unfold cX
  split
  · exact .inl ⟨_,rfl⟩
  · split
    · exact .inl ⟨_,rfl⟩
    · split
      · exact .inl ⟨_,rfl⟩
      · exact .inr (.inr ⟨_,_,_,_,_,rfl⟩)
 cases d with
 |wr i v=>exact bg i false (some v)
 |rd i=>exact bg i true none
 |ca n s=>
  unfold doneF
  dsimp only
  split
  · exact .inl ⟨_,rfl⟩
  · exact .inr (.inl ⟨_,_,_,rfl⟩)
 |pa i j=>
  unfold doneF
  dsimp only
  split
  · exact .inl ⟨_,rfl⟩
  · split
    · exact .inl ⟨_,rfl⟩
    · exact .inr (.inl ⟨_,_,_,rfl⟩)
 |sw=>exact .inr (.inl ⟨_,_,_,rfl⟩)
 |ag i=>
  unfold doneF gJ
  dsimp only
  split
  · exact .inl ⟨_,rfl⟩
  · split
    · exact .inl ⟨_,rfl⟩
    · split
      · exact .inr (.inl ⟨_,[],_,rfl⟩)
      · exact .inl ⟨_,rfl⟩
 |qu i=>
  unfold doneF gJ
  dsimp only
  split
  · exact .inl ⟨_,rfl⟩
  · split
    · exact .inl ⟨_,rfl⟩
    · split
      · exact .inr (.inl ⟨_,[],_,rfl⟩)
      · exact .inl ⟨_,rfl⟩
 |st i=>
  unfold doneF nA
  dsimp only
  split
  · exact .inl ⟨_,rfl⟩
  · split
    · exact .inl ⟨_,rfl⟩
    · exact .inr (.inl ⟨_,[],_,rfl⟩)
 |wa i=>
  unfold doneF nA
  dsimp only
  split
  · exact .inl ⟨_,rfl⟩
  · split
    · exact .inl ⟨_,rfl⟩
    · exact .inr (.inl ⟨_,[],_,rfl⟩)
def Bg(y:Sy):Prop:=∀(p:Nat) w,y.av[p]? =some w->w.beg < y.aR
theorem CU{y:Sy}(B:Bg y)(d:bR):Bg (bb y d).1:=by
 intro p w hw
 rcases xQ y d with ⟨c,h⟩ |⟨b,es,a,h⟩ |⟨j,g,rd,v,a,h⟩
 · obtain⟨_,_,e3,_,e5⟩:=uV h
   obtain⟨w0,h0,_,_,a3,_⟩:=e5 p w hw
   have:=B p w0 h0
   omega
 · obtain⟨_,_,e3,_,e5⟩:=gT h
   obtain⟨w0,h0,_,_,a3,_⟩:=e5 p w hw
   have:=B p w0 h0
   omega
 · have ea:(bb y d).1=nM (dS (eB (aG y (bM y.au j g v)) j rd v)):=by unfold bb mB;rw[h]
   obtain⟨s1,s2,s3,s4⟩:=fk (eB (aG y (bM y.au j g v)) j rd v).last (eB (aG y (bM y.au j g v)) j rd v)
   have e3:(bb y d).1.aR=y.aR+1:=by
    rw[ea]
    show (dS _).aR+1=_
    rw[show (dS (eB (aG y (bM y.au j g v)) j rd v)).aR=y.aR from s3]
   rw[ea]at hw
   have hw:((eB (aG y (bM y.au j g v)) j rd v).last.foldl bV (eB (aG y (bM y.au j g v)) j rd v)).av[p]? =some w:=hw
   rw[iO]at hw
   cases hw1:(eB (aG y (bM y.au j g v)) j rd v).av[p]? with
   |none=>rw[hw1]at hw;cases hw
   |some w1=>
    rw[hw1]at hw
    have hw:=Option.some.inj hw
    obtain⟨_,_,_,t4,_⟩:=lB (asg (eB (aG y (bM y.au j g v)) j rd v).au.hs (eB (aG y (bM y.au j g v)) j rd v).last p) w1
    rw[hw]at t4
    have hw1:(y.av++[(⟨j,rd,v,y.aR,none,none⟩:Wk)])[p]? =some w1:=hw1
    rw[e3,t4]
    by_cases z:p < y.av.length
    · rw[qK_ z]at hw1
      have:=B p w1 hw1
      omega
    · rw[List.getElem?_append_right (by omega)]at hw1
      have:=qD_ hw1
      simp at this
      subst this
      show y.aR < y.aR+1
      omega
theorem Gm{y:Sy}(B:Bg y)(ds:List bR):Bg (dm y ds):=by
 induction ds generalizing y with
 |nil=>exact B
 |cons d r ih=>exact ih (CU B d)
theorem bg0(c m:Nat):Bg (cT c m):=fun p w hw=>by
 have hw:([]:List Wk)[p]? =some w:=hw
 simp at hw
def swK(b:Bool)(k:Nat):bR:=if b then .wa (k:Int)else .st (k:Int)
theorem Cq{y:Sy}{k:Nat}(hk:k < y.au.ks.length)(b:Bool):∃q a,y.au.ks[k]? =some q/\doneF y (swK b k)= .ok (aG y {y.au with ks:=y.au.ks.set k {q with up:=b}}) a:=by
 have hk':y.au.ks[k]? =some y.au.ks[k]:=qA_ hk
 generalize y.au.ks[k]=q at hk'
 cases b with
 |true=>
  refine⟨q,.one (.bl (!q.up)),hk',?_⟩
  show nA y (k:Int) _=_
  unfold nA
  rw[gy rfl hk]
  dsimp only
  rw[hk']
 |false=>
  refine⟨q,.one (.bl q.up),hk',?_⟩
  show nA y (k:Int) _=_
  unfold nA
  rw[gy rfl hk]
  dsimp only
  rw[hk']
theorem C5{ks:List Kr}{i:Nat}{k:Kr}(h:ks[i]? =some k)(b:Bool)(x:Nat):upK (ks.set i {k with up:=b}) x=if x=i then b else upK ks x:=by
 unfold upK
 rw[qJ_]
 by_cases z:i=x
 · subst z
   rw[if_pos rfl,if_pos (qB_.mp h).1,if_pos rfl]
   rfl
 · rw[if_neg z,if_neg (fun q=>z q.symm)]
structure PC (y z:Sy):Prop where
 I:Iv z
 hs:z.au.hs=y.au.hs
 kl:z.au.ks.length=y.au.ks.length
 la:z.last=y.last
 td:z.av.map cp=y.av.map cp
 dd:y.aR<=z.aR
 row:∀e∈y.au.row,e∈z.au.row
theorem PC.refl{y:Sy}(I:Iv y):PC y y:=⟨I,rfl,rfl,rfl,rfl,qO_ _,fun _ h=>h⟩
theorem PC.trans{a b c:Sy}(h:PC a b)(g:PC b c):PC a c:=⟨g.I,g.hs.trans h.hs,g.kl.trans h.kl,g.la.trans h.la,g.td.trans h.td,Nat.le_trans h.dd g.dd,fun e he=>g.row e (h.row e he)⟩
theorem zm{y:Sy}(I:Iv y){k:Nat}(hk:k < y.au.ks.length)(b:Bool):PC y (bb y (swK b k)).1/\(∀i,upK (bb y (swK b k)).1.au.ks i=if i=k then b else upK y.au.ks i)/\(bb y (swK b k)).1.au.row=y.au.row:=by
 obtain⟨q,a,hq,hd⟩:=Cq hk b
 obtain⟨e1,e2,e3,e4,_⟩:=gT (b:={y.au with ks:=y.au.ks.set k {q with up:=b}}) (es:=[]) hd
 refine⟨⟨mf I _,by rw[e1],by rw[e1];simp,e2,sI hd,by rw[e3];omega,fun e he=>by rw[e1];exact he⟩,fun i=>?_,by rw[e1]⟩
 rw[e1]
 exact C5 hq b i
theorem lz(f:Nat->Bool){y:Sy}(I:Iv y):∀n,n<=y.au.ks.length->PC y (dm y ((List.range n).map fun k=>swK (f k) k))/\(∀i,upK (dm y ((List.range n).map fun k=>swK (f k) k)).au.ks i=if i < n then f i else upK y.au.ks i)/\(dm y ((List.range n).map fun k=>swK (f k) k)).au.row=y.au.row
 |0,_=>⟨PC.refl I,fun i=>by rw[if_neg (by omega)];rfl,rfl⟩
 |n+1,hn=>by
  obtain⟨P1,u1,r1⟩:=lz f I n (by omega)
  rw[List.range_succ,qT_,eP]
  generalize dm y ((List.range n).map fun k=>swK (f k) k)=z at P1 u1 r1
  obtain⟨P2,u2,r2⟩:=zm P1.I (k:=n) (by rw[P1.kl];omega) (f n)
  refine⟨P1.trans P2,fun i=>(u2 i).trans ?_,r2.trans r1⟩
  by_cases z1:i=n
  · rw[if_pos z1,if_pos (by omega),z1]
  · rw[if_neg z1,u1]
    by_cases z2:i < n
    · rw[if_pos z2,if_pos (by omega)]
    · rw[if_neg z2,if_neg (by omega)]
theorem sW{y:Sy}(I:Iv y)(hw:∀(k:Nat) h,y.au.hs[k]? =some h->h.atw=true):∀n,n<=y.au.hs.length->PC y (dm y ((List.range n).map fun k:Nat=>bR.ag (k:Int)))/\(dm y ((List.range n).map fun k:Nat=>bR.ag (k:Int))).au.ks=y.au.ks/\
 ∀k,k < n->∀h,y.au.hs[k]? =some h->∀i,i < y.au.ks.length->i∈h.aA.map (·.1)\/∃e∈(dm y ((List.range n).map fun k:Nat=>bR.ag (k:Int))).au.row,e.2.hand=k/\e.2.kpr=i/\e.2.num=h.rnd
 |0,_=>⟨PC.refl I,rfl,fun k hk=>by omega⟩
 |n+1,hn=>by
  obtain⟨P1,k1,r1⟩:=sW I hw n (by omega)
  rw[List.range_succ,qT_,eP]
  generalize dm y ((List.range n).map fun k:Nat=>bR.ag (k:Int))=z at P1 k1 r1
  have hnl:n < z.au.hs.length:=by rw[P1.hs];omega
  have hg:z.au.hs[n]? =some z.au.hs[n]:=qA_ hnl
  generalize z.au.hs[n]=g at hg
  have ga:g.atw=true:=hw n g (by rw[<-P1.hs];exact hg)
  have hd:doneF z (.ag (n:Int))= .ok (aG z {z.au with row:=newRow z.au g}) (.one (.int ((bL g).length:Int))):=by
   show gJ z (n:Int) _=_
   unfold gJ
   rw[gy rfl hnl]
   dsimp only
   rw[hg]
   dsimp only
   rw[ga,if_pos rfl]
  obtain⟨e1,e2,e3,e4,_⟩:=gT (b:={z.au with row:=newRow z.au g}) (es:=[]) hd
  have hnum:g.num=n:=(P1.I.W.W.hk n g hg).1
  have hcnt:g.cnt=z.au.ks.length:=(P1.I.W.W.hk n g hg).2.1
  have P2:PC z (bb z (.ag (n:Int))).1:=⟨mf P1.I _,by rw[e1],by rw[e1],e2,sI hd,by rw[e3];omega,fun e he=>by rw[e1];exact qF_ _ he⟩
  refine⟨P1.trans P2,by show (bb z (.ag (n:Int))).1.au.ks=_;rw[e1];exact k1,fun k hk h hh i hi=>?_⟩
  show _\/∃e∈(bb z (.ag (n:Int))).1.au.row,_
  by_cases z1:k=n
  · subst z1
    rw[<-P1.hs,hg]at hh
    cases hh
    by_cases z2:i∈g.aA.map (·.1)
    · exact .inl z2
    · refine .inr ⟨(false,⟨g.num,i,g.rnd,g.pair⟩),?_,hnum,rfl,rfl⟩
      rw[e1]
      refine qE_ _ (qH_.mpr ⟨_,qH_.mpr ⟨i,?_,rfl⟩,rfl⟩)
      unfold nV
      refine List.mem_filter.mpr ⟨List.mem_range.mpr (by rw[hcnt,P1.kl];exact hi),?_⟩
      rw[qa_ z2]
      rfl
  · rcases r1 k (by omega) h hh i hi with w |⟨e,he,w⟩
    · exact .inl w
    · exact .inr ⟨e,P2.row e he,w⟩
def ly(m:Nat)(bg:Nat->bR)(q:Int)(n:Nat):List bR:=(List.range n).flatMap fun k:Nat=>[.qu (k:Int),bg k,.pa (k:Int) q]
def pP(c m:Nat)(up:Nat->Bool)(bg:Nat->bR)(q:Int):List bR:=(List.range c).map (fun k=>swK (up k) k)++ly m bg q m++(List.range m).map (fun k:Nat=>bR.ag (k:Int))++[.sw]
theorem sO{U:List Nat}{n0 w0 c m:Nat}{bg:Nat->bR}{q:Int}(hbg:∀k,∃rd v,∀y,doneF y (bg k)=cX y (k:Int) rd v)(hU:¬c < U.length*2){y:Sy}(L:LS U n0 w0 0 c m y):∀n,n<=m->LS U n0 w0 n c m (dm y (ly m bg q n))
 |0,_=>L
 |n+1,hn=>by
  have L1:=sO hbg hU L n (by omega) (bg:=bg) (q:=q)
  have e:ly m bg q (n+1)=ly m bg q n++[.qu (n:Int),bg n,.pa (n:Int) q]:=by
   unfold ly
   rw[List.range_succ,List.flatMap_append]
   simp
  rw[e,eP]
  generalize dm y (ly m bg q n)=z at L1
  obtain⟨rd,v,hb⟩:=hbg n
  exact(L1.next (by omega) (bg n) rd v hb).IL hU (n:Int) q
theorem zq{U:List Nat}{n0 w0 j c m:Nat}{y:Sy}(L:LS U n0 w0 j c m y)(n:Nat):LS U n0 w0 j c m (dm y ((List.range n).map (fun k:Nat=>bR.ag (k:Int)))):=by
 induction n with
 |zero=>exact L
 |succ n ih=>
  rw[List.range_succ,qT_,eP]
  exact LS.again ih (n:Int)
theorem Ek{c m:Nat}(hc9:c<=9)(hm9:m<=9)(ds:List bR){up:Nat->Bool}{bg:Nat->bR}{q:Int}(hbg:∀k,∃rd v,∀y,doneF y (bg k)=cX y (k:Int) rd v)(hup:¬c < ((List.range c).filter up).length*2):
 LS ((List.range c).filter up) ds.length (dm (cT c m) ds).av.length m c m (dm (cT c m) (ds++pP c m up bg q)):=by
 have I0:=lQ hc9 hm9
 obtain⟨I1,hd,hh,hk⟩:=kA I0 ds
 have B1:=Gm (bg0 c m) ds
 have hd':(dm (cT c m) ds).aR=ds.length:=by rw[hd];show 0+_=_;omega
 have hh':(dm (cT c m) ds).au.hs.length=m:=by
  rw[hh]
  show ((List.range m).map fun i=>mP i c).length=m
  simp
 have hk':(dm (cT c m) ds).au.ks.length=c:=by
  rw[hk]
  show (List.replicate c KS.k0).length=c
  simp
 rw[eP]
 generalize dm (cT c m) ds=y at*
 unfold pP
 rw[eP,eP,eP]
 obtain⟨P,u,_⟩:=lz up I1 c (by omega)
 generalize dm y ((List.range c).map fun k=>swK (up k) k)=z at P u
 have wl:z.av.length=y.av.length:=by have:=congrArg List.length P.td;simpa using this
 have L0:LS ((List.range c).filter up) ds.length y.av.length 0 c m z:=by
  refine⟨P.I,by rw[P.kl];exact hk',by rw[P.hs];exact hh',fun k hk=>by omega,fun i hi=>?_,fun k p hp=>⟨fun z=>by omega,fun _=>?_⟩,by rw[wl];rfl,fun p w hp hw=>?_,fun k hk=>by omega,by have:=P.dd;omega⟩
  · rw[u]at hi
    by_cases z1:i < c
    · rw[if_pos z1]at hi
      exact List.mem_filter.mpr ⟨List.mem_range.mpr z1,hi⟩
    · rw[if_neg z1]at hi
      unfold upK at hi
      rw[List.getElem?_eq_none (by omega)]at hi
      cases hi
  · rw[P.la]at hp
    exact(I1.W.la _ hp).2
  · have e1:(y.av.map cp)[p]? =some (cp w):=by rw[<-P.td,qQ_,hw];rfl
    rw[qQ_]at e1
    cases hy:y.av[p]? with
    |none=>rw[hy]at e1;cases e1
    |some w1=>
     rw[hy]at e1
     have e1:=Option.some.inj e1
     have:=B1 p w1 hy
     rw[hd']at this
     have e2:(w1.beg:Int)=(w.beg:Int):=by
      unfold cp at e1
      injection e1 with e1
      injection e1 with _ e1
      injection e1 with _ e1
      injection e1 with _ e1
      injection e1 with e1 _
      injection e1
     omega
 have L1:=sO (m:=m) (q:=q) hbg hup L0 m (qO_ _)
 have L2:=zq L1 m
 exact L2.Hm hup
def nP(c m:Nat):List bR:=(List.range c).map (fun k=>swK true k)++(List.range m).map (fun k:Nat=>bR.ag (k:Int))++[.sw]
theorem xk{a b:Wk}(h:cp a=cp b):a.hand=b.hand/\D.str (word a.rd)=D.str (word b.rd)/\nD a.en=nD b.en:=by
 unfold cp at h
 injection h with h
 injection h with h1 h
 injection h with h2 h
 injection h with h3 h
 injection h with h4 h
 injection h with h5 h
 injection h1 with h1
 exact⟨by omega,h2,h5⟩
theorem CM{U:List Nat}{n0 w0 c m:Nat}{y:Sy}(hc:0 < c)(L:LS U n0 w0 m c m y)(hU:¬c < U.length*2):
 (dm y (nP c m)).av.length=y.av.length/\∀(p:Nat) w w',y.av[p]? =some w->(dm y (nP c m)).av[p]? =some w'->
   (p < w0->cp w'=cp w)/\(w0<=p->w'.hand=w.hand/\D.str (word w'.rd)=D.str (word w.rd)/\w'.en=some (y.aR+c+m)):=by
 unfold nP
 rw[eP,eP]
 obtain⟨P1,u1,_⟩:=lz (fun _=>true) L.I c (by rw[L.kl];exact qO_ _)
 have d1:(dm y ((List.range c).map fun k=>swK true k)).aR=y.aR+c:=by
  have:=(kA L.I ((List.range c).map fun k=>swK true k)).2.1
  simpa using this
 generalize dm y ((List.range c).map fun k=>swK true k)=z at P1 u1 d1
 have aw:∀(k:Nat) h,z.au.hs[k]? =some h->h.atw=true:=fun k h e=>by
  rw[P1.hs]at e
  have hk:k < m:=by rw[<-L.hl];exact(qB_.mp e).1
  obtain⟨g,e',a,_⟩:=(L.vh k hk).hd
  rw[e]at e'
  cases e'
  exact a
 obtain⟨P2,k2,r2⟩:=sW P1.I aw m (by rw[P1.hs,L.hl];exact qO_ _)
 have d2:(dm z ((List.range m).map fun k:Nat=>bR.ag (k:Int))).aR=y.aR+c+m:=by
  have:=(kA P1.I ((List.range m).map fun k:Nat=>bR.ag (k:Int))).2.1
  rw[d1]at this
  simpa using this
 generalize dm z ((List.range m).map fun k:Nat=>bR.ag (k:Int))=t at P2 k2 r2 d2
 have P:=P1.trans P2
 have tkl:t.au.ks.length=c:=by rw[P.kl];exact L.kl
 have cov:∀k,k < m->Cov k t.au:=fun k hk=>by
  obtain⟨g,e,a,pn,hd,_⟩:=(L.vh k hk).hd
  have e':t.au.hs[k]? =some g:=by rw[P.hs];exact e
  refine⟨g,e',a,fun i hi=>?_,?_⟩
  · have hi':i < z.au.ks.length:=by
     unfold upK at hi
     cases hx:t.au.ks[i]? with
     |none=>rw[hx]at hi;cases hi
     |some kx=>
      have:=(qB_.mp hx).1
      rw[k2]at this
      exact this
    exact r2 k hk g (by rw[P1.hs];exact e) i hi'
  · rw[tkl]
    have:=jZ (a:=g.aA.map (·.1)) (b:=U) (L.I.W.W.hk k g e).2.2.2.1 fun x hx=>by
     obtain⟨y,hy,rfl⟩:=qH_.mp hx
     exact hd y hy
    rw[qM_]at this
    omega
 have hup:∃us:List Nat,us.Nodup/\t.au.ks.length < 2*us.length/\∀k∈us,upK t.au.ks k=true:=by
  refine⟨List.range c,List.nodup_range,by rw[tkl,List.length_range];omega,fun k hk=>?_⟩
  rw[k2,u1,if_pos (List.mem_range.mp hk)]
 obtain⟨_,dn⟩:=wO P.I.W.W hup
 have hds:doneF t .sw= .ok (endsF t ((cV ba t.au).1,(cV ba t.au).2)) (.lst (oo t (cV ba t.au))):=rfl
 obtain⟨e1,e2,e3,e4,e5⟩:=gT hds
 have len:t.av.length=y.av.length:=by have:=congrArg List.length P.td;simpa using this
 refine⟨by show (bb t .sw).1.av.length=_;rw[e4,len],fun p w w' hw hw'=>?_⟩
 have hw':(bb t .sw).1.av[p]? =some w':=hw'
 obtain⟨wt,ht,a1,a2,a3,a4⟩:=e5 p w' hw'
 have tt:cp wt=cp w:=by
  have e:(t.av.map cp)[p]? =(y.av.map cp)[p]?:=by rw[P.td]
  rw[qQ_,qQ_,ht,hw]at e
  exact Option.some.inj e
 obtain⟨b1,b2,b3⟩:=xk tt
 have tla:∀k q,(k,q)∈t.last->q=w0+k:=fun k q hq=>by
  have hk:k < m:=by
   have:=(P.I.W.la _ hq).1
   rw[P.hs,L.hl]at this
   exact this
  rw[P.la]at hq
  exact(L.la k q hq).1 hk
 have hat:∀e∈(cV ba t.au).2,e.1∈t.last.map (·.1):=fun e he=>by
  obtain⟨g,g1,g2⟩:=(lq dR (mea t.au) t.au P.I.W.W (qO_ _)).2.2 e he
  exact P.I.W.atw _ g g1 g2
 refine⟨fun hp=>?_,fun hp=>⟨a1.trans b1,by rw[a2];exact b2,?_⟩⟩
 · rcases a4 with ⟨a4,a5⟩ |⟨e,he,c1,_,_⟩
   · rw[<-tt]
     exact yf a1 a2 a4 a3 a5
   · have:=tla _ _ (gY (hat e he))
     omega
 · have plt:=(qB_.mp hw).1
   rw[L.wl]at plt
   obtain⟨k,rfl⟩:∃k,p=w0+k:=⟨p - w0,by omega⟩
   have hk:k < m:=by omega
   obtain⟨g,Q,g1,g2,hQ⟩:=dn k (cov k hk)
   have lk:lastOf t.last k=w0+k:=tla _ _ (gY (hat (k,Q) hQ))
   have ne:w'.en≠none:=by
    intro hn
    have hw2:((dB (aG t (cV ba t.au).1) (cV ba t.au).2).last.foldl bV (dB (aG t (cV ba t.au).1) (cV ba t.au).2)).av[w0+k]? =some w':=hw'
    rw[iO]at hw2
    cases hw1:(dB (aG t (cV ba t.au).1) (cV ba t.au).2).av[w0+k]? with
    |none=>rw[hw1]at hw2;cases hw2
    |some w1=>
     rw[hw1]at hw2
     have hw2:=Option.some.inj hw2
     have en1:w1.en=none:=by
      rw[<-hw2]at hn
      rw[(lB _ w1).2.2.2.2]at hn
      exact hn
     obtain⟨_,_,_,iff⟩:=tq (cV ba t.au).2 (aG t (cV ba t.au).1) (w0+k) w1 hw1
     exact(iff.mp en1).2 (qH_.mpr ⟨(k,Q),hQ,lk⟩)
   rcases a4 with ⟨_,a5⟩ |⟨e,he,_,_,a6⟩
   · exfalso
     apply ne
     obtain⟨w1,h1,_,_,h3⟩:=L.new k hk
     rw[hw]at h1
     cases h1
     rw[a5]
     rw[h3]at b3
     cases hx:wt.en with
     |none=>rfl
     |some x=>rw[hx]at b3;cases b3
   · rw[a6,d2]
section
variable{G G':Hh}{Q:D->Hh->Prop}{E:Nat->Hh->Prop}{σ:St}{y:Sy}{QS:Fl×St->Hh->Prop}
def kI(w:Nat->Bool)(k:Nat):bR:=if w k then .wr (k:Int) 5 else .rd (k:Int)
theorem IX{w:Nat->Bool}{k:Nat}(h:w k=true):kI w k= .wr (k:Int) 5:=if_pos h
theorem Hx{w:Nat->Bool}{k:Nat}(h:w k=false):kI w k= .rd (k:Int):=if_neg (by rw[h];exact qC_)
theorem FO(w:Nat->Bool)(k:Nat):∃rd v,∀y,doneF y (kI w k)=cX y (k:Int) rd v:=by
 unfold kI
 cases w k with
 |true=>exact⟨false,some 5,fun _=>rfl⟩
 |false=>exact⟨true,none,fun _=>rfl⟩
theorem C9{c:Nat}{ups:List Int}(h:2*ups.length<=c):¬c < ((List.range c).filter fun k:Nat=>decide ((k:Int)∈ups)).length*2:=by
 have:=jZ (a:=(List.range c).filter fun k:Nat=>decide ((k:Int)∈ups)) (b:=ups.map Int.toNat) (List.nodup_range.filter _) fun x hx=>by
  have:=of_decide_eq_true (List.mem_filter.mp hx).2
  exact qH_.mpr ⟨_,this,by simp⟩
 rw[qM_]at this
 omega
theorem qA(m:Nat)(bg:Nat->bR)(q:Int)(n:Nat):(ly m bg q n).length=3*n:=by
 induction n with
 |zero=>rfl
 |succ n ih=>
  have e:ly m bg q (n+1)=ly m bg q n++[.qu (n:Int),bg n,.pa (n:Int) q]:=by
   unfold ly
   rw[List.range_succ,List.flatMap_append]
   simp
  rw[e,qN_,ih]
  simp
  omega
theorem yR(c m:Nat)(up:Nat->Bool)(bg:Nat->bR)(q:Int):(pP c m up bg q).length=c+4*m+1:=by
 unfold pP
 simp [qA]
 omega
theorem Bh{c m:Nat}{ci mi cell:Int}(hci:ci=(c:Int))(hmi:mi=(m:Int))(hc:0 < c)(hc9:c<=9)(hm9:m<=9)
 (h:∀(ups:List Int) (w:Nat->Bool) (q:Int) l G',2*ups.length<=c->Chg [] G G'->G.length<=l->G'[l]? =some (.lst ((pP c m (fun k:Nat=>decide ((k:Int)∈ups)) (kI w) q).map bO))->Q (.ref l) G'):M3.run (ox [.int cell,.int ci,.int mi]) G Q E:=by
 walk_at "f"
 unfold vy
 refine aI (bJ (bc ?_))
 walk_at "r"
 refine jI (by omega) ?_
 generalize cell*48271 % 1061 % ci=first
 refine w_next ?_
 walk_at "s"
 refine aI (bJ (bc ?_))
 walk_at "r"
 refine Gv (by omega) ?_
 walk_at "r"
 have hd1:0 < ci / 2+1:=by omega
 refine jI hd1 ?_
 have s1:0<=cell*48271 % 1063 % (ci / 2+1):=Int.emod_nonneg _ (by omega)
 have s2:cell*48271 % 1063 % (ci / 2+1) < ci / 2+1:=Int.emod_lt_of_pos _ hd1
 generalize cell*48271 % 1063 % (ci / 2+1)=sm at*
 obtain⟨s,hs⟩:=Int.eq_ofNat_of_zero_le s1
 have hs2:2*s<=c:=by omega
 refine w_next ?_
 walk_at "s"
 refine aI (bJ (iE (gF (w_var rfl ?_))))
 with_reducible refine lD hs (by omega) ?_
 rw[yG]
 with_reducible refine iN (f:=ku) (p:=fun _=>true) (g:=fun k:Nat=>D.int ((first+(k:Int)) % ci)) rfl (by simp;omega) (fun x _=>?_) (fun x _ _=>?_) ?_
 · exact jD ⟨rfl,rfl⟩
 · unfold ku
   refine bc (bc (w_var rfl (w_var rfl ?_)))
   with_reducible refine xc ?_
   refine w_var rfl ?_
   with_reducible exact jI (by omega) ⟨rfl,rfl⟩
 rw[List.filter_eq_self.mpr (by simp)]
 intro G1 c1 l1 h1
 have eg:(List.range s).map (fun k:Nat=>D.int ((first+(k:Int)) % ci))=((List.range s).map fun k:Nat=>(first+(k:Int)) % ci).map D.int:=by rw[qb_];rfl
 rw[eg]at h1
 have hg:2*((List.range s).map fun k:Nat=>(first+(k:Int)) % ci).length<=c:=by simpa using hs2
 generalize (List.range s).map (fun k:Nat=>(first+(k:Int)) % ci)=ups at h1 hg
 refine w_next ?_
 walk_at "s"
 refine aI (bJ (gB fun G2 c2 l2 h2=>w_next ?_))
 walk_at "s"
 have h12:=c2.get h1 (by simp)
 generalize hl1:G1.length=la at*
 have hla:G.length < la:=by have:=c1.1;omega
 refine aI (qN (gF (w_var rfl ?_)))
 with_reducible refine lD hci (by omega) ?_
 refine qW (fun i σ G'=>∃v,σ=[some (.int cell),some (.int ci),some (.int mi),some (.int first),some (.int sm),some (.ref G.length),some (.ref la),v]/\Chg [] G G'/\G'[G.length]? =some (.lst (ups.map D.int))/\G'[la]? =some (.lst (((List.range i).map fun k:Nat=>swK (decide ((k:Int)∈ups)) k).map bO))) ?_ ?_ ⟨none,rfl,c1.trans c2,h12,h2⟩
 · rintro i σ G3 hi ⟨v,rfl,c3,h3,h4⟩
   refine aK ?_
   with_reducible refine kT ?_
   walk_at "s"
   refine eE (qT (w_var rfl (jy h4 ?_)))
   refine bc ?_
   refine iq ?_
   walk_at "r"
   intro G4 c4 l4 h5
   refine dq (ay (bc (w_var rfl (w_var rfl ?_))))
   refine GW (b:=decide ((i:Int)∈ups)) ?_ ?_
   · unfold inG
     dsimp only
     rw[c4.get h3 (by simp)]
     exact rJ
   refine aJ (AV ?_)
   have hcc:Chg [] G G4:=c3.trans c4
   have fin:∀d:D,d=bO (swK (decide ((i:Int)∈ups)) i)->M3.run (iM (.ref la) d) G4 (fun x G5=>∃v,[some (D.int cell),some (D.int ci),some (D.int mi),some (D.int first),some (D.int sm),some (D.ref G.length),some (D.ref la),some (D.int (i:Int))]=[some (.int cell),some (.int ci),some (.int mi),some (.int first),some (.int sm),some (.ref G.length),some (.ref la),v]/\Chg [] G G5/\G5[G.length]? =some (.lst (ups.map D.int))/\G5[la]? =some (.lst (((List.range (i+1)).map fun k:Nat=>swK (decide ((k:Int)∈ups)) k).map bO))) E:=by
    rintro d rfl
    refine gf (c4.get h4 (by simp)) (by simp [aM];omega) fun G5 c5 l5 h6=>?_
    refine⟨_,rfl,hcc.trans' c5 (by intro n hn;simp at hn;exact .inr (by omega)),c5.get (c4.get h3 (by simp)) (by simp;omega),?_⟩
    rw[List.range_succ,qT_,qT_]
    exact h6
   cases q:decide ((i:Int)∈ups)with
   |true=>
    refine fz h5 rfl ?_
    exact fin _ (by rw[q];rfl)
   |false=>
    refine fz h5 rfl ?_
    exact fin _ (by rw[q];rfl)
 rintro σ G3 ⟨v,rfl,c3,h3,h4⟩
 with_reducible refine w_next ?_
 have sl:((List.range c).map fun k:Nat=>swK (decide ((k:Int)∈ups)) k).length=c:=by simp
 generalize hA:(List.range c).map (fun k:Nat=>swK (decide ((k:Int)∈ups)) k)=A at h4 sl
 have hq:0 < ci:=by omega
 obtain⟨bf,hbf⟩:∃bf:Nat->Bool,∀k:Nat,bf k=decide ((cell+(k:Int))*48271 % 1069 % 2=1):=⟨_,fun _=>rfl⟩
 obtain⟨qv,hqv⟩:∃qv:Int,cell*48271 % 1087 % ci=qv:=⟨_,rfl⟩
 refine aI (qN (gF (w_var rfl ?_)))
 with_reducible refine lD hmi (by omega) ?_
 refine qW (fun i σ G'=>∃v,σ=[some (.int cell),some (.int ci),some (.int mi),some (.int first),some (.int sm),some (.ref G.length),some (.ref la),v]/\Chg [] G G'/\G'[la]? =some (.lst ((A++ly m (kI bf) qv i).map bO))) ?_ ?_ ⟨v,rfl,c3,by rw[show ly m (kI bf) qv 0=[]from rfl,qY_];exact h4⟩
 · rintro i σ G4 hi ⟨v,rfl,c4,h5⟩
   have fl:=qA m (kI bf) qv i
   refine aK ?_
   with_reducible refine kT ?_
   walk_at "s"
   refine aI (eE (qT (w_var rfl (jy h5 ?_))))
   walk_at "r"
   refine gf h5 (by rw[qM_,qN_,sl,fl];unfold aM;omega) fun G5 c5 l5 h6=>?_
   refine w_next ?_
   refine aI (eE (qT (w_var rfl (jy h6 ?_))))
   refine bc ?_
   refine iq ?_
   walk_at "r"
   intro G6 c6 l6 h7
   have kc:Chg [] G G6:=(c4.trans' c5 (by intro n hn;simp at hn;exact .inr (by omega))).trans c6
   have b1:0<=(cell+(i:Int))*48271 % 1069 % 2:=Int.emod_nonneg _ (by decide)
   have b2:(cell+(i:Int))*48271 % 1069 % 2 < 2:=Int.emod_lt_of_pos _ (by decide)
   have es:ly m (kI bf) qv (i+1)=ly m (kI bf) qv i++[.qu (i:Int),kI bf i,.pa (i:Int) qv]:=by
    unfold ly
    rw[List.range_succ,List.flatMap_append]
    simp
   have fin:∀(d:D) (R:Fl×St->Hh->Prop),d=bO (kI bf i)->(∀G8,Chg [] G G8->G8[la]? =some (.lst ((A++ly m (kI bf) qv (i+1)).map bO))->R (.next,[some (D.int cell),some (D.int ci),some (D.int mi),some (D.int first),some (D.int sm),some (D.ref G.length),some (D.ref la),some (D.int (i:Int))]) G8)->M3.run (iM (.ref la) d) G6 (fun x G7=>M3.run (sK (cY (pY (af 6) (cH (ah (eC (.str "pass")) (ah (af 7) (ah (eOp oMod (eOp oMod (eOp gH (af 0) (eC (.int 48271))) (eC (.int 1087))) (af 1)) ax)))))) (Fl.next,[some (D.int cell),some (D.int ci),some (D.int mi),some (D.int first),some (D.int sm),some (D.ref G.length),some (D.ref la),some (D.int (i:Int))])) G7 R E) E:=by
    rintro d R rfl hR
    refine gf (c6.get h6 (by simp)) (by rw[qN_,qM_,qN_,sl,fl];simp [aM];omega) fun G7 c7 l7 h8=>?_
    refine w_next ?_
    refine eE (qT (w_var rfl (jy h8 ?_)))
    walk_at "r"
    with_reducible refine jI hq ?_
    rw[hqv]
    walk_at "r"
    refine gf h8 (by rw[qN_,qN_,qM_,qN_,sl,fl];simp [aM];omega) fun G8 c8 l8 h9=>?_
    refine hR G8 ((kc.trans' c7 (by intro n hn;simp at hn;exact .inr (by omega))).trans' c8 (by intro n hn;simp at hn;exact .inr (by omega))) ?_
    rw[h9,es]
    congr 2
    simp [bO]
   walk_at "r"
   cases q:decide ((cell+(i:Int))*48271 % 1069 % 2=1)with
   |true=>
    have q1:(cell+(i:Int))*48271 % 1069 % 2=1:=of_decide_eq_true q
    rw[q1]
    refine fz h7 rfl ?_
    with_reducible refine fin _ _ ?_ ?_
    · rw[IX ((hbf i).trans q)];rfl
    · exact fun G8 a b=>⟨_,rfl,a,b⟩
   |false=>
    have q1:(cell+(i:Int))*48271 % 1069 % 2=0:=by
     have:¬_:=of_decide_eq_false q
     omega
    rw[q1]
    refine fz h7 rfl ?_
    with_reducible refine fin _ _ ?_ ?_
    · rw[Hx ((hbf i).trans q)];rfl
    · exact fun G8 a b=>⟨_,rfl,a,b⟩
 rintro σ G4 ⟨v,rfl,c4,h5⟩
 with_reducible refine w_next ?_
 have fl:=qA m (kI bf) qv m
 generalize hB:A++ly m (kI bf) qv m=B at h5
 have bl:B.length=c+3*m:=by rw[<-hB,qN_,sl,fl]
 refine aI (qN (gF (w_var rfl ?_)))
 with_reducible refine lD hmi (by omega) ?_
 refine qW (fun i σ G'=>∃v,σ=[some (.int cell),some (.int ci),some (.int mi),some (.int first),some (.int sm),some (.ref G.length),some (.ref la),v]/\Chg [] G G'/\G'[la]? =some (.lst ((B++(List.range i).map (fun k:Nat=>bR.ag (k:Int))).map bO))) ?_ ?_ ⟨v,rfl,c4,by rw[show (List.range 0).map (fun k:Nat=>bR.ag (k:Int))=[]from rfl,qY_];exact h5⟩
 · rintro i σ G5 hi ⟨v,rfl,c5,h6⟩
   refine aK ?_
   with_reducible refine kT ?_
   walk_at "s"
   refine eE (qT (w_var rfl (jy h6 ?_)))
   walk_at "r"
   refine gf h6 (by rw[qM_,qN_,bl];simp [aM];omega) fun G6 c6 l6 h7=>?_
   refine⟨_,rfl,c5.trans' c6 (by intro n hn;simp at hn;exact .inr (by omega)),?_⟩
   rw[h7,List.range_succ]
   congr 2
   simp [bO]
 rintro σ G5 ⟨v,rfl,c5,h6⟩
 with_reducible refine w_next ?_
 refine cS (bc (w_var rfl ?_))
 refine iq ?_
 walk_at "r"
 intro G6 c6 l6 h7
 refine ke (c6.get h6 (by simp)) h7 (by rw[qM_,qN_,bl];simp [aM];omega) fun G7 c7 l7 h8=>?_
 walk_at "r"
 refine h ups bf qv _ G7 hg ((c5.trans c6).trans c7) (by have:=c5.1;have:=c6.1;omega) ?_
 rw[h8]
 unfold pP
 rw[hA,hB]
 congr 2
 simp [bO]
theorem Fu{k:Nat}(o:Option Nat):eqG G (k+1) (nD o) (nD o)=some true:=by cases o with
 |none=>rfl
 |some n=>exact eJ _
theorem FU{k:Nat}(o:Option Int):eqG G (k+1) (oD o) (oD o)=some true:=by cases o with
 |none=>rfl
 |some n=>exact eJ _
theorem B5(w:Wk)(k:Nat):eqG G (k+2) (cp w) (cp w)=some true:=by
 unfold cp
 refine jf fun x hx=>?_
 simp only[qS_,List.not_mem_nil,or_false]at hx
 rcases hx with rfl |rfl |rfl |rfl |rfl
 · exact eJ _
 · exact gz _
 · exact FU _
 · exact eJ _
 · exact Fu _
theorem ve{U:List Nat}{n0 w0 c m:Nat}{y:Sy}(L:LS U n0 w0 m c m y):(List.range y.av.length).filter (fun p=>(y.av[p]?).any fun w=>decide (n0<=w.beg))=(List.range m).map fun k=>w0+k:=by
 rw[L.wl]
 have key:∀n,n<=m->(List.range (w0+n)).filter (fun p=>(y.av[p]?).any fun w=>decide (n0<=w.beg))=(List.range n).map fun k=>w0+k:=by
  intro n
  induction n with
  |zero=>
   intro _
   show (List.range w0).filter _=[]
   rw[List.filter_eq_nil_iff]
   intro p hp
   have hp:=List.mem_range.mp hp
   have hlt:p < y.av.length:=by rw[L.wl];omega
   rw[qA_ hlt]
   have:=L.old p _ hp (qA_ hlt)
   show ¬decide (n0<=_)=true
   rw[decide_eq_true_eq]
   omega
  |succ n ih=>
   intro hn
   rw[<-Nat.add_assoc,List.range_succ,List.filter_append,ih (by omega),List.range_succ,qT_]
   congr 1
   obtain⟨w,hw,_,hb,_⟩:=L.new n (by omega)
   rw[List.filter_cons,hw]
   show (if decide (n0<=w.beg)=true then _ else _)=_
   rw[if_pos (qZ_ hb)]
   rfl
 exact key m (qO_ _)
theorem Ah{w:Wk}(h:Q (.tup [.int (w.hand:Int),.str (word w.rd)]) G):M3.run (oSl (cp w) none (some 2)) G Q E:=by
 refine aW (a:= .tup [.int (w.hand:Int),.str (word w.rd)]) (G':=G) ?_ h
 rfl
theorem uF{U:List Nat}{n0 w0 c m lw l7:Nat}{x0 x1 x2 x3 x4 x5:Option D}(L:LS U n0 w0 m c m y)(hw:G[lw]? =some (.lst (y.av.map cp)))(h7:G[l7]? =some (.lst (((List.range m).map fun k=>w0+k).map ku)))
 (h:∀v,QS (.next,[x0,x1,x2,x3,x4,x5,some (.ref lw),some (.ref l7),v,none,none]) G):
 M3.run ((kJ (iOf (af 7)) (gNm 8) (sIf (tB (eUn mX (eOp oIx (eOp oIx (af 6) (af 8)) (eC (.int 4))))) (aU (eC (.bl false))) bU)) [x0,x1,x2,x3,x4,x5,some (.ref lw),some (.ref l7),none,none,none]) G QS E:=by
 refine qN (pA (w_var rfl (gO h7 ?_)))
 refine kN (f:=ku) (fun i σ G'=>∃v,σ=[x0,x1,x2,x3,x4,x5,some (.ref lw),some (.ref l7),v,none,none]/\G'=G) ?_ ?_ ?_ ⟨none,rfl,rfl⟩
 · rintro i σ G' ⟨v,_,rfl⟩
   exact qZ_ h7
 · rintro i p σ G' hp ⟨v,rfl,rfl⟩
   obtain⟨k,hk,rfl⟩:=qH_.mp (qD_ hp)
   obtain⟨w,hw1,_,_,he⟩:=L.new k (List.mem_range.mp hk)
   refine aK ?_
   with_reducible refine kT ?_
   walk_at "s"
   refine fQ (jJ (t6 (bc (bc (w_var rfl (w_var rfl (wK hw hw1 (w_c (cy rfl ?_)))))))))
   refine qR ?_
   rw[xY,he]
   refine iy ?_
   rw[show (!(none:Option Nat).isNone)=false from rfl,if_neg qC_]
   exact m7 ⟨_,rfl,rfl⟩
 · rintro σ G' ⟨v,rfl,rfl⟩
   exact h v
theorem yW{n0 w0 c m lw l7 l9 lr a2 a3:Nat}{U:List Nat}{z:Sy}{ds:List bR}{x0 x1 x2 x3 x4 v:Option D}(L:LS U n0 w0 m c m y)(hz:y.av.length<=1000)(hdl:ds.length<=1000)(hw:G[lw]? =some (.lst (y.av.map cp)))(hr:G[lr]? =some (.lst (z.av.map cp)))(h7:G[l7]? =some (.lst (((List.range m).map fun k=>w0+k).map ku)))(h9:G[l9]? =some (.lst (ds.map bO)))
 (hl:z.av.length=y.av.length) (hc:∀(p:Nat) w w',y.av[p]? =some w->z.av[p]? =some w'->(p < w0->cp w'=cp w)/\(w0<=p->w'.hand=w.hand/\D.str (word w'.rd)=D.str (word w.rd)/\w'.en=some (ds.length - 1))) (hd1:0 < ds.length)
 (h:∀u v,QS (.next,[x0,x1,x2,x3,x4,some (.tup [.ref lr,.ref a2,.ref a3]),some (.ref lw),some (.ref l7),u,some (.ref l9),v]) G):
 M3.run ((kJ (gI (aP fw (ah (af 6) ax))) (gNm 8) (aD (bY 10 (eOp oIx (eOp oIx (af 5) (eC (.int 0))) (af 8)))
 (sIf (tB (eOp oIn (af 8) (af 7))) (sIf (tOr (tB (eOp oNe (eOp oIx (af 10) (eC (.int 4))) (eOp vA (aP fw (ah (af 9) ax)) (eC (.int 1))))) (tB (eOp oNe (eSl (af 10) oH (lF (eC (.int 2)))) (eSl (eOp oIx (af 6) (af 8)) oH (lF (eC (.int 2))))))) (aU (eC (.bl false))) bU) (sIf (tB (eOp oNe (af 10) (eOp oIx (af 6) (af 8)))) (aU (eC (.bl false))) bU)))) [x0,x1,x2,x3,x4,some (.tup [.ref lr,.ref a2,.ref a3]),some (.ref lw),some (.ref l7),v,some (.ref l9),none]) G QS E:=by
 refine qN (gF (dq (ay (w_var rfl (aJ (fR hw ?_))))))
 rw[qM_]
 with_reducible refine lK (by omega) ?_
 refine qW (fun i σ G'=>∃u v,σ=[x0,x1,x2,x3,x4,some (.tup [.ref lr,.ref a2,.ref a3]),some (.ref lw),some (.ref l7),u,some (.ref l9),v]/\G'=G) ?_ ?_ ⟨_,_,rfl,rfl⟩
 · rintro p σ G1 hp ⟨u,v,rfl,rfl⟩
   have hwp:y.av[p]? =some (y.av[p]):=qA_ hp
   have hzp:z.av[p]? =some (z.av[p]'(by rw[hl];exact hp)):=qA_ _
   generalize y.av[p]=w at hwp
   generalize z.av[p]'(by rw[hl];exact hp)=w' at hzp
   obtain⟨c1,c2⟩:=hc p w w' hwp hzp
   refine aK ?_
   with_reducible refine kT ?_
   walk_at "s"
   have hpd:D.int (p:Int)=ku p:=rfl
   rw[hpd]
   refine aI (bJ (bc (bc (w_var rfl (w_c (cy rfl (w_var rfl (wK hr hzp (w_next ?_)))))))))
   walk_at "s"
   refine fQ (jJ (bc (w_var rfl (w_var rfl ?_))))
   refine GW (b:=decide (w0<=p)) ?_ (iy ?_)
   · unfold inG ku
     dsimp only
     rw[h7]
     have:=rJ (G:=G1) (p:=(p:Int)) (os:=(((List.range m).map fun k=>w0+k).map fun p:Nat=>(p:Int)))
     rw[qb_]at this
     refine Eq.trans this ?_
     congr 1
     refine decide_eq_decide.mpr ⟨fun q=>?_,fun q=>?_⟩
     · obtain⟨x,hx,e⟩:=qH_.mp q
       obtain⟨k,_,rfl⟩:=qH_.mp hx
       omega
     · have hpl:=hp
       rw[L.wl]at hpl
       exact qH_.mpr ⟨p,qH_.mpr ⟨p - w0,List.mem_range.mpr (by omega),by omega⟩,rfl⟩
   by_cases q:w0<=p
   · rw[qZ_ q,if_pos rfl]
     obtain⟨d1,d2,d3⟩:=c2 q
     refine fQ (vz (jJ (bc (bc (w_var rfl (w_c (cy rfl (bc (dq (ay (w_var rfl (aJ (fR h9 ?_)))))))))))))
     rw[qM_]
     refine w_c ?_
     with_reducible refine Ax ?_
     rw[d3]
     refine pW (b:=true) ?_ (iy ?_)
     · show some (decide (((ds.length - 1:Nat):Int)=(ds.length:Int) - 1))=some true
       rw[qZ_ (by omega)]
     rw[show (!true)=false from rfl,if_neg qC_]
     refine jJ (bc (Cg (w_var rfl (uB (oQ (w_c (wH (Ah (Cg (bc (w_var rfl (w_var rfl (wK hw hwp (uB (oQ (w_c (wH (Ah ?_))))))))))))))))))
     rw[d1,d2]
     refine pW (b:=true) (jf (all2 (eJ _) (gz _))) (iy ?_)
     rw[show (!true)=false from rfl,if_neg qC_]
     exact m7 ⟨_,_,rfl,rfl⟩
   · rw[qa_ q,if_neg qC_]
     refine fQ (jJ (bc (w_var rfl (bc (w_var rfl (w_var rfl (wK hw hwp ?_)))))))
     rw[c1 (by omega)]
     refine pW (b:=true) (B5 w 6) (iy ?_)
     rw[show (!true)=false from rfl,if_neg qC_]
     exact m7 ⟨_,_,rfl,rfl⟩
 · rintro σ G1 ⟨u,v,rfl,rfl⟩
   exact h u v
theorem Hc{ns:List Int}(hl:G[0]? =some (.frz (ns.map D.int)))(hQ:∀G',Q (.bl true) G'):M3.run (qQ [.ref 0]) G Q E:=by
 walk_at "f"
 unfold DV
 refine aI (bJ (bc ?_))
 refine iq ?_
 walk_at "r"
 intro G1 c1 l1 h1
 have f1:=c1.get hl (by simp)
 refine bc (bc (bc (dq (ay (w_var rfl (ay (w_c (aJ (FI (k:=0) f1 fun x=>?_)))))))))
 walk_at "r"
 have i1:0<=x*48271 % 1049 % 12:=Int.emod_nonneg _ (by decide)
 have i2:x*48271 % 1049 % 12 < 12:=Int.emod_lt_of_pos _ (by decide)
 obtain⟨ci,mc,e⟩:=p8 (xs:=[3,3,3,1,2,4,5,3,7,8,9,3]) i1 i2
 refine fz h1 e ?_
 obtain⟨c,hci,hc0,hc9⟩:=vF mc (by decide)
 clear i1 i2 e mc
 refine w_next ?_
 walk_at "s"
 refine aI (bJ (bc ?_))
 refine iq ?_
 walk_at "r"
 intro G2 c2 l2 h2
 have f2:=c2.get f1 (by simp)
 refine bc (bc (bc (dq (ay (w_var rfl (ay (w_c (aJ (FI (k:=0) f2 fun x'=>?_)))))))))
 walk_at "r"
 have i1:0<=x'*48271 % 1051 % 8:=Int.emod_nonneg _ (by decide)
 have i2:x'*48271 % 1051 % 8 < 8:=Int.emod_lt_of_pos _ (by decide)
 obtain⟨mi,mm,e⟩:=p8 (xs:=[2,2,3,1,2,3,2,9]) i1 i2
 refine fz h2 e ?_
 obtain⟨m,hmi,hm0,hm9⟩:=vF mm (by decide)
 clear i1 i2 e mm
 refine w_next ?_
 walk_at "s"
 refine aI (bJ (dq (ay (Cg (w_var rfl (oQ (w_c (wH (oQ (w_c (wH ?_)))))))))))
 refine Fw f2 fun G3 c3 l3 h3=>?_
 obtain⟨ms,em,hms⟩:=BX ns 2 16
 have em':cutD (ns.map D.int) (some 2) (some 16)=ms.map D.int:=em
 rw[em']at h3
 refine ay (w_var rfl (ay (w_var rfl (aJ ?_))))
 refine DF hci hmi hc0 hm0 h3 (by omega) fun ds ld G4 c4 g4 hds _ h4=>?_
 have f4:=c4.get (c3.get f2 (by simp)) (by simp)
 refine w_next ?_
 walk_at "s"
 clear h1 h2 h3 em em' hms c1 c2 c3 c4 f1 f2 hl
 refine aI (bJ (bc (w_var rfl (dq (ay (dq (ay (w_var rfl (ay (w_c (aJ (FI (k:=1) f4 fun x''=>?_))))))))))))
 refine ay (w_var rfl (ay (w_var rfl (aJ ?_))))
 refine Bh hci hmi hc0 hc9 hm9 fun ups wf q lf G5 hups c5 g5 h5=>?_
 have hfl:=yR c m (fun k:Nat=>decide ((k:Int)∈ups)) (kI wf) q
 refine ke (c5.get h4 (by simp)) h5 (by rw[qM_,qM_,hfl];unfold aM;omega) fun G6 c6 l6 h6=>?_
 rw[<-qT_]at h6
 have hU:=C9 hups
 have L:=Ek hc9 hm9 ds (q:=q) (FO wf) hU
 have hzl:(ds++pP c m (fun k:Nat=>decide ((k:Int)∈ups)) (kI wf) q).length<=80:=by rw[qN_,hfl];omega
 generalize hlg:ds++pP c m (fun k:Nat=>decide ((k:Int)∈ups)) (kI wf) q=lg at h6 L hzl
 have d6:=(c5.trans c6).get h4 (by simp)
 refine w_next ?_
 walk_at "s"
 clear c5 c6 g5 h5 h4 f4
 generalize hl4:G5.length=l4 at*
 clear hl4 l6
 refine aI (bJ (dq (ay (w_var rfl (ay (w_var rfl (ay (w_var rfl (aJ ?_)))))))))
 refine rk hci hmi hc9 hm9 h6 (by omega) fun a1 a2 a3 G7 c7 g1 g2 g3 A7=>?_
 refine w_next ?_
 walk_at "s"
 have h7:=c7.get h6 (by simp)
 have d7:=c7.get d6 (by simp)
 refine aI (fQ (jJ (t6 (w_var rfl (Bq ?_)))))
 rw[show decide (D.tup [D.ref a1,D.ref a2,D.ref a3]=D.non)=false from rfl]
 refine iy ?_
 rw[if_neg qC_]
 refine m7 (w_next ?_)
 refine aI (bJ (bc (w_var rfl (w_c (cy rfl (w_next ?_))))))
 walk_at "s"
 have I0:=lQ hc9 hm9
 obtain⟨I1,hdd,_,_⟩:=kA I0 lg
 have hwl:(dm (cT c m) lg).av.length<=1000:=by
  have:=I1.w
  rw[hdd]at this
  have:(dm (cT c m) lg).av.length<=0+lg.length:=this
  omega
 have hdy:(dm (cT c m) lg).aR=lg.length:=by rw[hdd];show 0+_=_;omega
 have run2:dm (cT c m) (lg++nP c m)=dm (dm (cT c m) lg) (nP c m):=eP _ _ _
 generalize hy:dm (cT c m) lg=yy at*
 refine aI (bJ (iE (gF (dq (ay (w_var rfl (aJ (fR A7.1 ?_))))))))
 rw[qM_]
 with_reducible refine lK (by omega) ?_
 rw[yG]
 with_reducible refine GB (p:=fun p=>(yy.av[p]?).any fun w=>decide (ds.length<=w.beg)) rfl (by simp;omega) (fun p hp=>?_) (fun p=>?_) ?_
 · have hp':p < yy.av.length:=List.mem_range.mp hp
   have hxw:yy.av[p]? =some yy.av[p]:=qA_ hp'
   generalize yy.av[p]=w at hxw
   refine jJ (bc (bc (bc (w_var rfl (w_var rfl (wK A7.1 hxw (w_c (cy rfl (dq (ay (w_var rfl (aJ (fR d7 ?_)))))))))))))
   rw[qM_]
   with_reducible refine DM ?_
   refine iy ⟨rfl,?_⟩
   rw[hxw]
   show _=decide (ds.length<=w.beg)
   exact decide_eq_decide.mpr ⟨fun z=>by omega,fun z=>by omega⟩
 · exact w_var rfl ⟨rfl,rfl⟩
 rw[ve L]
 intro G8 c8 l8 h8
 refine w_next ?_
 walk_at "s"
 have A8:=A7.1
 have w8:=c8.get A8 (by simp)
 have h78:=c8.get h7 (by simp)
 refine aI (fQ (jJ (bc (dq (ay (w_var rfl (aJ (fR h8 (w_var rfl ?_)))))))))
 refine pW (b:=true) ?_ (iy ?_)
 · rw[eq_int,hmi];simp
 rw[show (!true)=false from rfl,if_neg qC_]
 refine m7 (w_next ?_)
 generalize hl7:G7.length=l7 at*
 refine aI (uF L w8 h8 fun v=>?_)
 refine w_next ?_
 refine aI (bJ (bc (w_var rfl ?_)))
 refine iE (gF (w_var rfl ?_))
 with_reducible refine lD hci (by omega) ?_
 rw[yG]
 with_reducible refine iN (f:=ku) (p:=fun _=>true) (g:=fun k:Nat=>bO (swK true k)) rfl (by simp;omega) (fun x _=>?_) (fun x _ _=>?_) ?_
 · exact jD ⟨rfl,rfl⟩
 · walk_at "r"
   exact⟨rfl,rfl⟩
 rw[List.filter_eq_self.mpr (by simp)]
 intro G9 c9 l9 h9
 refine ke (c9.get h78 (by simp)) h9 (by rw[qM_,qM_,List.length_range];unfold aM;omega) fun Ga ca la ha=>?_
 refine w_next ?_
 walk_at "s"
 refine aI (bJ (bc (bc (w_var rfl ?_))))
 refine iE (gF (w_var rfl ?_))
 with_reducible refine lD hmi (by omega) ?_
 rw[yG]
 with_reducible refine iN (f:=ku) (p:=fun _=>true) (g:=fun k:Nat=>bO (.ag (k:Int))) rfl (by simp;omega) (fun x _=>?_) (fun x _ _=>?_) ?_
 · exact jD ⟨rfl,rfl⟩
 · walk_at "r"
   exact⟨rfl,rfl⟩
 rw[List.filter_eq_self.mpr (by simp)]
 intro Gb cb lb hb
 refine ke (cb.get ha (by simp)) hb (by rw[qN_,qM_,qM_,qM_,List.length_range,List.length_range];unfold aM;omega) fun Gc cc lc hc=>?_
 refine iq ?_
 walk_at "r"
 intro Gd cd ld' hd
 refine ke (cd.get hc (by simp)) hd (by rw[qN_,qN_,qM_,qM_,qM_,List.length_range,List.length_range];simp [aM];omega) fun Ge ce le he=>?_
 have em:lg.map bO++(List.range c).map (fun k:Nat=>bO (swK true k))++(List.range m).map (fun k:Nat=>bO (.ag (k:Int)))++[D.tup [D.str "sweep"]]=(lg++nP c m).map bO:=by
  unfold nP
  rw[qT_,qT_,qT_,qb_,qb_,List.append_assoc,List.append_assoc,List.append_assoc]
  rfl
 rw[em]at he
 have ml:(lg++nP c m).length=lg.length+c+m+1:=by
  unfold nP
  simp
  omega
 refine w_next ?_
 walk_at "s"
 have c8e:Chg [] G8 Ge:=((((c9.trans ca).trans cb).trans cc).trans cd).trans ce
 have w8e:=c8e.get w8 (by simp)
 have h8e:=c8e.get h8 (by simp)
 clear c9 ca cb cc cd ce h9 ha hb hc hd
 generalize hld9:Gd.length=l9' at*
 refine aI (bJ (dq (ay (w_var rfl (ay (w_var rfl (ay (w_var rfl (aJ ?_)))))))))
 refine rk hci hmi hc9 hm9 he (by omega) fun b1 b2 b3 Gf cf k1 k2 k3 Af=>?_
 refine w_next ?_
 walk_at "s"
 rw[run2]at Af
 obtain⟨len2,cmp⟩:=CM hc0 L hU
 have w8f:=cf.get w8e (by simp)
 have h8f:=cf.get h8e (by simp)
 have hef:=cf.get he (by simp)
 refine aI (fQ (vz (jJ (t6 (w_var rfl (Bq ?_))))))
 rw[show decide (D.tup [D.ref b1,D.ref b2,D.ref b3]=D.non)=false from rfl]
 refine iy ?_
 rw[if_neg qC_]
 refine jJ (bc (dq (ay (bc (w_var rfl (w_c (cy rfl (aJ (fR Af.1 (dq (ay (w_var rfl (aJ (fR w8f ?_))))))))))))))
 refine pW (b:=true) (by rw[eq_int,qM_,qM_,len2];simp) (iy ?_)
 rw[show (!true)=false from rfl,if_neg qC_]
 refine m7 (w_next ?_)
 refine aI ?_
 refine yW L hwl (by omega) w8f Af.1 h8f hef len2 (fun p w w' hw hw'=>?_) (by omega) ?_
 · obtain⟨e1,e2⟩:=cmp p w w' hw hw'
   refine⟨e1,fun hp=>?_⟩
   obtain⟨e3,e4,e5⟩:=e2 hp
   refine⟨e3,e4,e5.trans ?_⟩
   rw[hdy,ml]
   congr 1
 · intro u' v'
   with_reducible refine w_next ?_
   walk_at "r"
   exact hQ _
end
theorem Ae(ns:List Int)(_:ns.length<=63):M3.run (KC.qQ [.ref 0]) [.frz (ns.map M3.D.int)] (fun d _=>d= .bl true) fun _ _=>False:=
 Hc (ns:=ns) rfl fun _=>rfl
end KS
namespace LK
open PySem PySem.Spec PyProof.Rows L2 L3 KC
local macro_rules |`(tactic|walk_at "sc")=>`(tactic|exact⟨rfl,rfl,rfl,by decide +kernel,rfl,by decide +kernel,by decide +kernel⟩)
local macro_rules |`(tactic|walk_at "nm")=>`(tactic|exact Hr (by decide +kernel) (by decide))
local macro_rules |`(tactic|walk_at "b2")=>`(tactic|exact fun _ _ _ _ _ _ us hl=>match us,hl with | [_,_],_=>rfl)
local macro_rules |`(tactic|walk_at "b1")=>`(tactic|exact fun _ _ _ _ _ _ us hl=>match us,hl with | [_],_=>rfl)
local macro_rules |`(tactic|walk_at "b3")=>`(tactic|exact fun _ _ _ _ _ _ us hl=>match us,hl with | [_,_,_],_=>rfl)
local macro_rules |`(tactic|walk_at "b5")=>`(tactic|exact fun _ _ _ _ _ _ us hl=>match us,hl with | [_,_,_,_,_],_=>rfl)
local macro_rules |`(tactic|walk_at "b4")=>`(tactic|exact fun _ _ _ _ _ _ us hl=>match us,hl with | [_,_,_,_],_=>rfl)
local macro_rules |`(tactic|walk_at "sb")=>`(tactic|first |exact .inl rfl |exact .inr rfl |assumption)
def top(i:Nat):Stmt:=PySem.Challenge.pw_halfask_k06_whole_without_half.main.body.getD i (.Pass ⟨0,0,0,0⟩)
def nmL:List Str:=["number","count","at_work","value","pair","round_number","heard","own_turn","is_up","keepers","hands","row","hand","word","begun","ended","stamp","hall","works","last_places","deeds_done"]
def nmF(g:Nat):Str:=nmL.getD g Str.empty
abbrev TT(cl:Nat->Option Addr):Tab:=⟨cl,nmF⟩
abbrev iS:Stmt:=top 9
theorem w6:aE ["count","many"] ["count","many"] (ak iS):=by walk_at "sc"
abbrev jN:Stmt:=top 10
theorem lX:aE ["pairs","best","pair"] ["pairs"] (ak jN):=by walk_at "sc"
abbrev eQ:Stmt:=top 11
theorem kY:aE ["pairs","own","hand","turns"] ["pairs","own","hand"] (ak eQ):=by walk_at "sc"
abbrev gn:Stmt:=inClass (top 13) 0
theorem tL:aE ["self","number","count"] ["self","number","count"] (ak gn):=by walk_at "sc"
abbrev eA:Stmt:=inClass (top 13) 5
theorem kD:aE ["self","waited_for"] ["self"] (ak eA):=by walk_at "sc"
abbrev cL:Stmt:=inClass (top 13) 4
theorem mM:aE ["self","pair"] ["self","pair"] (ak cL):=by walk_at "sc"
abbrev fL:Stmt:=inClass (top 13) 3
theorem rS:aE ["self","value"] ["self","value"] (ak fL):=by walk_at "sc"
abbrev cN:Stmt:=inClass (top 13) 1
theorem mE:aE ["self","value"] ["self","value"] (ak cN):=by walk_at "sc"
abbrev dc:Stmt:=inClass (top 13) 2
theorem nL:aE ["self"] ["self"] (ak dc):=by walk_at "sc"
abbrev cJ:Stmt:=inClass (top 13) 8
theorem mH:aE ["self"] ["self"] (ak cJ):=by walk_at "sc"
abbrev cZ:Stmt:=inClass (top 13) 6
theorem ny:aE ["self"] ["self"] (ak cZ):=by walk_at "sc"
abbrev et:Stmt:=inClass (top 13) 7
theorem pV:aE ["self"] ["self"] (ak et):=by walk_at "sc"
abbrev eX:Stmt:=inClass (top 13) 10
theorem jc:aE ["self","pairs","stamp"] ["self"] (ak eX):=by walk_at "sc"
abbrev gq:Stmt:=inClass (top 13) 9
theorem uq:aE ["self","answer"] ["self","answer"] (ak gq):=by walk_at "sc"
abbrev eW:Stmt:=inClass (top 15) 0
theorem qj:aE ["self"] ["self"] (ak eW):=by walk_at "sc"
abbrev eV:Stmt:=inClass (top 15) 1
theorem lO:aE ["self","changed"] ["self"] (ak eV):=by walk_at "sc"
abbrev eY:Stmt:=inClass (top 15) 2
theorem kR:aE ["self","changed"] ["self"] (ak eY):=by walk_at "sc"
abbrev eT:Stmt:=inClass (top 15) 3
theorem qO:aE ["self","pair"] ["self","pair"] (ak eT):=by walk_at "sc"
abbrev cM:Stmt:=inClass (top 15) 4
theorem iu:aE ["self","letter","pair"] ["self","letter"] (ak cM):=by walk_at "sc"
abbrev gc:Stmt:=inClass (top 17) 0
theorem uL:aE ["self","count","many"] ["self","count","many"] (ak gc):=by walk_at "sc"
abbrev eF:Stmt:=inClass (top 17) 1
theorem pT:aE ["self","number"] ["self","number"] (ak eF):=by walk_at "sc"
abbrev dE:Stmt:=inClass (top 17) 2
theorem oj:aE ["self","number"] ["self","number"] (ak dE):=by walk_at "sc"
abbrev fY:Stmt:=inClass (top 17) 9
theorem ui:aE ["self","letters"] ["self","letters"] (ak fY):=by walk_at "sc"
abbrev fO:Stmt:=inClass (top 17) 3
theorem rY:aE ["self","hand","value"] ["self","hand","value"] (ak fO):=by walk_at "sc"
abbrev gh:Stmt:=inClass (top 17) 4
theorem tQ:aE ["self","hand"] ["self","hand"] (ak gh):=by walk_at "sc"
abbrev fC:Stmt:=inClass (top 17) 5
theorem mV:aE ["self","hand","letters"] ["self","hand"] (ak fC):=by walk_at "sc"
abbrev fE:Stmt:=inClass (top 17) 6
theorem rR:aE ["self","hand"] ["self","hand"] (ak fE):=by walk_at "sc"
abbrev cO:Stmt:=inClass (top 17) 7
theorem mC:aE ["self","keeper"] ["self","keeper"] (ak cO):=by walk_at "sc"
abbrev cK:Stmt:=inClass (top 17) 8
theorem mG:aE ["self","keeper"] ["self","keeper"] (ak cK):=by walk_at "sc"
abbrev bP:Stmt:=inClass (top 17) 15
theorem gA:aE ["self","letter","answer"] ["self","letter"] (ak bP):=by walk_at "sc"
abbrev cA:Stmt:=inClass (top 17) 16
theorem hZ:aE ["self","answer","brought"] ["self","answer"] (ak cA):=by walk_at "sc"
abbrev gk:Stmt:=inClass (top 17) 14
theorem oa:aE ["self","place","stays","entry"] ["self","place","stays"] (ak gk):=by walk_at "sc"
abbrev fN:Stmt:=inClass (top 17) 10
theorem sD:aE ["self","number","stays"] ["self","number","stays"] (ak fN):=by walk_at "sc"
abbrev bZ:Stmt:=inClass (top 17) 12
theorem eZ:aE ["self","hand","keeper","place","entry"] ["self","hand","keeper"] (ak bZ):=by walk_at "sc"
abbrev bX:Stmt:=inClass (top 17) 11
theorem dJ:aE ["self","hand","keeper","ends","place"] ["self","hand","keeper"] (ak bX):=by walk_at "sc"
abbrev fB:Stmt:=inClass (top 17) 13
theorem m3:aE ["self","ends"] ["self"] (ak fB):=by walk_at "sc"
abbrev fZ:Stmt:=inClass (top 19) 0
theorem uC:aE ["self","hand","word","value","begun"] ["self","hand","word","value","begun"] (ak fZ):=by walk_at "sc"
abbrev gi:Stmt:=inClass (top 19) 1
theorem tN:aE ["self"] ["self"] (ak gi):=by walk_at "sc"
abbrev fG:Stmt:=inClass (top 20) 0
theorem rT:aE ["self","count","many"] ["self","count","many"] (ak fG):=by walk_at "sc"
abbrev dh:Stmt:=inClass (top 20) 4
theorem iX:aE ["self","hand","word","value","place"] ["self","hand","word","value"] (ak dh):=by walk_at "sc"
abbrev dG:Stmt:=inClass (top 20) 6
theorem gs:aE ["self","hand","pair","place","work"] ["self","hand","pair"] (ak dG):=by walk_at "sc"
abbrev dk:Stmt:=inClass (top 20) 5
theorem nE:aE ["self","ends"] ["self","ends"] (ak dk):=by walk_at "sc"
abbrev fD:Stmt:=inClass (top 20) 3
theorem jL:aE ["self","deed","word","ends"] ["self","deed"] (ak fD):=by walk_at "sc"
abbrev bG:Stmt:=inClass (top 20) 2
theorem jH:aE ["self","deed"] ["self","deed"] (ak bG):=by walk_at "sc"
abbrev cB:Stmt:=inClass (top 20) 7
theorem cW:aE ["self","hand","place","pair","work"] ["self"] (ak cB):=by walk_at "sc"
abbrev eh:Stmt:=inClass (top 20) 1
theorem kF:aE ["self","deed","told"] ["self","deed"] (ak eh):=by walk_at "sc"
abbrev gp:Stmt:=top 21
theorem fH:aE ["count","many","deeds","story","deed","works","stamps","pairs"] ["count","many","deeds"] (ak gp):=by walk_at "sc"
abbrev mq:Stmt:=top 23
theorem z8:aE ["_law_found"] ["_law_found"] (ak mq):=by walk_at "sc"
abbrev zk:Stmt:=top 24
theorem HE:aE ["_law_script","_law_k"] ["_law_script","_law_k"] (ak zk):=by walk_at "sc"
abbrev gR:Stmt:=top 25
theorem kZ:aE ["_law_cell","_law_k","_law_wide","_law_some"] ["_law_cell","_law_k"] (ak gR):=by walk_at "sc"
abbrev iP:Stmt:=top 26
theorem gS:aE ["_law_cell","_law_k","_law_count","_law_many","_law_way","_law_hand","_law_keeper","_law_number"] ["_law_cell","_law_k","_law_count","_law_many"] (ak iP):=by walk_at "sc"
abbrev iR:Stmt:=top 27
theorem kh:aE ["_law_cell","_law_count","_law_many","_law_way","_law_deeds"] ["_law_cell","_law_count","_law_many"] (ak iR):=by walk_at "sc"
abbrev mn:Stmt:=top 28
theorem oK:aE ["_law_cells","_law_count","_law_many","_law_deeds","_law_k"] ["_law_cells","_law_count","_law_many"] (ak mn):=by walk_at "sc"
abbrev gV:Stmt:=top 29
theorem wC:aE ["_law_found"] ["_law_found"] (ak gV):=by walk_at "sc"
abbrev iQ:Stmt:=top 30
theorem xn:aE ["_law_found"] ["_law_found"] (ak iQ):=by walk_at "sc"
abbrev iT:Stmt:=top 31
theorem g6:aE ["_law_found","_law_hand","_law_word","_law_value","_law_begun","_law_ended"] ["_law_found"] (ak iT):=by walk_at "sc"
abbrev gj:Stmt:=top 32
theorem gw:aE ["_law_found","_law_count","_law_row","_law_one","_law_stamp","_law_pair"] ["_law_found","_law_count"] (ak gj):=by walk_at "sc"
abbrev gN:Stmt:=top 33
theorem kP:aE ["_law_count","_law_many","_law_deeds","_law_handed","_law_found"] ["_law_count","_law_many","_law_deeds"] (ak gN):=by walk_at "sc"
abbrev jW:Stmt:=top 34
theorem gd:aE ["_law_cell","_law_count","_law_many","_law_first","_law_some","_law_up","_law_deeds","_law_k"] ["_law_cell","_law_count","_law_many"] (ak jW):=by walk_at "sc"
abbrev oR:Stmt:=top 35
theorem gv:aE ["_law_script","_law_count","_law_many","_law_deeds","_law_longer","_law_found","_law_works","_law_late","_law_place","_law_more","_law_told"] ["_law_script"] (ak oR):=by walk_at "sc"
structure Txt (K:PySem.W.Frag) (mg:Str->Option Value) (cl:Nat->Option Addr):Prop where
 Hu:mg "max"=none
 fV:mg "range"=none
 xZ:mg "list"=none
 fP:mg "len"=none
 vX:mg "enumerate"=none
 yp:mg "int"=none
 dU:mg "isinstance"=none
 EF:mg "bool"=none
 qg:mg "tuple"=none
 HJ:mg "str"=none
 g_BEGINNING:DR K mg "BEGINNING" (.tup [(.tup [(.int 0),(.int 0)]),(.int 0)])
 rP:fg (TT cl) K 0
 ul:fg (TT cl) K 1
 gW:fg (TT cl) K 2
 jt:fg (TT cl) K 3
 iZ:fg (TT cl) K 4
 fy:fg (TT cl) K 5
 mw:fg (TT cl) K 6
 nJ:fg (TT cl) K 7
 my:fg (TT cl) K 8
 jT:fg (TT cl) K 9
 ou:fg (TT cl) K 10
 oC:fg (TT cl) K 11
 Ak:fg (TT cl) K 12
 BZ:fg (TT cl) K 13
 ya:fg (TT cl) K 14
 uv:fg (TT cl) K 15
 uP:fg (TT cl) K 16
 il:fg (TT cl) K 17
 kz:fg (TT cl) K 18
 fS:fg (TT cl) K 19
 gE:fg (TT cl) K 20
 D1:∃C,cl 1000=some C/\XCl K mg "HalfError" C
 D3:True
 vM:∃C,cl 1001=some C/\XCl K mg "NoHand" C
 Bd:∃C,mg "NoHand"=some (.ref C)/\∀c Ca,cl c=some Ca->PySem.W.exmOne K (.ref Ca) (.ref C)=some (decide (c=1001))
 qw:∃C,cl 1002=some C/\XCl K mg "NoKeeper" C
 x9:∃C,mg "NoKeeper"=some (.ref C)/\∀c Ca,cl c=some Ca->PySem.W.exmOne K (.ref Ca) (.ref C)=some (decide (c=1002))
 qI:∃C,cl 1003=some C/\XCl K mg "NoLetter" C
 xB:∃C,mg "NoLetter"=some (.ref C)/\∀c Ca,cl c=some Ca->PySem.W.exmOne K (.ref Ca) (.ref C)=some (decide (c=1003))
 AD:∃C,cl 1004=some C/\XCl K mg "Busy" C
 GD:∃C,mg "Busy"=some (.ref C)/\∀c Ca,cl c=some Ca->PySem.W.exmOne K (.ref Ca) (.ref C)=some (decide (c=1004))
 BJ:∃C,cl 1005=some C/\XCl K mg "Idle" C
 EQ:∃C,mg "Idle"=some (.ref C)/\∀c Ca,cl c=some Ca->PySem.W.exmOne K (.ref Ca) (.ref C)=some (decide (c=1005))
section
variable(P:Program)(w:World){K:PySem.W.Frag}(mg:Str->Option Value)(base:Heap){cl:Nat->Option Addr}
theorem xm{fa:Addr}{fd:FuncData}(F:Fun K "is_more" "is_more" iS fa fd)(Z:Txt K mg cl):bo P w K mg base CX0 1 fa fd ["count","many"] (sp3 (TT cl) K 2 md):=by
 exact bQ (k:=0) F w6 rfl rfl fun cdv A outer s H E hr=>have hu:=hr.units
  (by refine az ?_;refine y_ret ?_;exact(v7 (sS hu) (by refine bu cR ?_ ?_;exact(aa 1);exact aq) (aa 0) (bh _)))
theorem zR{fa:Addr}{fd:FuncData}(F:Fun K "newest" "newest" jN fa fd)(Z:Txt K mg cl):bo P w K mg base CX0 1 fa fd ["pairs"] (sp3 (TT cl) K 1 oO):=by
 exact bQ (k:=0) F lX rfl rfl fun cdv A outer s H E hr=>have hu:=hr.units
  (by refine ao ?_ ?_;refine bA (i:=1) ?_ ?_ ?_ ?_ ?_ ?_;exact lX.nd;exact rfl;exact Or.inl rfl;exact(Bz Z.g_BEGINNING);exact yg;walk_at "sb";refine ao ?_ ?_;exact(jP PassesOwn.never rfl (nT (aa 0)) (pX (i:=2) lX.nd rfl (Or.inl rfl)) (by refine az ?_;refine cG ?_ ?_ ?_;exact(bS (sS hu) (by refine bw hu ?_ ?_;exact(aa 2);exact aq) (by refine bw hu ?_ ?_;exact(aa 1);exact aq) (bh _));refine az ?_;refine bA (i:=1) ?_ ?_ ?_ ?_ ?_ ?_;exact lX.nd;exact rfl;exact Or.inl rfl;exact(aa 2);exact yg;walk_at "sb";exact bx));refine az ?_;refine y_ret ?_;exact(aa 1))
theorem rM{fa:Addr}{fd:FuncData}(F:Fun K "stamp_after" "stamp_after" eQ fa fd)(Z:Txt K mg cl):bo P w K mg base CX0 1 fa fd ["pairs","own","hand"] (sp3 (TT cl) K 3 g8):=by
 exact bQ (k:=0) F kY rfl rfl fun cdv A outer s H E hr=>have hu:=hr.units
  (by refine ao ?_ ?_;exact(gP (i:=3) (Blk.nil rfl rfl (by decide +kernel) rfl) rfl kY.nd rfl rfl (nT (aa 0)) (fun _ _ _ _ _=>fU) (fun _ _ _ _ _=>(by refine bw hu ?_ ?_;refine bw hu ?_ ?_;exact(aa 0);exact aq;exact aq)));refine az ?_;refine y_ret ?_;refine bC ?_;refine ae ?_ ?_ ?_;refine bu cE ?_ ?_;exact(Gx rfl Z.Hu (ae (by refine bu cE ?_ ?_;exact(aa 3);refine dN ?_;refine ae ?_ ?_ ?_;exact(aa 1);exact ar;exact aj) ar fx));exact aq;refine ae ?_ ?_ ?_;exact(aa 2);exact ar;exact aj;exact fx)
theorem tM{fa:Addr}{fd:FuncData}(F:Fun K "__init__" "Hand.__init__" gn fa fd)(Z:Txt K mg cl):bo P w K mg base CX0 1 fa fd ["self","number","count"] (sp3 (TT cl) K 3 jx):=by
 exact bQ (k:=0) F tL rfl rfl fun cdv A outer s H E hr=>have hu:=hr.units
  (by refine ao ?_ ?_;exact(cD Z.rP (aa 0) (aa 1));refine ao ?_ ?_;exact(cD Z.ul (aa 0) (aa 2));refine ao ?_ ?_;exact(cD Z.gW (aa 0) fj);refine ao ?_ ?_;exact(cD Z.jt (aa 0) jl);refine ao ?_ ?_;exact(cD Z.iZ (aa 0) jl);refine ao ?_ ?_;exact(cD Z.fy (aa 0) aq);refine ao ?_ ?_;exact(cD Z.mw (aa 0) ue);refine az ?_;exact(cD Z.nJ (aa 0) aq))
theorem p4{fa:Addr}{fd:FuncData}(F:Fun K "letters" "Hand.letters" eA fa fd)(Z:Txt K mg cl):bo P w K mg base CX0 1 fa fd ["self"] (sp3 (TT cl) K 1 eD):=by
 exact bQ (k:=0) F kD rfl rfl fun cdv A outer s H E hr=>have hu:=hr.units
  (by refine ao ?_ ?_;exact(gP (i:=1) (Blk.of (caps:=[("self",0)]) (cl:=[("self",s.heap.objs.size+1)]) rfl rfl rfl rfl rfl (by decide) rfl rfl rfl rfl rfl) rfl kD.nd rfl rfl (ij Z.fV (aQ Z.ul (aa 0))) (fun _ _ _ _ _=>yP (bS (Ap hu) (aa 0) (aQ Z.mw (aa 1)) rfl)) (fun _ _ _ _ _=>(aa 0)));refine az ?_;refine y_ret ?_;exact(m8 (Blk.of (caps:=[("self",0)]) (cl:=[("self",s.heap.objs.size+1)]) rfl rfl rfl rfl rfl (by decide) rfl rfl rfl rfl rfl) rfl (nT (aa 1)) (fun _ _ _ _ _=>fU) (fun _ _ _ _ _=>(by refine bC ?_;refine ae ?_ ?_ ?_;exact(aQ Z.rP (aa 1));refine ae ?_ ?_ ?_;exact(aa 0);refine ae ?_ ?_ ?_;exact(aQ Z.fy (aa 1));refine ae ?_ ?_ ?_;exact(aQ Z.iZ (aa 1));exact ar;exact bE;exact bE;exact aj;exact bE))))
theorem mD{fa:Addr}{fd:FuncData}(F:Fun K "begin_round" "Hand.begin_round" cL fa fd)(Z:Txt K mg cl)(Fx8:Mt3 P w K mg base CX0 (TT cl) 1 0 "letters" 1 eD):bo P w K mg base CX0 2 fa fd ["self","pair"] (sp3 (TT cl) K 2 cP):=by
 exact bQ (k:=1) F mM rfl rfl fun cdv A outer s H E hr=>have hu:=hr.units
  (by refine ao ?_ ?_;exact(cD Z.fy (aa 0) (by refine bu cE ?_ ?_;exact(aQ Z.fy (aa 0));exact aq));refine ao ?_ ?_;exact(cD Z.iZ (aa 0) (aa 1));refine ao ?_ ?_;exact(cD Z.mw (aa 0) ue);refine az ?_;refine y_ret ?_;exact(fJ Fx8 (hr.mono (by decide)) aY (aa 0)))
theorem rZ{fa:Addr}{fd:FuncData}(F:Fun K "begin" "Hand.begin" fL fa fd)(Z:Txt K mg cl)(Fx9:Mt3 P w K mg base CX0 (TT cl) 2 0 "begin_round" 2 cP):bo P w K mg base (CX1 P w) 3 fa fd ["self","value"] (sp3 (TT cl) K 2 fI):=by
 obtain⟨AD,ec_Busy,ex_Busy⟩:=Z.AD
 exact ib (k:=2) F rS rfl rfl fun cdv A outer s H E hr=>have hu:=hr.units
  (by refine ao ?_ ?_;refine cG ?_ ?_ ?_;exact(jg (aQ Z.gW (aa 0)));refine az ?_;exact(y_raise cz cq hr.hd ex_Busy ec_Busy (ae bq ar ai));exact bx;refine ao ?_ ?_;exact(cD Z.gW (aa 0) fj);refine ao ?_ ?_;exact(cD Z.jt (aa 0) (aa 1));refine az ?_;refine y_ret ?_;exact(bj Fx9 (hr.mono (by decide)) aY (aa 0) (ae jl ar ai)))
theorem mz{fa:Addr}{fd:FuncData}(F:Fun K "begin_write" "Hand.begin_write" cN fa fd)(Z:Txt K mg cl)(Fx10:Mt3 P w K mg base (CX1 P w) (TT cl) 3 0 "begin" 2 fI):bo P w K mg base (CX1 P w) 4 fa fd ["self","value"] (sp3 (TT cl) K 2 eK):=by
 exact ib (k:=3) F mE rfl rfl fun cdv A outer s H E hr=>have hu:=hr.units
  (by refine az ?_;refine y_ret ?_;exact(bj Fx10 (hr.mono (by decide)) (ff cz cq) (aa 0) (ae (aa 1) ar aj)))
theorem nC{fa:Addr}{fd:FuncData}(F:Fun K "begin_read" "Hand.begin_read" dc fa fd)(Z:Txt K mg cl)(Fx10:Mt3 P w K mg base (CX1 P w) (TT cl) 3 0 "begin" 2 fI):bo P w K mg base (CX1 P w) 4 fa fd ["self"] (sp3 (TT cl) K 1 e9):=by
 exact ib (k:=3) F nL rfl rfl fun cdv A outer s H E hr=>have hu:=hr.units
  (by refine az ?_;refine y_ret ?_;exact(bj Fx10 (hr.mono (by decide)) (ff cz cq) (aa 0) (ae jl ar ai)))
theorem mL{fa:Addr}{fd:FuncData}(F:Fun K "refuse_idle" "Hand.refuse_idle" cJ fa fd)(Z:Txt K mg cl):bo P w K mg base (CX1 P w) 1 fa fd ["self"] (sp3 (TT cl) K 1 cI):=by
 obtain⟨BJ,ec_Idle,ex_Idle⟩:=Z.BJ
 exact ib (k:=0) F mH rfl rfl fun cdv A outer s H E hr=>have hu:=hr.units
  (by refine az ?_;refine cG ?_ ?_ ?_;exact(gG (jg (aQ Z.gW (aa 0))));refine az ?_;exact(y_raise cz cq hr.hd ex_Idle ec_Idle (ae bq ar ai));exact bx)
theorem nr{fa:Addr}{fd:FuncData}(F:Fun K "send_again" "Hand.send_again" cZ fa fd)(Z:Txt K mg cl)(Fx8:Mt3 P w K mg base CX0 (TT cl) 1 0 "letters" 1 eD)(Fx11:Mt3 P w K mg base (CX1 P w) (TT cl) 1 0 "refuse_idle" 1 cI):bo P w K mg base (CX1 P w) 2 fa fd ["self"] (sp3 (TT cl) K 1 fi):=by
 exact ib (k:=1) F ny rfl rfl fun cdv A outer s H E hr=>have hu:=hr.units
  (by refine ao ?_ ?_;refine cj ?_ ?_;exact(fJ Fx11 (hr.mono (by decide)) (ff cz cq) (aa 0));exact aN;refine az ?_;refine y_ret ?_;exact(fJ Fx8 (hr.mono (by decide)) aY (aa 0)))
theorem pQ{fa:Addr}{fd:FuncData}(F:Fun K "give_up" "Hand.give_up" et fa fd)(Z:Txt K mg cl)(Fx11:Mt3 P w K mg base (CX1 P w) (TT cl) 1 0 "refuse_idle" 1 cI):bo P w K mg base (CX1 P w) 2 fa fd ["self"] (sp3 (TT cl) K 1 gD):=by
 exact ib (k:=1) F pV rfl rfl fun cdv A outer s H E hr=>have hu:=hr.units
  (by refine ao ?_ ?_;refine cj ?_ ?_;exact(fJ Fx11 (hr.mono (by decide)) (ff cz cq) (aa 0));exact aN;refine az ?_;exact(cD Z.gW (aa 0) fj))
theorem qH{fa:Addr}{fd:FuncData}(F:Fun K "chosen" "Hand.chosen" eX fa fd)(Z:Txt K mg cl)(Fx26:Fn3 P w K mg base CX0 (TT cl) 1 "newest" 1 oO)(Fx27:Fn3 P w K mg base CX0 (TT cl) 1 "stamp_after" 3 g8):bo P w K mg base CX0 2 fa fd ["self"] (sp3 (TT cl) K 1 g7):=by
 exact bQ (k:=1) F jc rfl rfl fun cdv A outer s H E hr=>have hu:=hr.units
  (by refine ao ?_ ?_;refine bA (i:=1) ?_ ?_ ?_ ?_ ?_ ?_;exact jc.nd;exact rfl;exact Or.inl rfl;exact(xI hr.hd (aQ Z.mw (aa 0)) Z.xZ);exact aN;walk_at "sb";refine ao ?_ ?_;refine cG ?_ ?_ ?_;exact(sR (aQ Z.jt (aa 0)));refine az ?_;refine y_ret ?_;exact(x_call Fx26 (hr.mono (by decide)) aY (ae (aa 1) ar aj));exact bx;refine ao ?_ ?_;refine bA (i:=2) ?_ ?_ ?_ ?_ ?_ ?_;exact jc.nd;exact rfl;exact Or.inl rfl;exact(x_call Fx27 (hr.mono (by decide)) aY (ae (aa 1) (ae (aQ Z.nJ (aa 0)) (ae (aQ Z.rP (aa 0)) ar bE) bE) aj));exact aN;walk_at "sb";refine ao ?_ ?_;exact(cD Z.nJ (aa 0) (by refine bw hu ?_ ?_;exact(aa 2);exact aq));refine az ?_;refine y_ret ?_;refine bC ?_;refine ae ?_ ?_ ?_;exact(aa 2);refine ae ?_ ?_ ?_;exact(aQ Z.jt (aa 0));exact ar;exact bE;exact aj)
theorem uG{fa:Addr}{fd:FuncData}(F:Fun K "hear" "Hand.hear" gq fa fd)(Z:Txt K mg cl)(Fx28:Fn3 P w K mg base CX0 (TT cl) 1 "is_more" 2 md)(Fx9:Mt3 P w K mg base CX0 (TT cl) 2 0 "begin_round" 2 cP)(Fx29:Mt3 P w K mg base CX0 (TT cl) 2 0 "chosen" 1 g7):bo P w K mg base CX0 3 fa fd ["self","answer"] (sp3 (TT cl) K 2 jE):=by
 exact bQ (k:=2) F uq rfl rfl fun cdv A outer s H E hr=>have hu:=hr.units
  (by refine ao ?_ ?_;refine cG ?_ ?_ ?_;exact(PW.pt (w_or (gG (jg (aQ Z.gW (aa 0)))) (li (bS (kE hu) (by refine bw hu ?_ ?_;exact(aa 1);exact aq) (aQ Z.fy (aa 0)) (bh _)))));refine az ?_;refine y_ret ?_;refine bC ?_;refine ae ?_ ?_ ?_;refine dN ?_;exact ar;refine ae ?_ ?_ ?_;exact jl;exact ar;exact ai;exact lJ;exact bx;refine ao ?_ ?_;exact(DJ hu (aQ Z.mw (aa 0)) (by refine bw hu ?_ ?_;exact(aa 1);exact aq) (by refine bw hu ?_ ?_;exact(aa 1);exact aq));refine ao ?_ ?_;refine cG ?_ ?_ ?_;exact(gG (jg (x_call Fx28 (hr.mono (by decide)) aY (ae (aQ Z.ul (aa 0)) (ae (dP Z.fP (ae (aQ Z.mw (aa 0)) ar bE)) ar dQ) bE))));refine az ?_;refine y_ret ?_;refine bC ?_;refine ae ?_ ?_ ?_;refine dN ?_;exact ar;refine ae ?_ ?_ ?_;exact jl;exact ar;exact ai;exact lJ;exact bx;refine ao ?_ ?_;refine cG ?_ ?_ ?_;exact(sR (aQ Z.iZ (aa 0)));refine az ?_;refine y_ret ?_;refine bC ?_;refine ae ?_ ?_ ?_;exact(bj Fx9 (hr.mono (by decide)) aY (aa 0) (ae (fJ Fx29 (hr.mono (by decide)) aY (aa 0)) ar dQ));refine ae ?_ ?_ ?_;exact jl;exact ar;exact ai;exact dQ;exact bx;refine ao ?_ ?_;exact(cD Z.gW (aa 0) fj);refine az ?_;refine y_ret ?_;refine bC ?_;refine ae ?_ ?_ ?_;refine dN ?_;exact ar;refine ae ?_ ?_ ?_;exact(aQ Z.iZ (aa 0));exact ar;exact bE;exact lJ)
theorem qt{fa:Addr}{fd:FuncData}(F:Fun K "__init__" "Keeper.__init__" eW fa fd)(Z:Txt K mg cl):bo P w K mg base CX0 1 fa fd ["self"] (sp3 (TT cl) K 1 hG):=by
 exact bQ (k:=0) F qj rfl rfl fun cdv A outer s H E hr=>have hu:=hr.units
  (by refine ao ?_ ?_;exact(cD Z.iZ (aa 0) (Bz Z.g_BEGINNING));refine az ?_;exact(cD Z.my (aa 0) fj))
theorem qK{fa:Addr}{fd:FuncData}(F:Fun K "stop" "Keeper.stop" eV fa fd)(Z:Txt K mg cl):bo P w K mg base CX0 1 fa fd ["self"] (sp3 (TT cl) K 1 hI):=by
 exact bQ (k:=0) F lO rfl rfl fun cdv A outer s H E hr=>have hu:=hr.units
  (by refine ao ?_ ?_;refine bA (i:=1) ?_ ?_ ?_ ?_ ?_ ?_;exact lO.nd;exact rfl;exact Or.inl rfl;exact(aQ Z.my (aa 0));exact yo;walk_at "sb";refine ao ?_ ?_;exact(cD Z.my (aa 0) fj);refine az ?_;refine y_ret ?_;exact(aa 1))
theorem qB{fa:Addr}{fd:FuncData}(F:Fun K "wake" "Keeper.wake" eY fa fd)(Z:Txt K mg cl):bo P w K mg base CX0 1 fa fd ["self"] (sp3 (TT cl) K 1 hJ):=by
 exact bQ (k:=0) F kR rfl rfl fun cdv A outer s H E hr=>have hu:=hr.units
  (by refine ao ?_ ?_;refine bA (i:=1) ?_ ?_ ?_ ?_ ?_ ?_;exact kR.nd;exact rfl;exact Or.inl rfl;exact(D5 (aQ Z.my (aa 0)));exact GN;walk_at "sb";refine ao ?_ ?_;exact(cD Z.my (aa 0) fj);refine az ?_;refine y_ret ?_;exact(aa 1))
theorem rb{fa:Addr}{fd:FuncData}(F:Fun K "keep" "Keeper.keep" eT fa fd)(Z:Txt K mg cl):bo P w K mg base CX0 1 fa fd ["self","pair"] (sp3 (TT cl) K 2 g9):=by
 exact bQ (k:=0) F qO rfl rfl fun cdv A outer s H E hr=>have hu:=hr.units
  (by refine az ?_;refine cG ?_ ?_ ?_;exact(bS (sS hu) (by refine bw hu ?_ ?_;exact(aa 1);exact aq) (by refine bw hu ?_ ?_;exact(aQ Z.iZ (aa 0));exact aq) (bh _));refine az ?_;exact(cD Z.iZ (aa 0) (aa 1));exact bx)
theorem mF{fa:Addr}{fd:FuncData}(F:Fun K "answer_to" "Keeper.answer_to" cM fa fd)(Z:Txt K mg cl)(Fx30:Mt3 P w K mg base CX0 (TT cl) 1 1 "keep" 2 g9):bo P w K mg base CX0 2 fa fd ["self","letter"] (sp3 (TT cl) K 2 eM):=by
 exact bQ (k:=1) F iu rfl rfl fun cdv A outer s H E hr=>have hu:=hr.units
  (by refine ao ?_ ?_;refine cG ?_ ?_ ?_;exact(gG (jg (aQ Z.my (aa 0))));refine az ?_;refine y_ret ?_;exact jl;exact bx;refine ao ?_ ?_;refine bA (i:=2) ?_ ?_ ?_ ?_ ?_ ?_;exact iu.nd;exact rfl;exact Or.inl rfl;refine bw hu ?_ ?_;exact(aa 1);exact aq;exact jM;walk_at "sb";refine ao ?_ ?_;refine cG ?_ ?_ ?_;exact(sR (aa 2));refine az ?_;refine y_ret ?_;refine bu cE ?_ ?_;exact(lW (aa 1) rg (nK aq));refine bC ?_;refine ae ?_ ?_ ?_;exact(aQ Z.iZ (aa 0));exact ar;exact bE;exact bx;refine ao ?_ ?_;refine cj ?_ ?_;exact(bj Fx30 (hr.mono (by decide)) aY (aa 0) (ae (aa 2) ar aj));exact aN;refine az ?_;refine y_ret ?_;refine bu cE ?_ ?_;exact(lW (aa 1) rg (nK aq));refine bC ?_;refine ae ?_ ?_ ?_;exact jl;exact ar;exact ai)
theorem u0{fa:Addr}{fd:FuncData}(F:Fun K "__init__" "Hall.__init__" gc fa fd)(Z:Txt K mg cl)(Fx31:Ct3 P w K mg base CX0 (TT cl) 1 "Hand" 0 3 jx)(Fx32:Ct3 P w K mg base CX0 (TT cl) 1 "Keeper" 1 1 hG):bo P w K mg base CX0 3 fa fd ["self","count","many"] (sp3 (TT cl) K 3 hX):=by
 exact bQ (k:=2) F uL rfl rfl fun cdv A outer s H E hr=>have hu:=hr.units
  (by refine ao ?_ ?_;exact(cD Z.jT (aa 0) (m8 (Blk.of (caps:=[]) (cl:=[]) rfl rfl rfl rfl rfl (by decide) rfl rfl rfl rfl rfl) rfl (ij Z.fV (aa 1)) (fun _ _ _ _ _=>fU) (fun _ _ _ _ _=>(Dh Fx32 (hr.mono (by decide)) aY))));refine ao ?_ ?_;exact(cD Z.ou (aa 0) (m8 (Blk.of (caps:=[("count",1)]) (cl:=[("count",s.heap.objs.size+1)]) rfl rfl rfl rfl rfl (by decide) rfl rfl rfl rfl rfl) rfl (ij Z.fV (aa 2)) (fun _ _ _ _ _=>fU) (fun _ _ _ _ _=>(u5 Fx31 (hr.mono (by decide)) aY (ae (aa 0) (ae (aa 1) ar aj) aj)))));refine az ?_;exact(cD Z.oC (aa 0) (by refine dN ?_;exact ar)))
theorem pZ{fa:Addr}{fd:FuncData}(F:Fun K "hand_of" "Hall.hand_of" eF fa fd)(Z:Txt K mg cl):bo P w K mg base (CX1 P w) 1 fa fd ["self","number"] (sp3 (TT cl) K 2 bD):=by
 obtain⟨vM,ec_NoHand,ex_NoHand⟩:=Z.vM
 exact ib (k:=0) F pT rfl rfl fun cdv A outer s H E hr=>have hu:=hr.units
  (by refine ao ?_ ?_;refine cG ?_ ?_ ?_;exact(PW.pt (w_or (bS (rN hu) (aa 1) aq (bh _)) (li (bS (Bc hu) (aa 1) (dP Z.fP (ae (aQ Z.ou (aa 0)) ar bE)) (bh _)))));refine az ?_;exact(y_raise cz cq hr.hd ex_NoHand ec_NoHand (ae bq ar ai));exact bx;refine az ?_;refine y_ret ?_;refine bw hu ?_ ?_;exact(aQ Z.ou (aa 0));exact(aa 1))
theorem oz{fa:Addr}{fd:FuncData}(F:Fun K "keeper_of" "Hall.keeper_of" dE fa fd)(Z:Txt K mg cl):bo P w K mg base (CX1 P w) 1 fa fd ["self","number"] (sp3 (TT cl) K 2 bW):=by
 obtain⟨qw,ec_NoKeeper,ex_NoKeeper⟩:=Z.qw
 exact ib (k:=0) F oj rfl rfl fun cdv A outer s H E hr=>have hu:=hr.units
  (by refine ao ?_ ?_;refine cG ?_ ?_ ?_;exact(PW.pt (w_or (bS (rN hu) (aa 1) aq (bh _)) (li (bS (Bc hu) (aa 1) (dP Z.fP (ae (aQ Z.jT (aa 0)) ar bE)) (bh _)))));refine az ?_;exact(y_raise cz cq hr.hd ex_NoKeeper ec_NoKeeper (ae bq ar ai));exact bx;refine az ?_;refine y_ret ?_;refine bw hu ?_ ?_;exact(aQ Z.jT (aa 0));exact(aa 1))
theorem uE{fa:Addr}{fd:FuncData}(F:Fun K "send" "Hall.send" fY fa fd)(Z:Txt K mg cl):bo P w K mg base CX0 1 fa fd ["self","letters"] (sp3 (TT cl) K 2 dD):=by
 exact bQ (k:=0) F ui rfl rfl fun cdv A outer s H E hr=>have hu:=hr.units
  (by refine az ?_;refine cj ?_ ?_;refine vU ?_ ?_;exact(aQ Z.oC (aa 0));exact(m8 (Blk.nil rfl rfl (by decide +kernel) rfl) rfl (nT (aa 1)) (fun _ _ _ _ _=>fU) (fun _ _ _ _ _=>(by refine bC ?_;refine ae ?_ ?_ ?_;exact fj;refine ae ?_ ?_ ?_;exact(aa 0);exact ar;exact aj;exact ai)));exact aN)
theorem sC{fa:Addr}{fd:FuncData}(F:Fun K "write" "Hall.write" fO fa fd)(Z:Txt K mg cl)(Fx33:Mt3 P w K mg base (CX1 P w) (TT cl) 4 0 "begin_write" 2 eK)(Fx1:Mt3 P w K mg base (CX1 P w) (TT cl) 1 2 "hand_of" 2 bD)(Fx3:Mt3 P w K mg base CX0 (TT cl) 1 2 "send" 2 dD):bo P w K mg base (CX1 P w) 5 fa fd ["self","hand","value"] (sp3 (TT cl) K 3 iK):=by
 exact ib (k:=4) F rY rfl rfl fun cdv A outer s H E hr=>have hu:=hr.units
  (by refine az ?_;refine cj ?_ ?_;exact(bj Fx3 (hr.mono (by decide)) aY (aa 0) (ae (bj Fx33 (hr.mono (by decide)) (ff cz cq) (bj Fx1 (hr.mono (by decide)) (ff cz cq) (aa 0) (ae (aa 1) ar aj)) (ae (aa 2) ar aj)) ar dQ));exact aN)
theorem tR{fa:Addr}{fd:FuncData}(F:Fun K "read" "Hall.read" gh fa fd)(Z:Txt K mg cl)(Fx34:Mt3 P w K mg base (CX1 P w) (TT cl) 4 0 "begin_read" 1 e9)(Fx1:Mt3 P w K mg base (CX1 P w) (TT cl) 1 2 "hand_of" 2 bD)(Fx3:Mt3 P w K mg base CX0 (TT cl) 1 2 "send" 2 dD):bo P w K mg base (CX1 P w) 5 fa fd ["self","hand"] (sp3 (TT cl) K 2 jG):=by
 exact ib (k:=4) F tQ rfl rfl fun cdv A outer s H E hr=>have hu:=hr.units
  (by refine az ?_;refine cj ?_ ?_;exact(bj Fx3 (hr.mono (by decide)) aY (aa 0) (ae (fJ Fx34 (hr.mono (by decide)) (ff cz cq) (bj Fx1 (hr.mono (by decide)) (ff cz cq) (aa 0) (ae (aa 1) ar aj))) ar dQ));exact aN)
theorem su{fa:Addr}{fd:FuncData}(F:Fun K "again" "Hall.again" fC fa fd)(Z:Txt K mg cl)(Fx35:Mt3 P w K mg base (CX1 P w) (TT cl) 2 0 "send_again" 1 fi)(Fx1:Mt3 P w K mg base (CX1 P w) (TT cl) 1 2 "hand_of" 2 bD)(Fx3:Mt3 P w K mg base CX0 (TT cl) 1 2 "send" 2 dD):bo P w K mg base (CX1 P w) 3 fa fd ["self","hand"] (sp3 (TT cl) K 2 iF):=by
 exact ib (k:=2) F mV rfl rfl fun cdv A outer s H E hr=>have hu:=hr.units
  (by refine ao ?_ ?_;refine bA (i:=2) ?_ ?_ ?_ ?_ ?_ ?_;exact mV.nd;exact rfl;exact Or.inl rfl;exact(fJ Fx35 (hr.mono (by decide)) (ff cz cq) (bj Fx1 (hr.mono (by decide)) (ff cz cq) (aa 0) (ae (aa 1) ar aj)));exact aN;walk_at "sb";refine ao ?_ ?_;refine cj ?_ ?_;exact(bj Fx3 (hr.mono (by decide)) aY (aa 0) (ae (aa 2) ar aj));exact aN;refine az ?_;refine y_ret ?_;exact(dP Z.fP (ae (aa 2) ar aj)))
theorem rX{fa:Addr}{fd:FuncData}(F:Fun K "leave" "Hall.leave" fE fa fd)(Z:Txt K mg cl)(Fx36:Mt3 P w K mg base (CX1 P w) (TT cl) 2 0 "give_up" 1 gD)(Fx1:Mt3 P w K mg base (CX1 P w) (TT cl) 1 2 "hand_of" 2 bD):bo P w K mg base (CX1 P w) 3 fa fd ["self","hand"] (sp3 (TT cl) K 2 iL):=by
 exact ib (k:=2) F rR rfl rfl fun cdv A outer s H E hr=>have hu:=hr.units
  (by refine az ?_;refine cj ?_ ?_;exact(fJ Fx36 (hr.mono (by decide)) (ff cz cq) (bj Fx1 (hr.mono (by decide)) (ff cz cq) (aa 0) (ae (aa 1) ar aj)));exact aN)
theorem mJ{fa:Addr}{fd:FuncData}(F:Fun K "stop_keeper" "Hall.stop_keeper" cO fa fd)(Z:Txt K mg cl)(Fx37:Mt3 P w K mg base CX0 (TT cl) 1 1 "stop" 1 hI)(Fx4:Mt3 P w K mg base (CX1 P w) (TT cl) 1 2 "keeper_of" 2 bW):bo P w K mg base (CX1 P w) 2 fa fd ["self","keeper"] (sp3 (TT cl) K 2 eO):=by
 exact ib (k:=1) F mC rfl rfl fun cdv A outer s H E hr=>have hu:=hr.units
  (by refine az ?_;refine y_ret ?_;exact(fJ Fx37 (hr.mono (by decide)) aY (bj Fx4 (hr.mono (by decide)) (ff cz cq) (aa 0) (ae (aa 1) ar aj))))
theorem mO{fa:Addr}{fd:FuncData}(F:Fun K "wake_keeper" "Hall.wake_keeper" cK fa fd)(Z:Txt K mg cl)(Fx38:Mt3 P w K mg base CX0 (TT cl) 1 1 "wake" 1 hJ)(Fx4:Mt3 P w K mg base (CX1 P w) (TT cl) 1 2 "keeper_of" 2 bW):bo P w K mg base (CX1 P w) 2 fa fd ["self","keeper"] (sp3 (TT cl) K 2 eL):=by
 exact ib (k:=1) F mG rfl rfl fun cdv A outer s H E hr=>have hu:=hr.units
  (by refine az ?_;refine y_ret ?_;exact(fJ Fx38 (hr.mono (by decide)) aY (bj Fx4 (hr.mono (by decide)) (ff cz cq) (aa 0) (ae (aa 1) ar aj))))
theorem kj{fa:Addr}{fd:FuncData}(F:Fun K "come_to_keeper" "Hall.come_to_keeper" bP fa fd)(Z:Txt K mg cl)(Fx39:Mt3 P w K mg base CX0 (TT cl) 2 1 "answer_to" 2 eM):bo P w K mg base CX0 3 fa fd ["self","letter"] (sp3 (TT cl) K 2 dM):=by
 exact bQ (k:=2) F gA rfl rfl fun cdv A outer s H E hr=>have hu:=hr.units
  (by refine ao ?_ ?_;refine bA (i:=2) ?_ ?_ ?_ ?_ ?_ ?_;exact gA.nd;exact rfl;exact Or.inl rfl;exact(bj Fx39 (hr.mono (by decide)) aY (by refine bw hu ?_ ?_;exact(aQ Z.jT (aa 0));refine bw hu ?_ ?_;exact(aa 1);exact aq) (ae (aa 1) ar aj));exact aN;walk_at "sb";refine az ?_;refine cG ?_ ?_ ?_;exact(o6 (aa 2));refine az ?_;refine cj ?_ ?_;exact(ie (aQ Z.oC (aa 0)) (by refine bC ?_;refine ae ?_ ?_ ?_;exact fj;refine ae ?_ ?_ ?_;exact(aa 2);exact ar;exact aj;exact ai));exact aN;exact bx)
theorem kX{fa:Addr}{fd:FuncData}(F:Fun K "come_to_hand" "Hall.come_to_hand" cA fa fd)(Z:Txt K mg cl)(Fx40:Mt3 P w K mg base CX0 (TT cl) 3 0 "hear" 2 jE)(Fx3:Mt3 P w K mg base CX0 (TT cl) 1 2 "send" 2 dD):bo P w K mg base CX0 4 fa fd ["self","answer"] (sp3 (TT cl) K 2 ef):=by
 exact bQ (k:=3) F hZ rfl rfl fun cdv A outer s H E hr=>have hu:=hr.units
  (by refine ao ?_ ?_;refine bA (i:=2) ?_ ?_ ?_ ?_ ?_ ?_;exact hZ.nd;exact rfl;exact Or.inl rfl;exact(bj Fx40 (hr.mono (by decide)) aY (by refine bw hu ?_ ?_;exact(aQ Z.ou (aa 0));refine bw hu ?_ ?_;exact(aa 1);exact aq) (ae (aa 1) ar aj));exact aN;walk_at "sb";refine ao ?_ ?_;refine cj ?_ ?_;exact(bj Fx3 (hr.mono (by decide)) aY (aa 0) (ae (by refine bw hu ?_ ?_;exact(aa 2);exact aq) ar aX));exact aN;refine ao ?_ ?_;refine cG ?_ ?_ ?_;exact(sR (by refine bw hu ?_ ?_;exact(aa 2);exact aq));refine az ?_;refine y_ret ?_;refine dN ?_;exact ar;exact bx;refine az ?_;refine y_ret ?_;refine dN ?_;refine ae ?_ ?_ ?_;refine bC ?_;refine ae ?_ ?_ ?_;refine bw hu ?_ ?_;exact(aa 1);exact aq;refine ae ?_ ?_ ?_;refine bw hu ?_ ?_;exact(aa 2);exact aq;exact ar;exact aX;exact aX;exact ar;exact bz)
theorem ud{fa:Addr}{fd:FuncData}(F:Fun K "come" "Hall.come" gk fa fd)(Z:Txt K mg cl)(Fx41:Mt3 P w K mg base CX0 (TT cl) 3 2 "come_to_keeper" 2 dM)(Fx42:Mt3 P w K mg base CX0 (TT cl) 4 2 "come_to_hand" 2 ef):bo P w K mg base CX0 5 fa fd ["self","place","stays"] (sp3 (TT cl) K 3 eG):=by
 exact bQ (k:=4) F oa rfl rfl fun cdv A outer s H E hr=>have hu:=hr.units
  (by refine ao ?_ ?_;refine bA (i:=3) ?_ ?_ ?_ ?_ ?_ ?_;exact oa.nd;exact rfl;exact Or.inl rfl;refine bw hu ?_ ?_;exact(aQ Z.oC (aa 0));exact(aa 1);exact jM;walk_at "sb";refine ao ?_ ?_;refine cG ?_ ?_ ?_;exact(gG (jg (aa 2)));refine az ?_;refine cj ?_ ?_;exact(B6 (aQ Z.oC (aa 0)) (aa 1));exact aN;exact bx;refine ao ?_ ?_;refine cG ?_ ?_ ?_;exact(jg (by refine bw hu ?_ ?_;exact(aa 3);exact aq));refine az ?_;refine y_ret ?_;exact(bj Fx42 (hr.mono (by decide)) aY (aa 0) (ae (by refine bw hu ?_ ?_;exact(aa 3);exact aq) ar aX));exact bx;refine ao ?_ ?_;refine cj ?_ ?_;exact(bj Fx41 (hr.mono (by decide)) aY (aa 0) (ae (by refine bw hu ?_ ?_;exact(aa 3);exact aq) ar aX));exact aN;refine az ?_;refine y_ret ?_;refine dN ?_;exact ar)
theorem sA{fa:Addr}{fd:FuncData}(F:Fun K "carry" "Hall.carry" fN fa fd)(Z:Txt K mg cl)(Fx5:Mt3 P w K mg base CX0 (TT cl) 5 2 "come" 3 eG):bo P w K mg base (CX1 P w) 6 fa fd ["self","number","stays"] (sp3 (TT cl) K 3 iG):=by
 obtain⟨qI,ec_NoLetter,ex_NoLetter⟩:=Z.qI
 exact ib (k:=5) F sD rfl rfl fun cdv A outer s H E hr=>have hu:=hr.units
  (by refine ao ?_ ?_;refine cG ?_ ?_ ?_;exact(gG (jg (aQ Z.oC (aa 0))));refine az ?_;exact(y_raise cz cq hr.hd ex_NoLetter ec_NoLetter (ae bq ar ai));exact bx;refine az ?_;refine y_ret ?_;exact(bj Fx5 (hr.mono (by decide)) aY (aa 0) (ae (by refine bu bp ?_ ?_;exact(aa 1);exact(dP Z.fP (ae (aQ Z.oC (aa 0)) ar bE))) (ae (aa 2) ar aj) fx)))
theorem kL{fa:Addr}{fd:FuncData}(F:Fun K "first_between" "Hall.first_between" bZ fa fd)(Z:Txt K mg cl):bo P w K mg base CX0 1 fa fd ["self","hand","keeper"] (sp3 (TT cl) K 3 cU):=by
 exact bQ (k:=0) F eZ rfl rfl fun cdv A outer s H E hr=>have hu:=hr.units
  (by refine ao ?_ ?_;exact(jP PassesOwn.never rfl (FF Z.vX (aQ Z.oC (aa 0))) (FY rfl (kf (i:=3) eZ.nd rfl (Or.inl rfl) (kf (i:=4) eZ.nd rfl (Or.inl rfl) Bf))) (by refine az ?_;refine cG ?_ ?_ ?_;exact(bS (iw hu) (lW (by refine bw hu ?_ ?_;exact(aa 4);exact aq) rg (nK aq)) (by refine bC ?_;refine ae ?_ ?_ ?_;exact(aa 1);refine ae ?_ ?_ ?_;exact(aa 2);exact ar;exact aj;exact aj) (bh _));refine az ?_;refine y_ret ?_;exact(aa 3);exact bx));refine az ?_;refine y_ret ?_;exact jl)
theorem kK{fa:Addr}{fd:FuncData}(F:Fun K "carry_between" "Hall.carry_between" bX fa fd)(Z:Txt K mg cl)(Fx1:Mt3 P w K mg base (CX1 P w) (TT cl) 1 2 "hand_of" 2 bD)(Fx4:Mt3 P w K mg base (CX1 P w) (TT cl) 1 2 "keeper_of" 2 bW)(Fx5:Mt3 P w K mg base CX0 (TT cl) 5 2 "come" 3 eG)(Fx18:Mt3 P w K mg base CX0 (TT cl) 1 2 "first_between" 3 cU):bo P w K mg base (CX1 P w) 6 fa fd ["self","hand","keeper"] (sp3 (TT cl) K 3 dW):=by
 exact ib (k:=5) F dJ rfl rfl fun cdv A outer s H E hr=>have hu:=hr.units
  (by refine ao ?_ ?_;refine cj ?_ ?_;exact(bj Fx1 (hr.mono (by decide)) (ff cz cq) (aa 0) (ae (aa 1) ar aj));exact aN;refine ao ?_ ?_;refine cj ?_ ?_;exact(bj Fx4 (hr.mono (by decide)) (ff cz cq) (aa 0) (ae (aa 2) ar aj));exact aN;refine ao ?_ ?_;refine bA (i:=3) ?_ ?_ ?_ ?_ ?_ ?_;exact dJ.nd;exact rfl;exact Or.inl rfl;refine dN ?_;exact ar;exact nH;walk_at "sb";refine ao ?_ ?_;refine bA (i:=4) ?_ ?_ ?_ ?_ ?_ ?_;exact dJ.nd;exact rfl;exact Or.inl rfl;exact(bj Fx18 (hr.mono (by decide)) aY (aa 0) (ae (aa 1) (ae (aa 2) ar aj) aj));exact aN;walk_at "sb";refine ao ?_ ?_;exact(yj BH (o6 (aa 4)) (by refine ao ?_ ?_;refine cj ?_ ?_;refine tZ ?_ ?_ dQ;exact(aa 3);exact(bj Fx5 (hr.mono (by decide)) aY (aa 0) (ae (aa 4) (ae fj ar ai) aj));exact aN;refine az ?_;refine bA (i:=4) ?_ ?_ ?_ ?_ ?_ ?_;exact dJ.nd;exact rfl;exact Or.inl rfl;exact(bj Fx18 (hr.mono (by decide)) aY (aa 0) (ae (aa 1) (ae (aa 2) ar aj) aj));exact aN;walk_at "sb"));refine az ?_;refine y_ret ?_;exact(aa 3))
theorem sx{fa:Addr}{fd:FuncData}(F:Fun K "sweep" "Hall.sweep" fB fa fd)(Z:Txt K mg cl)(Fx5:Mt3 P w K mg base CX0 (TT cl) 5 2 "come" 3 eG):bo P w K mg base CX0 6 fa fd ["self"] (sp3 (TT cl) K 1 iH):=by
 exact bQ (k:=5) F m3 rfl rfl fun cdv A outer s H E hr=>have hu:=hr.units
  (by refine ao ?_ ?_;refine bA (i:=1) ?_ ?_ ?_ ?_ ?_ ?_;exact m3.nd;exact rfl;exact Or.inl rfl;refine dN ?_;exact ar;exact nH;walk_at "sb";refine ao ?_ ?_;exact(yj PassesOwn.never (jg (aQ Z.oC (aa 0))) (by refine az ?_;refine cj ?_ ?_;refine tZ ?_ ?_ dQ;exact(aa 1);exact(bj Fx5 (hr.mono (by decide)) aY (aa 0) (ae aq (ae fj ar ai) ai));exact aN));refine az ?_;refine y_ret ?_;exact(aa 1))
theorem uJ{fa:Addr}{fd:FuncData}(F:Fun K "__init__" "Work.__init__" fZ fa fd)(Z:Txt K mg cl):bo P w K mg base CX0 1 fa fd ["self","hand","word","value","begun"] (sp3 (TT cl) K 5 jm):=by
 exact bQ (k:=0) F uC rfl rfl fun cdv A outer s H E hr=>have hu:=hr.units
  (by refine ao ?_ ?_;exact(cD Z.Ak (aa 0) (aa 1));refine ao ?_ ?_;exact(cD Z.BZ (aa 0) (aa 2));refine ao ?_ ?_;exact(cD Z.jt (aa 0) (aa 3));refine ao ?_ ?_;exact(cD Z.ya (aa 0) (aa 4));refine ao ?_ ?_;exact(cD Z.uv (aa 0) jl);refine az ?_;exact(cD Z.uP (aa 0) jl))
theorem uQ{fa:Addr}{fd:FuncData}(F:Fun K "told" "Work.told" gi fa fd)(Z:Txt K mg cl):bo P w K mg base CX0 1 fa fd ["self"] (sp3 (TT cl) K 1 jF):=by
 exact bQ (k:=0) F tN rfl rfl fun cdv A outer s H E hr=>have hu:=hr.units
  (by refine az ?_;refine y_ret ?_;refine bC ?_;refine ae ?_ ?_ ?_;exact(aQ Z.Ak (aa 0));refine ae ?_ ?_ ?_;exact(aQ Z.BZ (aa 0));refine ae ?_ ?_ ?_;exact(aQ Z.jt (aa 0));refine ae ?_ ?_ ?_;exact(aQ Z.ya (aa 0));refine ae ?_ ?_ ?_;exact(aQ Z.uv (aa 0));exact ar;exact bE;exact bE;exact bE;exact bE;exact bE)
theorem rV{fa:Addr}{fd:FuncData}(F:Fun K "__init__" "Story.__init__" fG fa fd)(Z:Txt K mg cl)(Fx43:Ct3 P w K mg base CX0 (TT cl) 3 "Hall" 2 3 hX):bo P w K mg base CX0 5 fa fd ["self","count","many"] (sp3 (TT cl) K 3 iJ):=by
 exact bQ (k:=4) F rT rfl rfl fun cdv A outer s H E hr=>have hu:=hr.units
  (by refine ao ?_ ?_;exact(cD Z.il (aa 0) (u5 Fx43 (hr.mono (by decide)) aY (ae (aa 1) (ae (aa 2) ar aj) aj)));refine ao ?_ ?_;exact(cD Z.kz (aa 0) (by refine dN ?_;exact ar));refine ao ?_ ?_;exact(cD Z.fS (aa 0) ue);refine az ?_;exact(cD Z.gE (aa 0) aq))
theorem nz{fa:Addr}{fd:FuncData}(F:Fun K "note_work" "Story.note_work" dh fa fd)(Z:Txt K mg cl)(Fx44:Ct3 P w K mg base CX0 (TT cl) 1 "Work" 3 5 jm):bo P w K mg base CX0 3 fa fd ["self","hand","word","value"] (sp3 (TT cl) K 4 dX):=by
 exact bQ (k:=2) F iX rfl rfl fun cdv A outer s H E hr=>have hu:=hr.units
  (by refine ao ?_ ?_;refine bA (i:=4) ?_ ?_ ?_ ?_ ?_ ?_;exact iX.nd;exact rfl;exact Or.inl rfl;exact(dP Z.fP (ae (aQ Z.kz (aa 0)) ar bE));exact aN;walk_at "sb";refine ao ?_ ?_;refine cj ?_ ?_;exact(ie (aQ Z.kz (aa 0)) (u5 Fx44 (hr.mono (by decide)) aY (ae (aa 1) (ae (aa 2) (ae (aa 3) (ae (aQ Z.gE (aa 0)) ar bE) aj) aj) aj)));exact aN;refine ao ?_ ?_;exact(DJ hu (aQ Z.fS (aa 0)) (aa 1) (aa 4));refine az ?_;refine y_ret ?_;exact(aa 4))
theorem oP{fa:Addr}{fd:FuncData}(F:Fun K "note_end" "Story.note_end" dG fa fd)(Z:Txt K mg cl):bo P w K mg base CX0 1 fa fd ["self","hand","pair"] (sp3 (TT cl) K 3 fA):=by
 exact bQ (k:=0) F gs rfl rfl fun cdv A outer s H E hr=>have hu:=hr.units
  (by refine ao ?_ ?_;refine bA (i:=3) ?_ ?_ ?_ ?_ ?_ ?_;exact gs.nd;exact rfl;exact Or.inl rfl;refine bw hu ?_ ?_;exact(aQ Z.fS (aa 0));exact(aa 1);exact jM;walk_at "sb";refine ao ?_ ?_;refine bA (i:=4) ?_ ?_ ?_ ?_ ?_ ?_;exact gs.nd;exact rfl;exact Or.inl rfl;refine bw hu ?_ ?_;exact(aQ Z.kz (aa 0));exact(aa 3);exact jM;walk_at "sb";refine ao ?_ ?_;exact(cD Z.jt (aa 4) (by refine bw hu ?_ ?_;exact(aa 2);exact aq));refine ao ?_ ?_;exact(cD Z.uv (aa 4) (aQ Z.gE (aa 0)));refine az ?_;refine y_ret ?_;refine bC ?_;refine ae ?_ ?_ ?_;exact(aa 3);refine ae ?_ ?_ ?_;exact(aQ Z.jt (aa 4));exact ar;exact bE;exact aj)
theorem ni{fa:Addr}{fd:FuncData}(F:Fun K "note_ends" "Story.note_ends" dk fa fd)(Z:Txt K mg cl)(Fx45:Mt3 P w K mg base CX0 (TT cl) 1 4 "note_end" 3 fA):bo P w K mg base CX0 2 fa fd ["self","ends"] (sp3 (TT cl) K 2 cu):=by
 exact bQ (k:=1) F nE rfl rfl fun cdv A outer s H E hr=>have hu:=hr.units
  (by refine az ?_;refine y_ret ?_;exact(m8 (Blk.of (caps:=[("self",0)]) (cl:=[("self",s.heap.objs.size+1)]) rfl rfl rfl rfl rfl (by decide) rfl rfl rfl rfl rfl) rfl (nT (aa 1)) (fun _ _ _ _ _=>fU) (fun _ _ _ _ _=>(bj Fx45 (hr.mono (by decide)) aY (aa 1) (ae (by refine bw hu ?_ ?_;exact(aa 0);exact aq) (ae (by refine bw hu ?_ ?_;exact(aa 0);exact aq) ar aX) aX)))))
theorem sj{fa:Addr}{fd:FuncData}(F:Fun K "done" "Story.done" fD fa fd)(Z:Txt K mg cl)(Fx46:Mt3 P w K mg base (CX1 P w) (TT cl) 5 2 "write" 3 iK)(Fx47:Mt3 P w K mg base (CX1 P w) (TT cl) 5 2 "read" 2 jG)(Fx48:Mt3 P w K mg base (CX1 P w) (TT cl) 3 2 "again" 2 iF)(Fx49:Mt3 P w K mg base (CX1 P w) (TT cl) 3 2 "leave" 2 iL)(Fx50:Mt3 P w K mg base (CX1 P w) (TT cl) 2 2 "stop_keeper" 2 eO)(Fx51:Mt3 P w K mg base (CX1 P w) (TT cl) 2 2 "wake_keeper" 2 eL)(Fx52:Mt3 P w K mg base (CX1 P w) (TT cl) 6 2 "carry" 3 iG)(Fx53:Mt3 P w K mg base (CX1 P w) (TT cl) 6 2 "carry_between" 3 dW)(Fx54:Mt3 P w K mg base CX0 (TT cl) 6 2 "sweep" 1 iH)(Fx19:Mt3 P w K mg base CX0 (TT cl) 3 4 "note_work" 4 dX)(Fx12:Mt3 P w K mg base CX0 (TT cl) 2 4 "note_ends" 2 cu):bo P w K mg base (CX1 P w) 7 fa fd ["self","deed"] (sp3 (TT cl) K 2 iI):=by
 exact ib (k:=6) F jL rfl rfl fun cdv A outer s H E hr=>have hu:=hr.units
  (by refine ao ?_ ?_;refine bA (i:=2) ?_ ?_ ?_ ?_ ?_ ?_;exact jL.nd;exact rfl;exact Or.inl rfl;refine bw hu ?_ ?_;exact(aa 1);exact aq;exact jM;walk_at "sb";refine ao ?_ ?_;refine cG ?_ ?_ ?_;exact(bS (iw hu) (aa 2) bq (bh _));refine ao ?_ ?_;refine cj ?_ ?_;exact(bj Fx46 (hr.mono (by decide)) (ff cz cq) (aQ Z.il (aa 0)) (ae (by refine bw hu ?_ ?_;exact(aa 1);exact aq) (ae (by refine bw hu ?_ ?_;exact(aa 1);exact aq) ar aX) aX));exact aN;refine az ?_;refine y_ret ?_;exact(bj Fx19 (hr.mono (by decide)) aY (aa 0) (ae (by refine bw hu ?_ ?_;exact(aa 1);exact aq) (ae (aa 2) (ae (by refine bw hu ?_ ?_;exact(aa 1);exact aq) ar aX) aj) aX));exact bx;refine ao ?_ ?_;refine cG ?_ ?_ ?_;exact(bS (iw hu) (aa 2) bq (bh _));refine ao ?_ ?_;refine cj ?_ ?_;exact(bj Fx47 (hr.mono (by decide)) (ff cz cq) (aQ Z.il (aa 0)) (ae (by refine bw hu ?_ ?_;exact(aa 1);exact aq) ar aX));exact aN;refine az ?_;refine y_ret ?_;exact(bj Fx19 (hr.mono (by decide)) aY (aa 0) (ae (by refine bw hu ?_ ?_;exact(aa 1);exact aq) (ae (aa 2) (ae jl ar ai) aj) aX));exact bx;refine ao ?_ ?_;refine cG ?_ ?_ ?_;exact(bS (iw hu) (aa 2) bq (bh _));refine ao ?_ ?_;refine bA (i:=3) ?_ ?_ ?_ ?_ ?_ ?_;exact jL.nd;exact rfl;exact Or.inl rfl;exact(bj Fx12 (hr.mono (by decide)) aY (aa 0) (ae (bj Fx52 (hr.mono (by decide)) (ff cz cq) (aQ Z.il (aa 0)) (ae (by refine bw hu ?_ ?_;exact(aa 1);exact aq) (ae (by refine bw hu ?_ ?_;exact(aa 1);exact aq) ar aX) aX)) ar dQ));exact aN;walk_at "sb";refine az ?_;refine y_ret ?_;exact(Ja (jg (aa 3)) (by refine bw hu ?_ ?_;exact(aa 3);exact aq) jl);exact bx;refine ao ?_ ?_;refine cG ?_ ?_ ?_;exact(bS (iw hu) (aa 2) bq (bh _));refine az ?_;refine y_ret ?_;exact(bj Fx12 (hr.mono (by decide)) aY (aa 0) (ae (bj Fx53 (hr.mono (by decide)) (ff cz cq) (aQ Z.il (aa 0)) (ae (by refine bw hu ?_ ?_;exact(aa 1);exact aq) (ae (by refine bw hu ?_ ?_;exact(aa 1);exact aq) ar aX) aX)) ar dQ));exact bx;refine ao ?_ ?_;refine cG ?_ ?_ ?_;exact(bS (iw hu) (aa 2) bq (bh _));refine az ?_;refine y_ret ?_;exact(bj Fx12 (hr.mono (by decide)) aY (aa 0) (ae (fJ Fx54 (hr.mono (by decide)) aY (aQ Z.il (aa 0))) ar dQ));exact bx;refine ao ?_ ?_;refine cG ?_ ?_ ?_;exact(bS (iw hu) (aa 2) bq (bh _));refine az ?_;refine y_ret ?_;exact(bj Fx48 (hr.mono (by decide)) (ff cz cq) (aQ Z.il (aa 0)) (ae (by refine bw hu ?_ ?_;exact(aa 1);exact aq) ar aX));exact bx;refine ao ?_ ?_;refine cG ?_ ?_ ?_;exact(bS (iw hu) (aa 2) bq (bh _));refine ao ?_ ?_;refine cj ?_ ?_;exact(bj Fx49 (hr.mono (by decide)) (ff cz cq) (aQ Z.il (aa 0)) (ae (by refine bw hu ?_ ?_;exact(aa 1);exact aq) ar aX));exact aN;refine az ?_;refine y_ret ?_;refine bw hu ?_ ?_;exact(aQ Z.fS (aa 0));refine bw hu ?_ ?_;exact(aa 1);exact aq;exact bx;refine ao ?_ ?_;refine cG ?_ ?_ ?_;exact(bS (iw hu) (aa 2) bq (bh _));refine az ?_;refine y_ret ?_;exact(bj Fx50 (hr.mono (by decide)) (ff cz cq) (aQ Z.il (aa 0)) (ae (by refine bw hu ?_ ?_;exact(aa 1);exact aq) ar aX));exact bx;refine az ?_;refine y_ret ?_;exact(bj Fx51 (hr.mono (by decide)) (ff cz cq) (aQ Z.il (aa 0)) (ae (by refine bw hu ?_ ?_;exact(aa 1);exact aq) ar aX)))
theorem jK{fa:Addr}{fd:FuncData}(F:Fun K "done_or_refused" "Story.done_or_refused" bG fa fd)(Z:Txt K mg cl)(Fx55:Mt3 P w K mg base (CX1 P w) (TT cl) 7 4 "done" 2 iI):bo P w K mg base CX0 8 fa fd ["self","deed"] (sp3 (TT cl) K 2 di):=by
 obtain⟨a_NoHand,em_NoHand,eh_NoHand⟩:=Z.Bd
 obtain⟨a_NoKeeper,em_NoKeeper,eh_NoKeeper⟩:=Z.x9
 obtain⟨a_NoLetter,em_NoLetter,eh_NoLetter⟩:=Z.xB
 obtain⟨a_Busy,em_Busy,eh_Busy⟩:=Z.GD
 obtain⟨a_Idle,em_Idle,eh_Idle⟩:=Z.EQ
 exact bQ (k:=7) F jH rfl rfl fun cdv A outer s H E hr=>have hu:=hr.units
  (by refine az ?_;exact(BM yc (Cy yc Fx55 (hr.mono (by decide)) (fun _=>(aa 0)) (fun _=>(ae (aa 1) ar aj))) (Hs.cons em_NoHand rfl (by decide) eh_NoHand (fun _=>(by refine az ?_;refine y_ret ?_;exact bq)) (Hs.cons em_NoKeeper rfl (by decide) eh_NoKeeper (fun _=>(by refine az ?_;refine y_ret ?_;exact bq)) (Hs.cons em_NoLetter rfl (by decide) eh_NoLetter (fun _=>(by refine az ?_;refine y_ret ?_;exact bq)) (Hs.cons em_Busy rfl (by decide) eh_Busy (fun _=>(by refine az ?_;refine y_ret ?_;exact bq)) (Hs.cons em_Idle rfl (by decide) eh_Idle (fun _=>(by refine az ?_;refine y_ret ?_;exact bq)) Hs.nil)))))))
theorem kO{fa:Addr}{fd:FuncData}(F:Fun K "note_stamps" "Story.note_stamps" cB fa fd)(Z:Txt K mg cl):bo P w K mg base CX0 1 fa fd ["self"] (sp3 (TT cl) K 1 ed):=by
 exact bQ (k:=0) F cW rfl rfl fun cdv A outer s H E hr=>have hu:=hr.units
  (by refine az ?_;exact(Dc PassesOwn.never rfl (aQ Z.fS (aa 0)) (FY rfl (kf (i:=1) cW.nd rfl (Or.inl rfl) (kf (i:=2) cW.nd rfl (Or.inl rfl) Bf))) (by refine ao ?_ ?_;refine bA (i:=3) ?_ ?_ ?_ ?_ ?_ ?_;exact cW.nd;exact rfl;exact Or.inl rfl;exact(aQ Z.iZ (by refine bw hu ?_ ?_;exact(aQ Z.ou (aQ Z.il (aa 0)));exact(aa 1)));exact yo;walk_at "sb";refine az ?_;refine cG ?_ ?_ ?_;exact(o6 (aa 3));refine ao ?_ ?_;refine bA (i:=4) ?_ ?_ ?_ ?_ ?_ ?_;exact cW.nd;exact rfl;exact Or.inl rfl;refine bw hu ?_ ?_;exact(aQ Z.kz (aa 0));exact(aa 2);exact jM;walk_at "sb";refine az ?_;exact(cD Z.uP (aa 4) (by refine bw hu ?_ ?_;exact(aa 3);exact aq));exact bx)))
theorem pU{fa:Addr}{fd:FuncData}(F:Fun K "answer" "Story.answer" eh fa fd)(Z:Txt K mg cl)(Fx56:Mt3 P w K mg base CX0 (TT cl) 8 4 "done_or_refused" 2 di)(Fx57:Mt3 P w K mg base CX0 (TT cl) 1 4 "note_stamps" 1 ed):bo P w K mg base CX0 9 fa fd ["self","deed"] (sp3 (TT cl) K 2 fm):=by
 exact bQ (k:=8) F kF rfl rfl fun cdv A outer s H E hr=>have hu:=hr.units
  (by refine ao ?_ ?_;refine bA (i:=2) ?_ ?_ ?_ ?_ ?_ ?_;exact kF.nd;exact rfl;exact Or.inl rfl;exact(bj Fx56 (hr.mono (by decide)) aY (aa 0) (ae (aa 1) ar aj));exact aN;walk_at "sb";refine ao ?_ ?_;refine cj ?_ ?_;exact(fJ Fx57 (hr.mono (by decide)) aY (aa 0));exact aN;refine ao ?_ ?_;exact(cD Z.gE (aa 0) (by refine bu cE ?_ ?_;exact(aQ Z.gE (aa 0));exact aq));refine az ?_;refine y_ret ?_;exact(aa 2))
theorem ur{fa:Addr}{fd:FuncData}(F:Fun K "all_after" "all_after" gp fa fd)(Z:Txt K mg cl)(Fx58:Mt3 P w K mg base CX0 (TT cl) 1 3 "told" 1 jF)(Fx59:Ct3 P w K mg base CX0 (TT cl) 5 "Story" 4 3 iJ)(Fx60:Mt3 P w K mg base CX0 (TT cl) 9 4 "answer" 2 fm):bo P w K mg base CX0 10 fa fd ["count","many","deeds"] (sp3 (TT cl) K 3 jC):=by
 exact bQ (k:=9) F fH rfl rfl fun cdv A outer s H E hr=>have hu:=hr.units
  (by refine ao ?_ ?_;refine bA (i:=3) ?_ ?_ ?_ ?_ ?_ ?_;exact fH.nd;exact rfl;exact Or.inl rfl;exact(u5 Fx59 (hr.mono (by decide)) aY (ae (aa 0) (ae (aa 1) ar aj) aj));exact aN;walk_at "sb";refine ao ?_ ?_;exact(jP PassesOwn.never rfl (nT (aa 2)) (pX (i:=4) fH.nd rfl (Or.inl rfl)) (by refine az ?_;refine cj ?_ ?_;exact(bj Fx60 (hr.mono (by decide)) aY (aa 3) (ae (aa 4) ar aj));exact aN));refine ao ?_ ?_;exact(gP (i:=5) (Blk.nil rfl rfl (by decide +kernel) rfl) rfl fH.nd rfl rfl (nT (aQ Z.kz (aa 3))) (fun _ _ _ _ _=>fU) (fun _ _ _ _ _=>(fJ Fx58 (hr.mono (by decide)) aY (aa 0))));refine ao ?_ ?_;exact(gP (i:=6) (Blk.nil rfl rfl (by decide +kernel) rfl) rfl fH.nd rfl rfl (nT (aQ Z.kz (aa 3))) (fun _ _ _ _ _=>fU) (fun _ _ _ _ _=>(aQ Z.uP (aa 0))));refine ao ?_ ?_;exact(gP (i:=7) (Blk.nil rfl rfl (by decide +kernel) rfl) rfl fH.nd rfl rfl (nT (aQ Z.jT (aQ Z.il (aa 3)))) (fun _ _ _ _ _=>fU) (fun _ _ _ _ _=>(aQ Z.iZ (aa 0))));refine az ?_;refine y_ret ?_;refine bC ?_;refine ae ?_ ?_ ?_;exact(aa 5);refine ae ?_ ?_ ?_;exact(aa 6);refine ae ?_ ?_ ?_;exact(aa 7);exact ar;exact aj;exact aj;exact aj)
theorem Au{fa:Addr}{fd:FuncData}(F:Fun K "_law_whole" "_law_whole" mq fa fd)(Z:Txt K mg cl):bo P w K mg base CX0 1 fa fd ["_law_found"] (sp3 (TT cl) K 1 fT):=by
 exact bQ (k:=0) F z8 rfl rfl fun cdv A outer s H E hr=>have hu:=hr.units
  (by refine az ?_;refine y_ret ?_;exact(yO (vB .int Z.dU Z.yp (aa 0)) (wD (D5 (vB .bl Z.dU Z.EF (aa 0))))))
theorem GJ{fa:Addr}{fd:FuncData}(F:Fun K "_law_at" "_law_at" zk fa fd)(Z:Txt K mg cl):bo P w K mg base CX0 1 fa fd ["_law_script","_law_k"] (sp3 (TT cl) K 2 xj):=by
 exact bQ (k:=0) F HE rfl rfl fun cdv A outer s H E hr=>have hu:=hr.units
  (by refine ao ?_ ?_;refine cG ?_ ?_ ?_;exact(bS (rN hu) (aa 1) (dP Z.fP (ae (aa 0) ar aj)) (bh _));refine az ?_;refine y_ret ?_;refine bw hu ?_ ?_;exact(aa 0);exact(aa 1);exact bx;refine az ?_;refine y_ret ?_;exact aq)
theorem vR{fa:Addr}{fd:FuncData}(F:Fun K "_law_value_by" "_law_value_by" gR fa fd)(Z:Txt K mg cl):bo P w K mg base CX0 1 fa fd ["_law_cell","_law_k"] (sp3 (TT cl) K 2 kB):=by
 exact bQ (k:=0) F kZ rfl rfl fun cdv A outer s H E hr=>have hu:=hr.units
  (by refine ao ?_ ?_;refine bA (i:=2) ?_ ?_ ?_ ?_ ?_ ?_;exact kZ.nd;exact rfl;exact Or.inl rfl;refine bu cE ?_ ?_;refine bu cR ?_ ?_;refine bu bp ?_ ?_;exact(aa 0);exact(xF Z.yp (ae (by refine bu cE ?_ ?_;exact bq;refine bu cR ?_ ?_;exact bq;exact aq) ar fx));exact aq;exact(aa 1);exact ik;walk_at "sb";refine ao ?_ ?_;refine bA (i:=3) ?_ ?_ ?_ ?_ ?_ ?_;exact kZ.nd;exact rfl;exact Or.inl rfl;refine dN ?_;refine ae ?_ ?_ ?_;refine bu cE ?_ ?_;exact(aa 1);exact aq;refine ae ?_ ?_ ?_;refine bu oq ?_ ?_;refine bu oq ?_ ?_;exact aq;exact(aa 1);exact aq;refine ae ?_ ?_ ?_;refine bu cE ?_ ?_;refine bu cR ?_ ?_;exact aq;exact(aa 1);exact aq;refine ae ?_ ?_ ?_;exact(aa 2);refine ae ?_ ?_ ?_;refine bu oq ?_ ?_;exact aq;exact(aa 2);refine ae ?_ ?_ ?_;exact aq;exact ar;exact ai;exact fx;exact aj;exact fx;exact fx;exact fx;exact nH;walk_at "sb";refine az ?_;refine y_ret ?_;refine bw hu ?_ ?_;exact(aa 3);refine bu bp ?_ ?_;refine bu bp ?_ ?_;refine bu cR ?_ ?_;exact(aa 0);exact aq;exact aq;exact aq)
theorem xu{fa:Addr}{fd:FuncData}(F:Fun K "_law_deed_of" "_law_deed_of" iP fa fd)(Z:Txt K mg cl)(Fx61:Fn3 P w K mg base CX0 (TT cl) 1 "_law_value_by" 2 kB):bo P w K mg base CX0 2 fa fd ["_law_cell","_law_k","_law_count","_law_many"] (sp3 (TT cl) K 4 jX):=by
 exact bQ (k:=1) F gS rfl rfl fun cdv A outer s H E hr=>have hu:=hr.units
  (by refine ao ?_ ?_;refine bA (i:=4) ?_ ?_ ?_ ?_ ?_ ?_;exact gS.nd;exact rfl;exact Or.inl rfl;refine bu bp ?_ ?_;refine bu bp ?_ ?_;refine bu cR ?_ ?_;exact(aa 0);exact aq;exact aq;exact aq;exact ik;walk_at "sb";refine ao ?_ ?_;refine bA (i:=5) ?_ ?_ ?_ ?_ ?_ ?_;exact gS.nd;exact rfl;exact Or.inl rfl;refine bu bp ?_ ?_;refine bu bp ?_ ?_;refine bu cR ?_ ?_;exact(aa 0);exact aq;exact aq;exact(aa 3);exact ik;walk_at "sb";refine ao ?_ ?_;refine bA (i:=6) ?_ ?_ ?_ ?_ ?_ ?_;exact gS.nd;exact rfl;exact Or.inl rfl;refine bu bp ?_ ?_;refine bu bp ?_ ?_;refine bu cR ?_ ?_;exact(aa 0);exact aq;exact aq;exact(aa 2);exact ik;walk_at "sb";refine ao ?_ ?_;refine cG ?_ ?_ ?_;exact(bS (rN hu) (aa 4) aq (bh _));refine az ?_;refine y_ret ?_;refine bC ?_;refine ae ?_ ?_ ?_;exact bq;refine ae ?_ ?_ ?_;exact(aa 5);refine ae ?_ ?_ ?_;exact(x_call Fx61 (hr.mono (by decide)) aY (ae (aa 0) (ae (aa 1) ar aj) aj));exact ar;exact dQ;exact aj;exact ai;exact bx;refine ao ?_ ?_;refine cG ?_ ?_ ?_;exact(bS (rN hu) (aa 4) aq (bh _));refine az ?_;refine y_ret ?_;refine bC ?_;refine ae ?_ ?_ ?_;exact bq;refine ae ?_ ?_ ?_;exact(aa 5);exact ar;exact aj;exact ai;exact bx;refine ao ?_ ?_;refine cG ?_ ?_ ?_;exact(bS (rN hu) (aa 4) aq (bh _));refine az ?_;refine y_ret ?_;refine bC ?_;refine ae ?_ ?_ ?_;exact bq;refine ae ?_ ?_ ?_;exact(aa 5);refine ae ?_ ?_ ?_;exact(aa 6);exact ar;exact aj;exact aj;exact ai;exact bx;refine ao ?_ ?_;refine cG ?_ ?_ ?_;exact(bS (rN hu) (aa 4) aq (bh _));refine ao ?_ ?_;refine bA (i:=7) ?_ ?_ ?_ ?_ ?_ ?_;exact gS.nd;exact rfl;exact Or.inl rfl;refine bu bp ?_ ?_;refine bu bp ?_ ?_;refine bu cR ?_ ?_;exact(aa 0);exact aq;exact aq;exact aq;exact ik;walk_at "sb";refine ao ?_ ?_;refine cG ?_ ?_ ?_;exact(bS (iw hu) (by refine bu bp ?_ ?_;refine bu bp ?_ ?_;refine bu cR ?_ ?_;exact(aa 0);exact aq;exact aq;exact aq) aq (bh _));refine az ?_;refine bA (i:=7) ?_ ?_ ?_ ?_ ?_ ?_;exact gS.nd;exact rfl;exact Or.inl rfl;refine bu bp ?_ ?_;exact(aa 0);exact(xF Z.yp (ae (by refine bu cE ?_ ?_;exact bq;refine bu cR ?_ ?_;exact bq;exact aq) ar fx));exact ik;walk_at "sb";exact bx;refine az ?_;refine y_ret ?_;refine bC ?_;refine ae ?_ ?_ ?_;exact bq;refine ae ?_ ?_ ?_;exact(aa 7);refine ae ?_ ?_ ?_;exact(v7 (sS hu) (by refine bu bp ?_ ?_;refine bu bp ?_ ?_;refine bu cR ?_ ?_;exact(aa 0);exact aq;exact aq;exact aq) aq (bh _));exact ar;exact vY;exact aj;exact ai;exact bx;refine ao ?_ ?_;refine cG ?_ ?_ ?_;exact(bS (iw hu) (aa 4) aq (bh _));refine az ?_;refine y_ret ?_;refine bC ?_;refine ae ?_ ?_ ?_;exact bq;refine ae ?_ ?_ ?_;exact(aa 5);exact ar;exact aj;exact ai;exact bx;refine ao ?_ ?_;refine cG ?_ ?_ ?_;exact(bS (iw hu) (aa 4) aq (bh _));refine az ?_;refine y_ret ?_;refine bw hu ?_ ?_;refine dN ?_;refine ae ?_ ?_ ?_;refine bC ?_;refine ae ?_ ?_ ?_;exact bq;refine ae ?_ ?_ ?_;exact(aa 5);exact ar;exact aj;exact ai;refine ae ?_ ?_ ?_;refine bC ?_;refine ae ?_ ?_ ?_;exact bq;exact ar;exact ai;exact ar;exact bz;exact bz;refine bu bp ?_ ?_;refine bu bp ?_ ?_;refine bu cR ?_ ?_;exact(aa 0);exact aq;exact aq;exact aq;exact bx;refine az ?_;refine y_ret ?_;refine bw hu ?_ ?_;refine dN ?_;refine ae ?_ ?_ ?_;refine bC ?_;refine ae ?_ ?_ ?_;exact bq;refine ae ?_ ?_ ?_;exact(aa 6);exact ar;exact aj;exact ai;refine ae ?_ ?_ ?_;refine bC ?_;refine ae ?_ ?_ ?_;exact bq;refine ae ?_ ?_ ?_;exact(aa 6);exact ar;exact aj;exact ai;exact ar;exact bz;exact bz;refine bu oq ?_ ?_;exact(aa 4);exact aq)
theorem xH{fa:Addr}{fd:FuncData}(F:Fun K "_law_opening" "_law_opening" iR fa fd)(Z:Txt K mg cl):bo P w K mg base CX0 1 fa fd ["_law_cell","_law_count","_law_many"] (sp3 (TT cl) K 3 mv):=by
 exact bQ (k:=0) F kh rfl rfl fun cdv A outer s H E hr=>have hu:=hr.units
  (by refine ao ?_ ?_;refine bA (i:=3) ?_ ?_ ?_ ?_ ?_ ?_;exact kh.nd;exact rfl;exact Or.inl rfl;refine bu bp ?_ ?_;refine bu bp ?_ ?_;refine bu cR ?_ ?_;exact(aa 0);exact aq;exact aq;exact aq;exact ik;walk_at "sb";refine ao ?_ ?_;refine cG ?_ ?_ ?_;exact(bS (iw hu) (aa 3) aq (bh _));refine ao ?_ ?_;refine bA (i:=4) ?_ ?_ ?_ ?_ ?_ ?_;exact kh.nd;exact rfl;exact Or.inl rfl;refine dN ?_;refine ae ?_ ?_ ?_;refine bC ?_;refine ae ?_ ?_ ?_;exact bq;refine ae ?_ ?_ ?_;exact aq;refine ae ?_ ?_ ?_;exact aq;exact ar;exact ai;exact ai;exact ai;refine ae ?_ ?_ ?_;refine bC ?_;refine ae ?_ ?_ ?_;exact bq;refine ae ?_ ?_ ?_;exact aq;refine ae ?_ ?_ ?_;exact fj;exact ar;exact ai;exact ai;exact ai;refine ae ?_ ?_ ?_;refine bC ?_;refine ae ?_ ?_ ?_;exact bq;refine ae ?_ ?_ ?_;exact aq;refine ae ?_ ?_ ?_;exact fj;exact ar;exact ai;exact ai;exact ai;exact ar;exact bz;exact bz;exact bz;exact nH;walk_at "sb";refine az ?_;refine y_ret ?_;refine bu cE ?_ ?_;exact(aa 4);refine dN ?_;refine ae ?_ ?_ ?_;refine bC ?_;refine ae ?_ ?_ ?_;exact bq;refine ae ?_ ?_ ?_;exact(aa 1);refine ae ?_ ?_ ?_;exact fj;exact ar;exact ai;exact aj;exact ai;refine ae ?_ ?_ ?_;refine bC ?_;refine ae ?_ ?_ ?_;exact bq;refine ae ?_ ?_ ?_;exact(aa 1);refine ae ?_ ?_ ?_;exact fj;exact ar;exact ai;exact aj;exact ai;exact ar;exact bz;exact bz;exact bx;refine ao ?_ ?_;refine cG ?_ ?_ ?_;exact(PW.pt (w_and (bS (sS hu) (aa 3) aq (bh _)) (w_and (bS (iw hu) (aa 1) aq (bh _)) (w5 (bS (sS hu) (aa 2) aq (bh _))))));refine ao ?_ ?_;refine bA (i:=4) ?_ ?_ ?_ ?_ ?_ ?_;exact kh.nd;exact rfl;exact Or.inl rfl;refine dN ?_;refine ae ?_ ?_ ?_;refine bC ?_;refine ae ?_ ?_ ?_;exact bq;refine ae ?_ ?_ ?_;exact aq;exact ar;exact ai;exact ai;refine ae ?_ ?_ ?_;refine bC ?_;refine ae ?_ ?_ ?_;exact bq;refine ae ?_ ?_ ?_;exact aq;refine ae ?_ ?_ ?_;exact fj;exact ar;exact ai;exact ai;exact ai;refine ae ?_ ?_ ?_;refine bC ?_;refine ae ?_ ?_ ?_;exact bq;refine ae ?_ ?_ ?_;exact aq;refine ae ?_ ?_ ?_;exact aq;exact ar;exact ai;exact ai;exact ai;exact ar;exact bz;exact bz;exact bz;exact nH;walk_at "sb";refine ao ?_ ?_;refine cj ?_ ?_;refine tZ ?_ ?_ lJ;exact(aa 4);refine dN ?_;refine ae ?_ ?_ ?_;refine bC ?_;refine ae ?_ ?_ ?_;exact bq;refine ae ?_ ?_ ?_;exact aq;refine ae ?_ ?_ ?_;exact aq;exact ar;exact ai;exact ai;exact ai;refine ae ?_ ?_ ?_;refine bC ?_;refine ae ?_ ?_ ?_;exact bq;refine ae ?_ ?_ ?_;exact aq;refine ae ?_ ?_ ?_;exact aq;exact ar;exact ai;exact ai;exact ai;refine ae ?_ ?_ ?_;refine bC ?_;refine ae ?_ ?_ ?_;exact bq;refine ae ?_ ?_ ?_;exact aq;refine ae ?_ ?_ ?_;exact aq;exact ar;exact ai;exact ai;exact ai;exact ar;exact bz;exact bz;exact bz;exact aN;refine ao ?_ ?_;refine cj ?_ ?_;refine tZ ?_ ?_ lJ;exact(aa 4);refine dN ?_;refine ae ?_ ?_ ?_;refine bC ?_;refine ae ?_ ?_ ?_;exact bq;refine ae ?_ ?_ ?_;exact aq;refine ae ?_ ?_ ?_;exact fj;exact ar;exact ai;exact ai;exact ai;refine ae ?_ ?_ ?_;refine bC ?_;refine ae ?_ ?_ ?_;exact bq;refine ae ?_ ?_ ?_;exact aq;refine ae ?_ ?_ ?_;exact fj;exact ar;exact ai;exact ai;exact ai;exact ar;exact bz;exact bz;exact aN;refine az ?_;refine y_ret ?_;refine bu cE ?_ ?_;exact(aa 4);refine dN ?_;refine ae ?_ ?_ ?_;refine bC ?_;refine ae ?_ ?_ ?_;exact bq;refine ae ?_ ?_ ?_;exact aq;refine ae ?_ ?_ ?_;exact fj;exact ar;exact ai;exact ai;exact ai;refine ae ?_ ?_ ?_;refine bC ?_;refine ae ?_ ?_ ?_;exact bq;refine ae ?_ ?_ ?_;exact aq;refine ae ?_ ?_ ?_;exact aq;exact ar;exact ai;exact ai;exact ai;exact ar;exact bz;exact bz;exact bx;refine az ?_;refine y_ret ?_;refine dN ?_;exact ar)
theorem Ai{fa:Addr}{fd:FuncData}(F:Fun K "_law_drawn" "_law_drawn" mn fa fd)(Z:Txt K mg cl)(Fx62:Fn3 P w K mg base CX0 (TT cl) 2 "_law_deed_of" 4 jX)(Fx63:Fn3 P w K mg base CX0 (TT cl) 1 "_law_opening" 3 mv):bo P w K mg base CX0 3 fa fd ["_law_cells","_law_count","_law_many"] (sp3 (TT cl) K 3 qh):=by
 exact bQ (k:=2) F oK rfl rfl fun cdv A outer s H E hr=>have hu:=hr.units
  (by refine ao ?_ ?_;refine bA (i:=3) ?_ ?_ ?_ ?_ ?_ ?_;exact oK.nd;exact rfl;exact Or.inl rfl;refine dN ?_;exact ar;exact nH;walk_at "sb";refine ao ?_ ?_;refine cG ?_ ?_ ?_;exact(bS (kE hu) (aa 0) (by refine dN ?_;exact ar) (bh _));refine az ?_;refine bA (i:=3) ?_ ?_ ?_ ?_ ?_ ?_;exact oK.nd;exact rfl;exact Or.inl rfl;exact(x_call Fx63 (hr.mono (by decide)) aY (ae (by refine bw hu ?_ ?_;exact(aa 0);exact aq) (ae (aa 1) (ae (aa 2) ar aj) aj) aX));exact aN;walk_at "sb";exact bx;refine ao ?_ ?_;exact(jP PassesOwn.never rfl (ij Z.fV (dP Z.fP (ae (aa 0) ar aj))) (pX (i:=4) oK.nd rfl (Or.inl rfl)) (by refine az ?_;refine cj ?_ ?_;exact(ie (aa 3) (x_call Fx62 (hr.mono (by decide)) aY (ae (by refine bu cE ?_ ?_;refine bw hu ?_ ?_;exact(aa 0);exact(aa 4);refine bu cR ?_ ?_;exact aq;exact(aa 4)) (ae (aa 4) (ae (aa 1) (ae (aa 2) ar aj) aj) aj) fx)));exact aN));refine az ?_;refine y_ret ?_;exact(aa 3))
theorem wd{fa:Addr}{fd:FuncData}(F:Fun K "_law_is_stamp" "_law_is_stamp" gV fa fd)(Z:Txt K mg cl)(Fx2:Fn3 P w K mg base CX0 (TT cl) 1 "_law_whole" 1 fT):bo P w K mg base CX0 2 fa fd ["_law_found"] (sp3 (TT cl) K 1 gM):=by
 exact bQ (k:=1) F wC rfl rfl fun cdv A outer s H E hr=>have hu:=hr.units
  (by refine ao ?_ ?_;refine cG ?_ ?_ ?_;exact(PW.pt (w_or (gG (jg (vB .tup Z.dU Z.qg (aa 0)))) (li (bS (kE hu) (dP Z.fP (ae (aa 0) ar aj)) aq (bh _)))));refine az ?_;refine y_ret ?_;exact fj;exact bx;refine az ?_;refine y_ret ?_;exact(yO (x_call Fx2 (hr.mono (by decide)) aY (ae (by refine bw hu ?_ ?_;exact(aa 0);exact aq) ar aX)) (wD (x_call Fx2 (hr.mono (by decide)) aY (ae (by refine bw hu ?_ ?_;exact(aa 0);exact aq) ar aX)))))
theorem xJ{fa:Addr}{fd:FuncData}(F:Fun K "_law_is_pair" "_law_is_pair" iQ fa fd)(Z:Txt K mg cl)(Fx2:Fn3 P w K mg base CX0 (TT cl) 1 "_law_whole" 1 fT)(Fx13:Fn3 P w K mg base CX0 (TT cl) 2 "_law_is_stamp" 1 gM):bo P w K mg base CX0 3 fa fd ["_law_found"] (sp3 (TT cl) K 1 mj):=by
 exact bQ (k:=2) F xn rfl rfl fun cdv A outer s H E hr=>have hu:=hr.units
  (by refine ao ?_ ?_;refine cG ?_ ?_ ?_;exact(PW.pt (w_or (gG (jg (vB .tup Z.dU Z.qg (aa 0)))) (li (bS (kE hu) (dP Z.fP (ae (aa 0) ar aj)) aq (bh _)))));refine az ?_;refine y_ret ?_;exact fj;exact bx;refine az ?_;refine y_ret ?_;exact(yO (x_call Fx13 (hr.mono (by decide)) aY (ae (by refine bw hu ?_ ?_;exact(aa 0);exact aq) ar aX)) (wD (x_call Fx2 (hr.mono (by decide)) aY (ae (by refine bw hu ?_ ?_;exact(aa 0);exact aq) ar aX)))))
theorem xo{fa:Addr}{fd:FuncData}(F:Fun K "_law_is_work" "_law_is_work" iT fa fd)(Z:Txt K mg cl)(Fx2:Fn3 P w K mg base CX0 (TT cl) 1 "_law_whole" 1 fT):bo P w K mg base CX0 2 fa fd ["_law_found"] (sp3 (TT cl) K 1 lU):=by
 exact bQ (k:=1) F g6 rfl rfl fun cdv A outer s H E hr=>have hu:=hr.units
  (by refine ao ?_ ?_;refine cG ?_ ?_ ?_;exact(PW.pt (w_or (gG (jg (vB .tup Z.dU Z.qg (aa 0)))) (li (bS (kE hu) (dP Z.fP (ae (aa 0) ar aj)) aq (bh _)))));refine az ?_;refine y_ret ?_;exact fj;exact bx;refine ao ?_ ?_;exact(Ig (aa 0) (FY rfl (kf (i:=1) g6.nd rfl (Or.inl rfl) (kf (i:=2) g6.nd rfl (Or.inl rfl) (kf (i:=3) g6.nd rfl (Or.inl rfl) (kf (i:=4) g6.nd rfl (Or.inl rfl) (kf (i:=5) g6.nd rfl (Or.inl rfl) Bf)))))));refine ao ?_ ?_;refine cG ?_ ?_ ?_;exact(PW.pt (w_or (gG (jg (x_call Fx2 (hr.mono (by decide)) aY (ae (aa 1) ar aj)))) (w_or (gG (jg (x_call Fx2 (hr.mono (by decide)) aY (ae (aa 4) ar aj)))) (li (gG (jg (vB .str Z.dU Z.HJ (aa 2))))))));refine az ?_;refine y_ret ?_;exact fj;exact bx;refine ao ?_ ?_;refine cG ?_ ?_ ?_;exact(PW.pt (w_and (o6 (aa 3)) (w5 (gG (jg (x_call Fx2 (hr.mono (by decide)) aY (ae (aa 3) ar aj)))))));refine az ?_;refine y_ret ?_;exact fj;exact bx;refine az ?_;refine y_ret ?_;exact(IH (HI (aa 5)) (wD (x_call Fx2 (hr.mono (by decide)) aY (ae (aa 5) ar aj)))))
theorem uk{fa:Addr}{fd:FuncData}(F:Fun K "_law_all_kinds" "_law_all_kinds" gj fa fd)(Z:Txt K mg cl)(Fx13:Fn3 P w K mg base CX0 (TT cl) 2 "_law_is_stamp" 1 gM)(Fx64:Fn3 P w K mg base CX0 (TT cl) 3 "_law_is_pair" 1 mj)(Fx65:Fn3 P w K mg base CX0 (TT cl) 2 "_law_is_work" 1 lU):bo P w K mg base CX0 4 fa fd ["_law_found","_law_count"] (sp3 (TT cl) K 2 jA):=by
 exact bQ (k:=3) F gw rfl rfl fun cdv A outer s H E hr=>have hu:=hr.units
  (by refine ao ?_ ?_;refine cG ?_ ?_ ?_;exact(PW.pt (w_or (gG (jg (vB .tup Z.dU Z.qg (aa 0)))) (li (bS (kE hu) (dP Z.fP (ae (aa 0) ar aj)) aq (bh _)))));refine az ?_;refine y_ret ?_;exact fj;exact bx;refine ao ?_ ?_;exact(jP PassesOwn.never rfl (nT (aa 0)) (pX (i:=2) gw.nd rfl (Or.inl rfl)) (by refine az ?_;refine cG ?_ ?_ ?_;exact(gG (jg (vB .lst Z.dU Z.xZ (aa 2))));refine az ?_;refine y_ret ?_;exact fj;exact bx));refine ao ?_ ?_;exact(jP PassesOwn.never rfl (nT (by refine bw hu ?_ ?_;exact(aa 0);exact aq)) (pX (i:=3) gw.nd rfl (Or.inl rfl)) (by refine az ?_;refine cG ?_ ?_ ?_;exact(gG (jg (x_call Fx65 (hr.mono (by decide)) aY (ae (aa 3) ar aj))));refine az ?_;refine y_ret ?_;exact fj;exact bx));refine ao ?_ ?_;exact(jP PassesOwn.never rfl (nT (by refine bw hu ?_ ?_;exact(aa 0);exact aq)) (pX (i:=4) gw.nd rfl (Or.inl rfl)) (by refine az ?_;refine cG ?_ ?_ ?_;exact(PW.pt (w_and (o6 (aa 4)) (w5 (gG (jg (x_call Fx13 (hr.mono (by decide)) aY (ae (aa 4) ar aj)))))));refine az ?_;refine y_ret ?_;exact fj;exact bx));refine ao ?_ ?_;exact(jP PassesOwn.never rfl (nT (by refine bw hu ?_ ?_;exact(aa 0);exact aq)) (pX (i:=5) gw.nd rfl (Or.inl rfl)) (by refine az ?_;refine cG ?_ ?_ ?_;exact(gG (jg (x_call Fx64 (hr.mono (by decide)) aY (ae (aa 5) ar aj))));refine az ?_;refine y_ret ?_;exact fj;exact bx));refine az ?_;refine y_ret ?_;exact(yO (v7 (iw hu) (dP Z.fP (ae (by refine bw hu ?_ ?_;exact(aa 0);exact aq) ar aX)) (dP Z.fP (ae (by refine bw hu ?_ ?_;exact(aa 0);exact aq) ar aX)) (bh _)) (wD (v7 (iw hu) (dP Z.fP (ae (by refine bw hu ?_ ?_;exact(aa 0);exact aq) ar aX)) (aa 1) (bh _)))))
theorem vP{fa:Addr}{fd:FuncData}(F:Fun K "_law_all_told" "_law_all_told" gN fa fd)(Z:Txt K mg cl)(Fx66:Fn3 P w K mg base CX0 (TT cl) 10 "all_after" 3 jC)(Fx67:Fn3 P w K mg base CX0 (TT cl) 4 "_law_all_kinds" 2 jA):bo P w K mg base CX0 11 fa fd ["_law_count","_law_many","_law_deeds"] (sp3 (TT cl) K 3 i0):=by
 exact bQ (k:=10) F kP rfl rfl fun cdv A outer s H E hr=>have hu:=hr.units
  (by refine ao ?_ ?_;refine bA (i:=3) ?_ ?_ ?_ ?_ ?_ ?_;exact kP.nd;exact rfl;exact Or.inl rfl;exact(Dz Z.xZ (ae (aa 2) ar aj));exact aN;walk_at "sb";refine ao ?_ ?_;refine bA (i:=4) ?_ ?_ ?_ ?_ ?_ ?_;exact kP.nd;exact rfl;exact Or.inl rfl;exact(x_call Fx66 (hr.mono (by decide)) aY (ae (aa 0) (ae (aa 1) (ae (aa 3) ar aj) aj) aj));exact aN;walk_at "sb";refine ao ?_ ?_;refine cG ?_ ?_ ?_;exact(PW.pt (w_or (bS (kE hu) (aa 3) (aa 2) (bh _)) (li (gG (jg (x_call Fx67 (hr.mono (by decide)) aY (ae (aa 4) (ae (aa 0) ar aj) aj)))))));refine az ?_;refine y_ret ?_;exact jl;exact bx;refine az ?_;refine y_ret ?_;exact(aa 4))
theorem zy{fa:Addr}{fd:FuncData}(F:Fun K "_law_few_up" "_law_few_up" jW fa fd)(Z:Txt K mg cl):bo P w K mg base CX0 1 fa fd ["_law_cell","_law_count","_law_many"] (sp3 (TT cl) K 3 ox):=by
 exact bQ (k:=0) F gd rfl rfl fun cdv A outer s H E hr=>have hu:=hr.units
  (by refine ao ?_ ?_;refine bA (i:=3) ?_ ?_ ?_ ?_ ?_ ?_;exact gd.nd;exact rfl;exact Or.inr rfl;refine bu bp ?_ ?_;refine bu bp ?_ ?_;refine bu cR ?_ ?_;exact(aa 0);exact aq;exact aq;exact(aa 1);exact ik;walk_at "sb";refine ao ?_ ?_;refine bA (i:=4) ?_ ?_ ?_ ?_ ?_ ?_;exact gd.nd;exact rfl;exact Or.inl rfl;refine bu bp ?_ ?_;refine bu bp ?_ ?_;refine bu cR ?_ ?_;exact(aa 0);exact aq;exact aq;refine bu cE ?_ ?_;refine bu DD ?_ ?_;exact(aa 1);exact aq;exact aq;exact ik;walk_at "sb";refine ao ?_ ?_;exact(gP (i:=5) (Blk.of (caps:=[("_law_count",1),("_law_first",3)]) (cl:=[("_law_first",s.heap.objs.size+2),("_law_count",s.heap.objs.size+1)]) rfl rfl rfl rfl rfl (by decide) rfl rfl rfl rfl rfl) rfl gd.nd rfl rfl (ij Z.fV (aa 4)) (fun _ _ _ _ _=>fU) (fun _ _ _ _ _=>(by refine bu bp ?_ ?_;refine bu cE ?_ ?_;exact(aa 2);exact(aa 0);exact(aa 1))));refine ao ?_ ?_;refine bA (i:=6) ?_ ?_ ?_ ?_ ?_ ?_;exact gd.nd;exact rfl;exact Or.inl rfl;refine dN ?_;exact ar;exact nH;walk_at "sb";refine ao ?_ ?_;exact(jP PassesOwn.never rfl (ij Z.fV (aa 1)) (pX (i:=7) gd.nd rfl (Or.inl rfl)) (by refine az ?_;refine cj ?_ ?_;exact(ie (aa 6) (by refine bw hu ?_ ?_;refine dN ?_;refine ae ?_ ?_ ?_;refine bC ?_;refine ae ?_ ?_ ?_;exact bq;refine ae ?_ ?_ ?_;exact(aa 7);exact ar;exact aj;exact ai;refine ae ?_ ?_ ?_;refine bC ?_;refine ae ?_ ?_ ?_;exact bq;refine ae ?_ ?_ ?_;exact(aa 7);exact ar;exact aj;exact ai;exact ar;exact bz;exact bz;exact(xF Z.yp (ae (v7 (DO hu) (aa 7) (aa 5) rfl) ar vY))));exact aN));refine ao ?_ ?_;exact(jP PassesOwn.never rfl (ij Z.fV (aa 2)) (pX (i:=7) gd.nd rfl (Or.inl rfl)) (by refine ao ?_ ?_;refine cj ?_ ?_;exact(ie (aa 6) (by refine bC ?_;refine ae ?_ ?_ ?_;exact bq;refine ae ?_ ?_ ?_;exact(aa 7);exact ar;exact aj;exact ai));exact aN;refine ao ?_ ?_;refine cj ?_ ?_;exact(ie (aa 6) (by refine bw hu ?_ ?_;refine dN ?_;refine ae ?_ ?_ ?_;refine bC ?_;refine ae ?_ ?_ ?_;exact bq;refine ae ?_ ?_ ?_;exact(aa 7);exact ar;exact aj;exact ai;refine ae ?_ ?_ ?_;refine bC ?_;refine ae ?_ ?_ ?_;exact bq;refine ae ?_ ?_ ?_;exact(aa 7);refine ae ?_ ?_ ?_;exact aq;exact ar;exact ai;exact aj;exact ai;exact ar;exact bz;exact bz;refine bu bp ?_ ?_;refine bu bp ?_ ?_;refine bu cR ?_ ?_;refine bu cE ?_ ?_;exact(aa 0);exact(aa 7);exact aq;exact aq;exact aq));exact aN;refine az ?_;refine cj ?_ ?_;exact(ie (aa 6) (by refine bC ?_;refine ae ?_ ?_ ?_;exact bq;refine ae ?_ ?_ ?_;exact(aa 7);refine ae ?_ ?_ ?_;refine bu bp ?_ ?_;refine bu bp ?_ ?_;refine bu cR ?_ ?_;exact(aa 0);exact aq;exact aq;exact(aa 1);exact ar;exact fx;exact aj;exact ai));exact aN));refine ao ?_ ?_;exact(jP PassesOwn.never rfl (ij Z.fV (aa 2)) (pX (i:=7) gd.nd rfl (Or.inl rfl)) (by refine az ?_;refine cj ?_ ?_;exact(ie (aa 6) (by refine bC ?_;refine ae ?_ ?_ ?_;exact bq;refine ae ?_ ?_ ?_;exact(aa 7);exact ar;exact aj;exact ai));exact aN));refine az ?_;refine y_ret ?_;refine bu cE ?_ ?_;exact(aa 6);refine dN ?_;refine ae ?_ ?_ ?_;refine bC ?_;refine ae ?_ ?_ ?_;exact bq;exact ar;exact ai;exact ar;exact bz)
theorem Gh{fa:Addr}{fd:FuncData}(F:Fun K "law" "law" oR fa fd)(Z:Txt K mg cl)(Fx14:Fn3 P w K mg base CX0 (TT cl) 1 "_law_at" 2 xj)(Fx68:Fn3 P w K mg base CX0 (TT cl) 3 "_law_drawn" 3 qh)(Fx20:Fn3 P w K mg base CX0 (TT cl) 11 "_law_all_told" 3 i0)(Fx69:Fn3 P w K mg base CX0 (TT cl) 1 "_law_few_up" 3 ox):bo P w K mg base CX0 12 fa fd ["_law_script"] (sp3 (TT cl) K 1 qQ):=by
 exact bQ (k:=11) F gv rfl rfl fun cdv A outer s H E hr=>have hu:=hr.units
  (by refine ao ?_ ?_;refine bA (i:=1) ?_ ?_ ?_ ?_ ?_ ?_;exact gv.nd;exact rfl;exact Or.inl rfl;refine bw hu ?_ ?_;refine dN ?_;refine ae ?_ ?_ ?_;exact aq;refine ae ?_ ?_ ?_;exact aq;refine ae ?_ ?_ ?_;exact aq;refine ae ?_ ?_ ?_;exact aq;refine ae ?_ ?_ ?_;exact aq;refine ae ?_ ?_ ?_;exact aq;refine ae ?_ ?_ ?_;exact aq;refine ae ?_ ?_ ?_;exact aq;refine ae ?_ ?_ ?_;exact aq;refine ae ?_ ?_ ?_;exact aq;refine ae ?_ ?_ ?_;exact aq;refine ae ?_ ?_ ?_;exact aq;exact ar;exact ai;exact ai;exact ai;exact ai;exact ai;exact ai;exact ai;exact ai;exact ai;exact ai;exact ai;exact ai;refine bu bp ?_ ?_;refine bu bp ?_ ?_;refine bu cR ?_ ?_;exact(x_call Fx14 (hr.mono (by decide)) aY (ae (aa 0) (ae aq ar ai) aj));exact aq;exact aq;exact aq;exact jM;walk_at "sb";refine ao ?_ ?_;refine bA (i:=2) ?_ ?_ ?_ ?_ ?_ ?_;exact gv.nd;exact rfl;exact Or.inl rfl;refine bw hu ?_ ?_;refine dN ?_;refine ae ?_ ?_ ?_;exact aq;refine ae ?_ ?_ ?_;exact aq;refine ae ?_ ?_ ?_;exact aq;refine ae ?_ ?_ ?_;exact aq;refine ae ?_ ?_ ?_;exact aq;refine ae ?_ ?_ ?_;exact aq;refine ae ?_ ?_ ?_;exact aq;refine ae ?_ ?_ ?_;exact aq;exact ar;exact ai;exact ai;exact ai;exact ai;exact ai;exact ai;exact ai;exact ai;refine bu bp ?_ ?_;refine bu bp ?_ ?_;refine bu cR ?_ ?_;exact(x_call Fx14 (hr.mono (by decide)) aY (ae (aa 0) (ae aq ar ai) aj));exact aq;exact aq;exact aq;exact jM;walk_at "sb";refine ao ?_ ?_;refine bA (i:=3) ?_ ?_ ?_ ?_ ?_ ?_;exact gv.nd;exact rfl;exact Or.inr rfl;exact(x_call Fx68 (hr.mono (by decide)) aY (ae (lW (aa 0) (nK aq) (nK aq)) (ae (aa 1) (ae (aa 2) ar aj) aj) aX));exact aN;walk_at "sb";refine ao ?_ ?_;refine bA (i:=4) ?_ ?_ ?_ ?_ ?_ ?_;exact gv.nd;exact rfl;exact Or.inl rfl;refine bu cE ?_ ?_;exact(aa 3);exact(x_call Fx69 (hr.mono (by decide)) aY (ae (x_call Fx14 (hr.mono (by decide)) aY (ae (aa 0) (ae aq ar ai) aj)) (ae (aa 1) (ae (aa 2) ar aj) aj) dQ));exact ik;walk_at "sb";refine ao ?_ ?_;refine bA (i:=5) ?_ ?_ ?_ ?_ ?_ ?_;exact gv.nd;exact rfl;exact Or.inl rfl;exact(x_call Fx20 (hr.mono (by decide)) aY (ae (aa 1) (ae (aa 2) (ae (aa 4) ar aj) aj) aj));exact aN;walk_at "sb";refine ao ?_ ?_;refine cG ?_ ?_ ?_;exact(sR (aa 5));refine az ?_;refine y_ret ?_;exact fj;exact bx;refine ao ?_ ?_;refine bA (i:=6) ?_ ?_ ?_ ?_ ?_ ?_;exact gv.nd;exact rfl;exact Or.inr rfl;refine bw hu ?_ ?_;exact(aa 5);exact aq;exact jM;walk_at "sb";refine ao ?_ ?_;exact(gP (i:=7) (Blk.of (caps:=[("_law_deeds",3),("_law_works",6)]) (cl:=[("_law_works",s.heap.objs.size+2),("_law_deeds",s.heap.objs.size+1)]) rfl rfl rfl rfl rfl (by decide) rfl rfl rfl rfl rfl) rfl gv.nd rfl rfl (ij Z.fV (dP Z.fP (ae (aa 6) ar aj))) (fun _ _ _ _ _=>yP (bS (Bc hu) (by refine bw hu ?_ ?_;refine bw hu ?_ ?_;exact(aa 2);exact(aa 0);exact aq) (dP Z.fP (ae (aa 1) ar aj)) (bh _))) (fun _ _ _ _ _=>(aa 0)));refine ao ?_ ?_;refine cG ?_ ?_ ?_;exact(bS (kE hu) (dP Z.fP (ae (aa 7) ar aj)) (aa 2) (bh _));refine az ?_;refine y_ret ?_;exact fj;exact bx;refine ao ?_ ?_;exact(jP PassesOwn.never rfl (nT (aa 7)) (pX (i:=8) gv.nd rfl (Or.inl rfl)) (by refine az ?_;refine cG ?_ ?_ ?_;exact(o6 (by refine bw hu ?_ ?_;refine bw hu ?_ ?_;exact(aa 6);exact(aa 8);exact aq));refine az ?_;refine y_ret ?_;exact fj;exact bx));refine ao ?_ ?_;refine bA (i:=9) ?_ ?_ ?_ ?_ ?_ ?_;exact gv.nd;exact rfl;exact Or.inl rfl;refine bu cE ?_ ?_;exact(aa 4);exact(m8 (Blk.nil rfl rfl (by decide +kernel) rfl) rfl (ij Z.fV (aa 1)) (fun _ _ _ _ _=>fU) (fun _ _ _ _ _=>(by refine bC ?_;refine ae ?_ ?_ ?_;exact bq;refine ae ?_ ?_ ?_;exact(aa 0);exact ar;exact aj;exact ai)));exact ik;walk_at "sb";refine ao ?_ ?_;refine bA (i:=9) ?_ ?_ ?_ ?_ ?_ ?_;exact gv.nd;exact rfl;exact Or.inl rfl;refine bu cE ?_ ?_;refine bu cE ?_ ?_;exact(aa 9);exact(m8 (Blk.nil rfl rfl (by decide +kernel) rfl) rfl (ij Z.fV (aa 2)) (fun _ _ _ _ _=>fU) (fun _ _ _ _ _=>(by refine bC ?_;refine ae ?_ ?_ ?_;exact bq;refine ae ?_ ?_ ?_;exact(aa 0);exact ar;exact aj;exact ai)));refine dN ?_;refine ae ?_ ?_ ?_;refine bC ?_;refine ae ?_ ?_ ?_;exact bq;exact ar;exact ai;exact ar;exact bz;exact ik;walk_at "sb";refine ao ?_ ?_;refine bA (i:=5) ?_ ?_ ?_ ?_ ?_ ?_;exact gv.nd;exact rfl;exact Or.inl rfl;exact(x_call Fx20 (hr.mono (by decide)) aY (ae (aa 1) (ae (aa 2) (ae (aa 9) ar aj) aj) aj));exact aN;walk_at "sb";refine ao ?_ ?_;refine cG ?_ ?_ ?_;exact(PW.pt (w_or (sR (aa 5)) (li (bS (kE hu) (dP Z.fP (ae (by refine bw hu ?_ ?_;exact(aa 5);exact aq) ar aX)) (dP Z.fP (ae (aa 6) ar aj)) (bh _)))));refine az ?_;refine y_ret ?_;exact fj;exact bx;refine ao ?_ ?_;exact(jP PassesOwn.never rfl (ij Z.fV (dP Z.fP (ae (aa 6) ar aj))) (pX (i:=8) gv.nd rfl (Or.inl rfl)) (by refine ao ?_ ?_;refine bA (i:=10) ?_ ?_ ?_ ?_ ?_ ?_;exact gv.nd;exact rfl;exact Or.inl rfl;refine bw hu ?_ ?_;refine bw hu ?_ ?_;exact(aa 5);exact aq;exact(aa 8);exact jM;walk_at "sb";refine az ?_;refine cG ?_ ?_ ?_;exact(bS (DO hu) (aa 8) (aa 7) rfl);refine az ?_;refine cG ?_ ?_ ?_;exact(PW.pt (w_or (bS (kE hu) (by refine bw hu ?_ ?_;exact(aa 10);exact aq) (by refine bu oq ?_ ?_;exact(dP Z.fP (ae (aa 9) ar aj));exact aq) (bh _)) (li (bS (kE hu) (lW (aa 10) rg (nK aq)) (lW (by refine bw hu ?_ ?_;exact(aa 6);exact(aa 8)) rg (nK aq)) (bh _)))));refine az ?_;refine y_ret ?_;exact fj;exact bx;refine az ?_;refine cG ?_ ?_ ?_;exact(bS (kE hu) (aa 10) (by refine bw hu ?_ ?_;exact(aa 6);exact(aa 8)) (bh _));refine az ?_;refine y_ret ?_;exact fj;exact bx));refine az ?_;refine y_ret ?_;exact fj)
end
theorem all_mk{l:PySem.W.OpenLaw}{w:World}{K:PySem.W.Frag}{h:Heap}{mg:Str->Option Value}{fa C0 C1 C2 C3 C4 X0 X1 X2 X3 X4 X5 f0 f1 f2 f3 f4 f5 f6 f7 f8 f9 f10 f11 f12 f13 f14 f15 f16 f17 f18 f19 f20 f21 f22 f23 f24 f25 f26 f27 f28 f29 f30 f31 f32 f33 f34 f35 f36 f37 f38 f39 f40 f41 f42 f43 f44 f45 f46 f47 f48 f49 f50 f51 f52 f53 f54 f55 f56 f57 f58 f59 x_BEGINNING_1 x_BEGINNING:Addr}{od0 an0 od1 an1 od2 an2 od3 an3 od4 an4 od5 an5 od6 an6 od7 an7 od8 an8 od9 an9 od10 an10 od11 an11 od12 an12 od13 an13 od14 an14 od15 an15 od16 an16 od17 an17 od18 an18 od19 an19 od20 an20 od21 an21 od22 an22 od23 an23 od24 an24 od25 an25 od26 an26 od27 an27 od28 an28 od29 an29 od30 an30 od31 an31 od32 an32 od33 an33 od34 an34 od35 an35 od36 an36 od37 an37 od38 an38 od39 an39 od40 an40 od41 an41 od42 an42 od43 an43 od44 an44 od45 an45 od46 an46 od47 an47 od48 an48 od49 an49 od50 an50 od51 an51 od52 an52 od53 an53 od54 an54 od55 an55 od56 an56 od57 an57 od58 an58 od59 an59 od_BEGINNING_1 od_BEGINNING:Option Addr}{sl0 sl1 sl2 sl3 sl4 sl5 sl6 sl7 sl8 sl9 sl10 sl11 sl12 sl13 sl14 sl15 sl16 sl17 sl18 sl19 sl20 sl21 sl22 sl23 sl24 sl25 sl26 sl27 sl28 sl29 sl30 sl31 sl32 sl33 sl34 sl35 sl36 sl37 sl38 sl39 sl40 sl41 sl42 sl43 sl44 sl45 sl46 sl47 sl48 sl49 sl50 sl51 sl52 sl53 sl54 sl55 sl56 sl57 sl58 sl59 sl_BEGINNING_1 sl_BEGINNING:Array (Option Value)}{oc0 kV0 dc0 pm0 cd0 ct0 oc1 kV1 dc1 pm1 cd1 ct1 oc2 kV2 dc2 pm2 cd2 ct2 oc3 kV3 dc3 pm3 cd3 ct3 oc4 kV4 dc4 pm4 cd4 ct4 oc5 kV5 dc5 pm5 cd5 ct5 oc6 kV6 dc6 pm6 cd6 ct6 oc7 kV7 dc7 pm7 cd7 ct7 oc8 kV8 dc8 pm8 cd8 ct8 oc9 kV9 dc9 pm9 cd9 ct9 oc10 kV10 dc10 pm10 cd10 ct10 oc11 kV11 dc11 pm11 cd11 ct11 oc12 kV12 dc12 pm12 cd12 ct12 oc13 kV13 dc13 pm13 cd13 ct13 oc14 kV14 dc14 pm14 cd14 ct14 oc15 kV15 dc15 pm15 cd15 ct15 oc16 kV16 dc16 pm16 cd16 ct16 oc17 kV17 dc17 pm17 cd17 ct17 oc18 kV18 dc18 pm18 cd18 ct18 oc19 kV19 dc19 pm19 cd19 ct19 oc20 kV20 dc20 pm20 cd20 ct20 oc21 kV21 dc21 pm21 cd21 ct21 oc22 kV22 dc22 pm22 cd22 ct22 oc23 kV23 dc23 pm23 cd23 ct23 oc24 kV24 dc24 pm24 cd24 ct24 oc25 kV25 dc25 pm25 cd25 ct25 oc26 kV26 dc26 pm26 cd26 ct26 oc27 kV27 dc27 pm27 cd27 ct27 oc28 kV28 dc28 pm28 cd28 ct28 oc29 kV29 dc29 pm29 cd29 ct29 oc30 kV30 dc30 pm30 cd30 ct30 oc31 kV31 dc31 pm31 cd31 ct31 oc32 kV32 dc32 pm32 cd32 ct32 oc33 kV33 dc33 pm33 cd33 ct33 oc34 kV34 dc34 pm34 cd34 ct34 oc35 kV35 dc35 pm35 cd35 ct35 oc36 kV36 dc36 pm36 cd36 ct36 oc37 kV37 dc37 pm37 cd37 ct37 oc38 kV38 dc38 pm38 cd38 ct38 oc39 kV39 dc39 pm39 cd39 ct39 oc40 kV40 dc40 pm40 cd40 ct40 oc41 kV41 dc41 pm41 cd41 ct41 oc42 kV42 dc42 pm42 cd42 ct42 oc43 kV43 dc43 pm43 cd43 ct43 oc44 kV44 dc44 pm44 cd44 ct44 oc45 kV45 dc45 pm45 cd45 ct45 oc46 kV46 dc46 pm46 cd46 ct46 oc47 kV47 dc47 pm47 cd47 ct47 oc48 kV48 dc48 pm48 cd48 ct48 oc49 kV49 dc49 pm49 cd49 ct49 oc50 kV50 dc50 pm50 cd50 ct50 oc51 kV51 dc51 pm51 cd51 ct51 oc52 kV52 dc52 pm52 cd52 ct52 oc53 kV53 dc53 pm53 cd53 ct53 oc54 kV54 dc54 pm54 cd54 ct54 oc55 kV55 dc55 pm55 cd55 ct55 oc56 kV56 dc56 pm56 cd56 ct56 oc57 kV57 dc57 pm57 cd57 ct57 oc58 kV58 dc58 pm58 cd58 ct58 oc59 kV59 dc59 pm59 cd59 ct59:Value}{t_BEGINNING_2 t_BEGINNING_3 t_BEGINNING_4:Tok}{n_BEGINNING_1 n_BEGINNING:Nat}(X:K.In h)(G:h.Ns mainGlobals mg)(hfa:mg "law"=some (.ref fa))
 (g_BEGINNING:PySem.W.nsIn K mainGlobals "BEGINNING"=some (some (.ref x_BEGINNING)))
 (aC0:PySem.W.nsIn K mainGlobals "Hand"=some (some (.ref C0))) (pg0:PySem.W.plainGet K C0 Str.empty=true) (hd0:PySem.W.hasDictIn K C0=true) (po0:PySem.W.plainOver K C0=true) (sa0:PySem.W.findIn K (.ref C0) "__setattr__"=some (some (.builtin "object.__setattr__"))) (mk0:PySem.W.makesIn K C0=true) (kc0:PySem.W.keepIn K (.ref C0)=true)
 (na0:(nmL.all fun x=>PySem.W.findIn K (.ref C0) x==some none)=true)
 (aC1:PySem.W.nsIn K mainGlobals "Keeper"=some (some (.ref C1))) (pg1:PySem.W.plainGet K C1 Str.empty=true) (hd1:PySem.W.hasDictIn K C1=true) (po1:PySem.W.plainOver K C1=true) (sa1:PySem.W.findIn K (.ref C1) "__setattr__"=some (some (.builtin "object.__setattr__"))) (mk1:PySem.W.makesIn K C1=true) (kc1:PySem.W.keepIn K (.ref C1)=true)
 (na1:(nmL.all fun x=>PySem.W.findIn K (.ref C1) x==some none)=true)
 (aC2:PySem.W.nsIn K mainGlobals "Hall"=some (some (.ref C2))) (pg2:PySem.W.plainGet K C2 Str.empty=true) (hd2:PySem.W.hasDictIn K C2=true) (po2:PySem.W.plainOver K C2=true) (sa2:PySem.W.findIn K (.ref C2) "__setattr__"=some (some (.builtin "object.__setattr__"))) (mk2:PySem.W.makesIn K C2=true) (kc2:PySem.W.keepIn K (.ref C2)=true)
 (na2:(nmL.all fun x=>PySem.W.findIn K (.ref C2) x==some none)=true)
 (aC3:PySem.W.nsIn K mainGlobals "Work"=some (some (.ref C3))) (pg3:PySem.W.plainGet K C3 Str.empty=true) (hd3:PySem.W.hasDictIn K C3=true) (po3:PySem.W.plainOver K C3=true) (sa3:PySem.W.findIn K (.ref C3) "__setattr__"=some (some (.builtin "object.__setattr__"))) (mk3:PySem.W.makesIn K C3=true) (kc3:PySem.W.keepIn K (.ref C3)=true)
 (na3:(nmL.all fun x=>PySem.W.findIn K (.ref C3) x==some none)=true)
 (aC4:PySem.W.nsIn K mainGlobals "Story"=some (some (.ref C4))) (pg4:PySem.W.plainGet K C4 Str.empty=true) (hd4:PySem.W.hasDictIn K C4=true) (po4:PySem.W.plainOver K C4=true) (sa4:PySem.W.findIn K (.ref C4) "__setattr__"=some (some (.builtin "object.__setattr__"))) (mk4:PySem.W.makesIn K C4=true) (kc4:PySem.W.keepIn K (.ref C4)=true)
 (na4:(nmL.all fun x=>PySem.W.findIn K (.ref C4) x==some none)=true)
 (aX0:PySem.W.nsIn K mainGlobals "HalfError"=some (some (.ref X0))) (ei0:PySem.W.excIn K X0 veM "ValueError.__new__"=true)
 (aX1:PySem.W.nsIn K mainGlobals "NoHand"=some (some (.ref X1))) (ei1:PySem.W.excIn K X1 veM "ValueError.__new__"=true)
 (aX2:PySem.W.nsIn K mainGlobals "NoKeeper"=some (some (.ref X2))) (ei2:PySem.W.excIn K X2 veM "ValueError.__new__"=true)
 (aX3:PySem.W.nsIn K mainGlobals "NoLetter"=some (some (.ref X3))) (ei3:PySem.W.excIn K X3 veM "ValueError.__new__"=true)
 (aX4:PySem.W.nsIn K mainGlobals "Busy"=some (some (.ref X4))) (ei4:PySem.W.excIn K X4 veM "ValueError.__new__"=true)
 (aX5:PySem.W.nsIn K mainGlobals "Idle"=some (some (.ref X5))) (ei5:PySem.W.excIn K X5 veM "ValueError.__new__"=true)
 (em1:((clP [C0,C1,C2,C3,C4] [X0,X1,X2,X3,X4,X5]).all fun p=>PySem.W.exmOne K (.ref p.1) (.ref X1)==some (decide (p.2=1001)))=true)
 (em2:((clP [C0,C1,C2,C3,C4] [X0,X1,X2,X3,X4,X5]).all fun p=>PySem.W.exmOne K (.ref p.1) (.ref X2)==some (decide (p.2=1002)))=true)
 (em3:((clP [C0,C1,C2,C3,C4] [X0,X1,X2,X3,X4,X5]).all fun p=>PySem.W.exmOne K (.ref p.1) (.ref X3)==some (decide (p.2=1003)))=true)
 (em4:((clP [C0,C1,C2,C3,C4] [X0,X1,X2,X3,X4,X5]).all fun p=>PySem.W.exmOne K (.ref p.1) (.ref X4)==some (decide (p.2=1004)))=true)
 (em5:((clP [C0,C1,C2,C3,C4] [X0,X1,X2,X3,X4,X5]).all fun p=>PySem.W.exmOne K (.ref p.1) (.ref X5)==some (decide (p.2=1005)))=true)
 (a0:PySem.W.nsIn K mainGlobals "is_more"=some (some (.ref f0))) (l0:K.lookup f0=some ⟨oc0,od0,.func (PySem.W.fnOf "is_more" "is_more" (aF iS) (aB iS) (ak iS) .none kV0 dc0 pm0 an0 cd0 ct0),sl0⟩) (c0:PySem.W.codeIn K cd0 "is_more"=true) (k0:PySem.W.keepIn K (.ref f0)=true)
 (a1:PySem.W.nsIn K mainGlobals "newest"=some (some (.ref f1))) (l1:K.lookup f1=some ⟨oc1,od1,.func (PySem.W.fnOf "newest" "newest" (aF jN) (aB jN) (ak jN) .none kV1 dc1 pm1 an1 cd1 ct1),sl1⟩) (c1:PySem.W.codeIn K cd1 "newest"=true) (k1:PySem.W.keepIn K (.ref f1)=true)
 (a2:PySem.W.nsIn K mainGlobals "stamp_after"=some (some (.ref f2))) (l2:K.lookup f2=some ⟨oc2,od2,.func (PySem.W.fnOf "stamp_after" "stamp_after" (aF eQ) (aB eQ) (ak eQ) .none kV2 dc2 pm2 an2 cd2 ct2),sl2⟩) (c2:PySem.W.codeIn K cd2 "stamp_after"=true) (k2:PySem.W.keepIn K (.ref f2)=true)
 (a3:PySem.W.findIn K (.ref C0) "__init__"=some (some (.ref f3))) (l3:K.lookup f3=some ⟨oc3,od3,.func (PySem.W.fnOf "__init__" "Hand.__init__" (aF gn) (aB gn) (ak gn) .none kV3 dc3 pm3 an3 cd3 ct3),sl3⟩) (c3:PySem.W.codeIn K cd3 "Hand.__init__"=true) (k3:PySem.W.keepIn K (.ref f3)=true)
 (i3:PySem.W.isFn K (.ref f3)=true)
 (a4:PySem.W.findIn K (.ref C0) "letters"=some (some (.ref f4))) (l4:K.lookup f4=some ⟨oc4,od4,.func (PySem.W.fnOf "letters" "Hand.letters" (aF eA) (aB eA) (ak eA) .none kV4 dc4 pm4 an4 cd4 ct4),sl4⟩) (c4:PySem.W.codeIn K cd4 "Hand.letters"=true) (k4:PySem.W.keepIn K (.ref f4)=true)
 (i4:PySem.W.isFn K (.ref f4)=true)
 (a5:PySem.W.findIn K (.ref C0) "begin_round"=some (some (.ref f5))) (l5:K.lookup f5=some ⟨oc5,od5,.func (PySem.W.fnOf "begin_round" "Hand.begin_round" (aF cL) (aB cL) (ak cL) .none kV5 dc5 pm5 an5 cd5 ct5),sl5⟩) (c5:PySem.W.codeIn K cd5 "Hand.begin_round"=true) (k5:PySem.W.keepIn K (.ref f5)=true)
 (i5:PySem.W.isFn K (.ref f5)=true)
 (a6:PySem.W.findIn K (.ref C0) "begin"=some (some (.ref f6))) (l6:K.lookup f6=some ⟨oc6,od6,.func (PySem.W.fnOf "begin" "Hand.begin" (aF fL) (aB fL) (ak fL) .none kV6 dc6 pm6 an6 cd6 ct6),sl6⟩) (c6:PySem.W.codeIn K cd6 "Hand.begin"=true) (k6:PySem.W.keepIn K (.ref f6)=true)
 (i6:PySem.W.isFn K (.ref f6)=true)
 (a7:PySem.W.findIn K (.ref C0) "begin_write"=some (some (.ref f7))) (l7:K.lookup f7=some ⟨oc7,od7,.func (PySem.W.fnOf "begin_write" "Hand.begin_write" (aF cN) (aB cN) (ak cN) .none kV7 dc7 pm7 an7 cd7 ct7),sl7⟩) (c7:PySem.W.codeIn K cd7 "Hand.begin_write"=true) (k7:PySem.W.keepIn K (.ref f7)=true)
 (i7:PySem.W.isFn K (.ref f7)=true)
 (a8:PySem.W.findIn K (.ref C0) "begin_read"=some (some (.ref f8))) (l8:K.lookup f8=some ⟨oc8,od8,.func (PySem.W.fnOf "begin_read" "Hand.begin_read" (aF dc) (aB dc) (ak dc) .none kV8 dc8 pm8 an8 cd8 ct8),sl8⟩) (c8:PySem.W.codeIn K cd8 "Hand.begin_read"=true) (k8:PySem.W.keepIn K (.ref f8)=true)
 (i8:PySem.W.isFn K (.ref f8)=true)
 (a9:PySem.W.findIn K (.ref C0) "refuse_idle"=some (some (.ref f9))) (l9:K.lookup f9=some ⟨oc9,od9,.func (PySem.W.fnOf "refuse_idle" "Hand.refuse_idle" (aF cJ) (aB cJ) (ak cJ) .none kV9 dc9 pm9 an9 cd9 ct9),sl9⟩) (c9:PySem.W.codeIn K cd9 "Hand.refuse_idle"=true) (k9:PySem.W.keepIn K (.ref f9)=true)
 (i9:PySem.W.isFn K (.ref f9)=true)
 (a10:PySem.W.findIn K (.ref C0) "send_again"=some (some (.ref f10))) (l10:K.lookup f10=some ⟨oc10,od10,.func (PySem.W.fnOf "send_again" "Hand.send_again" (aF cZ) (aB cZ) (ak cZ) .none kV10 dc10 pm10 an10 cd10 ct10),sl10⟩) (c10:PySem.W.codeIn K cd10 "Hand.send_again"=true) (k10:PySem.W.keepIn K (.ref f10)=true)
 (i10:PySem.W.isFn K (.ref f10)=true)
 (a11:PySem.W.findIn K (.ref C0) "give_up"=some (some (.ref f11))) (l11:K.lookup f11=some ⟨oc11,od11,.func (PySem.W.fnOf "give_up" "Hand.give_up" (aF et) (aB et) (ak et) .none kV11 dc11 pm11 an11 cd11 ct11),sl11⟩) (c11:PySem.W.codeIn K cd11 "Hand.give_up"=true) (k11:PySem.W.keepIn K (.ref f11)=true)
 (i11:PySem.W.isFn K (.ref f11)=true)
 (a12:PySem.W.findIn K (.ref C0) "chosen"=some (some (.ref f12))) (l12:K.lookup f12=some ⟨oc12,od12,.func (PySem.W.fnOf "chosen" "Hand.chosen" (aF eX) (aB eX) (ak eX) .none kV12 dc12 pm12 an12 cd12 ct12),sl12⟩) (c12:PySem.W.codeIn K cd12 "Hand.chosen"=true) (k12:PySem.W.keepIn K (.ref f12)=true)
 (i12:PySem.W.isFn K (.ref f12)=true)
 (a13:PySem.W.findIn K (.ref C0) "hear"=some (some (.ref f13))) (l13:K.lookup f13=some ⟨oc13,od13,.func (PySem.W.fnOf "hear" "Hand.hear" (aF gq) (aB gq) (ak gq) .none kV13 dc13 pm13 an13 cd13 ct13),sl13⟩) (c13:PySem.W.codeIn K cd13 "Hand.hear"=true) (k13:PySem.W.keepIn K (.ref f13)=true)
 (i13:PySem.W.isFn K (.ref f13)=true)
 (a14:PySem.W.findIn K (.ref C1) "__init__"=some (some (.ref f14))) (l14:K.lookup f14=some ⟨oc14,od14,.func (PySem.W.fnOf "__init__" "Keeper.__init__" (aF eW) (aB eW) (ak eW) .none kV14 dc14 pm14 an14 cd14 ct14),sl14⟩) (c14:PySem.W.codeIn K cd14 "Keeper.__init__"=true) (k14:PySem.W.keepIn K (.ref f14)=true)
 (i14:PySem.W.isFn K (.ref f14)=true)
 (a15:PySem.W.findIn K (.ref C1) "stop"=some (some (.ref f15))) (l15:K.lookup f15=some ⟨oc15,od15,.func (PySem.W.fnOf "stop" "Keeper.stop" (aF eV) (aB eV) (ak eV) .none kV15 dc15 pm15 an15 cd15 ct15),sl15⟩) (c15:PySem.W.codeIn K cd15 "Keeper.stop"=true) (k15:PySem.W.keepIn K (.ref f15)=true)
 (i15:PySem.W.isFn K (.ref f15)=true)
 (a16:PySem.W.findIn K (.ref C1) "wake"=some (some (.ref f16))) (l16:K.lookup f16=some ⟨oc16,od16,.func (PySem.W.fnOf "wake" "Keeper.wake" (aF eY) (aB eY) (ak eY) .none kV16 dc16 pm16 an16 cd16 ct16),sl16⟩) (c16:PySem.W.codeIn K cd16 "Keeper.wake"=true) (k16:PySem.W.keepIn K (.ref f16)=true)
 (i16:PySem.W.isFn K (.ref f16)=true)
 (a17:PySem.W.findIn K (.ref C1) "keep"=some (some (.ref f17))) (l17:K.lookup f17=some ⟨oc17,od17,.func (PySem.W.fnOf "keep" "Keeper.keep" (aF eT) (aB eT) (ak eT) .none kV17 dc17 pm17 an17 cd17 ct17),sl17⟩) (c17:PySem.W.codeIn K cd17 "Keeper.keep"=true) (k17:PySem.W.keepIn K (.ref f17)=true)
 (i17:PySem.W.isFn K (.ref f17)=true)
 (a18:PySem.W.findIn K (.ref C1) "answer_to"=some (some (.ref f18))) (l18:K.lookup f18=some ⟨oc18,od18,.func (PySem.W.fnOf "answer_to" "Keeper.answer_to" (aF cM) (aB cM) (ak cM) .none kV18 dc18 pm18 an18 cd18 ct18),sl18⟩) (c18:PySem.W.codeIn K cd18 "Keeper.answer_to"=true) (k18:PySem.W.keepIn K (.ref f18)=true)
 (i18:PySem.W.isFn K (.ref f18)=true)
 (a19:PySem.W.findIn K (.ref C2) "__init__"=some (some (.ref f19))) (l19:K.lookup f19=some ⟨oc19,od19,.func (PySem.W.fnOf "__init__" "Hall.__init__" (aF gc) (aB gc) (ak gc) .none kV19 dc19 pm19 an19 cd19 ct19),sl19⟩) (c19:PySem.W.codeIn K cd19 "Hall.__init__"=true) (k19:PySem.W.keepIn K (.ref f19)=true)
 (i19:PySem.W.isFn K (.ref f19)=true)
 (a20:PySem.W.findIn K (.ref C2) "hand_of"=some (some (.ref f20))) (l20:K.lookup f20=some ⟨oc20,od20,.func (PySem.W.fnOf "hand_of" "Hall.hand_of" (aF eF) (aB eF) (ak eF) .none kV20 dc20 pm20 an20 cd20 ct20),sl20⟩) (c20:PySem.W.codeIn K cd20 "Hall.hand_of"=true) (k20:PySem.W.keepIn K (.ref f20)=true)
 (i20:PySem.W.isFn K (.ref f20)=true)
 (a21:PySem.W.findIn K (.ref C2) "keeper_of"=some (some (.ref f21))) (l21:K.lookup f21=some ⟨oc21,od21,.func (PySem.W.fnOf "keeper_of" "Hall.keeper_of" (aF dE) (aB dE) (ak dE) .none kV21 dc21 pm21 an21 cd21 ct21),sl21⟩) (c21:PySem.W.codeIn K cd21 "Hall.keeper_of"=true) (k21:PySem.W.keepIn K (.ref f21)=true)
 (i21:PySem.W.isFn K (.ref f21)=true)
 (a22:PySem.W.findIn K (.ref C2) "send"=some (some (.ref f22))) (l22:K.lookup f22=some ⟨oc22,od22,.func (PySem.W.fnOf "send" "Hall.send" (aF fY) (aB fY) (ak fY) .none kV22 dc22 pm22 an22 cd22 ct22),sl22⟩) (c22:PySem.W.codeIn K cd22 "Hall.send"=true) (k22:PySem.W.keepIn K (.ref f22)=true)
 (i22:PySem.W.isFn K (.ref f22)=true)
 (a23:PySem.W.findIn K (.ref C2) "write"=some (some (.ref f23))) (l23:K.lookup f23=some ⟨oc23,od23,.func (PySem.W.fnOf "write" "Hall.write" (aF fO) (aB fO) (ak fO) .none kV23 dc23 pm23 an23 cd23 ct23),sl23⟩) (c23:PySem.W.codeIn K cd23 "Hall.write"=true) (k23:PySem.W.keepIn K (.ref f23)=true)
 (i23:PySem.W.isFn K (.ref f23)=true)
 (a24:PySem.W.findIn K (.ref C2) "read"=some (some (.ref f24))) (l24:K.lookup f24=some ⟨oc24,od24,.func (PySem.W.fnOf "read" "Hall.read" (aF gh) (aB gh) (ak gh) .none kV24 dc24 pm24 an24 cd24 ct24),sl24⟩) (c24:PySem.W.codeIn K cd24 "Hall.read"=true) (k24:PySem.W.keepIn K (.ref f24)=true)
 (i24:PySem.W.isFn K (.ref f24)=true)
 (a25:PySem.W.findIn K (.ref C2) "again"=some (some (.ref f25))) (l25:K.lookup f25=some ⟨oc25,od25,.func (PySem.W.fnOf "again" "Hall.again" (aF fC) (aB fC) (ak fC) .none kV25 dc25 pm25 an25 cd25 ct25),sl25⟩) (c25:PySem.W.codeIn K cd25 "Hall.again"=true) (k25:PySem.W.keepIn K (.ref f25)=true)
 (i25:PySem.W.isFn K (.ref f25)=true)
 (a26:PySem.W.findIn K (.ref C2) "leave"=some (some (.ref f26))) (l26:K.lookup f26=some ⟨oc26,od26,.func (PySem.W.fnOf "leave" "Hall.leave" (aF fE) (aB fE) (ak fE) .none kV26 dc26 pm26 an26 cd26 ct26),sl26⟩) (c26:PySem.W.codeIn K cd26 "Hall.leave"=true) (k26:PySem.W.keepIn K (.ref f26)=true)
 (i26:PySem.W.isFn K (.ref f26)=true)
 (a27:PySem.W.findIn K (.ref C2) "stop_keeper"=some (some (.ref f27))) (l27:K.lookup f27=some ⟨oc27,od27,.func (PySem.W.fnOf "stop_keeper" "Hall.stop_keeper" (aF cO) (aB cO) (ak cO) .none kV27 dc27 pm27 an27 cd27 ct27),sl27⟩) (c27:PySem.W.codeIn K cd27 "Hall.stop_keeper"=true) (k27:PySem.W.keepIn K (.ref f27)=true)
 (i27:PySem.W.isFn K (.ref f27)=true)
 (a28:PySem.W.findIn K (.ref C2) "wake_keeper"=some (some (.ref f28))) (l28:K.lookup f28=some ⟨oc28,od28,.func (PySem.W.fnOf "wake_keeper" "Hall.wake_keeper" (aF cK) (aB cK) (ak cK) .none kV28 dc28 pm28 an28 cd28 ct28),sl28⟩) (c28:PySem.W.codeIn K cd28 "Hall.wake_keeper"=true) (k28:PySem.W.keepIn K (.ref f28)=true)
 (i28:PySem.W.isFn K (.ref f28)=true)
 (a29:PySem.W.findIn K (.ref C2) "come_to_keeper"=some (some (.ref f29))) (l29:K.lookup f29=some ⟨oc29,od29,.func (PySem.W.fnOf "come_to_keeper" "Hall.come_to_keeper" (aF bP) (aB bP) (ak bP) .none kV29 dc29 pm29 an29 cd29 ct29),sl29⟩) (c29:PySem.W.codeIn K cd29 "Hall.come_to_keeper"=true) (k29:PySem.W.keepIn K (.ref f29)=true)
 (i29:PySem.W.isFn K (.ref f29)=true)
 (a30:PySem.W.findIn K (.ref C2) "come_to_hand"=some (some (.ref f30))) (l30:K.lookup f30=some ⟨oc30,od30,.func (PySem.W.fnOf "come_to_hand" "Hall.come_to_hand" (aF cA) (aB cA) (ak cA) .none kV30 dc30 pm30 an30 cd30 ct30),sl30⟩) (c30:PySem.W.codeIn K cd30 "Hall.come_to_hand"=true) (k30:PySem.W.keepIn K (.ref f30)=true)
 (i30:PySem.W.isFn K (.ref f30)=true)
 (a31:PySem.W.findIn K (.ref C2) "come"=some (some (.ref f31))) (l31:K.lookup f31=some ⟨oc31,od31,.func (PySem.W.fnOf "come" "Hall.come" (aF gk) (aB gk) (ak gk) .none kV31 dc31 pm31 an31 cd31 ct31),sl31⟩) (c31:PySem.W.codeIn K cd31 "Hall.come"=true) (k31:PySem.W.keepIn K (.ref f31)=true)
 (i31:PySem.W.isFn K (.ref f31)=true)
 (a32:PySem.W.findIn K (.ref C2) "carry"=some (some (.ref f32))) (l32:K.lookup f32=some ⟨oc32,od32,.func (PySem.W.fnOf "carry" "Hall.carry" (aF fN) (aB fN) (ak fN) .none kV32 dc32 pm32 an32 cd32 ct32),sl32⟩) (c32:PySem.W.codeIn K cd32 "Hall.carry"=true) (k32:PySem.W.keepIn K (.ref f32)=true)
 (i32:PySem.W.isFn K (.ref f32)=true)
 (a33:PySem.W.findIn K (.ref C2) "first_between"=some (some (.ref f33))) (l33:K.lookup f33=some ⟨oc33,od33,.func (PySem.W.fnOf "first_between" "Hall.first_between" (aF bZ) (aB bZ) (ak bZ) .none kV33 dc33 pm33 an33 cd33 ct33),sl33⟩) (c33:PySem.W.codeIn K cd33 "Hall.first_between"=true) (k33:PySem.W.keepIn K (.ref f33)=true)
 (i33:PySem.W.isFn K (.ref f33)=true)
 (a34:PySem.W.findIn K (.ref C2) "carry_between"=some (some (.ref f34))) (l34:K.lookup f34=some ⟨oc34,od34,.func (PySem.W.fnOf "carry_between" "Hall.carry_between" (aF bX) (aB bX) (ak bX) .none kV34 dc34 pm34 an34 cd34 ct34),sl34⟩) (c34:PySem.W.codeIn K cd34 "Hall.carry_between"=true) (k34:PySem.W.keepIn K (.ref f34)=true)
 (i34:PySem.W.isFn K (.ref f34)=true)
 (a35:PySem.W.findIn K (.ref C2) "sweep"=some (some (.ref f35))) (l35:K.lookup f35=some ⟨oc35,od35,.func (PySem.W.fnOf "sweep" "Hall.sweep" (aF fB) (aB fB) (ak fB) .none kV35 dc35 pm35 an35 cd35 ct35),sl35⟩) (c35:PySem.W.codeIn K cd35 "Hall.sweep"=true) (k35:PySem.W.keepIn K (.ref f35)=true)
 (i35:PySem.W.isFn K (.ref f35)=true)
 (a36:PySem.W.findIn K (.ref C3) "__init__"=some (some (.ref f36))) (l36:K.lookup f36=some ⟨oc36,od36,.func (PySem.W.fnOf "__init__" "Work.__init__" (aF fZ) (aB fZ) (ak fZ) .none kV36 dc36 pm36 an36 cd36 ct36),sl36⟩) (c36:PySem.W.codeIn K cd36 "Work.__init__"=true) (k36:PySem.W.keepIn K (.ref f36)=true)
 (i36:PySem.W.isFn K (.ref f36)=true)
 (a37:PySem.W.findIn K (.ref C3) "told"=some (some (.ref f37))) (l37:K.lookup f37=some ⟨oc37,od37,.func (PySem.W.fnOf "told" "Work.told" (aF gi) (aB gi) (ak gi) .none kV37 dc37 pm37 an37 cd37 ct37),sl37⟩) (c37:PySem.W.codeIn K cd37 "Work.told"=true) (k37:PySem.W.keepIn K (.ref f37)=true)
 (i37:PySem.W.isFn K (.ref f37)=true)
 (a38:PySem.W.findIn K (.ref C4) "__init__"=some (some (.ref f38))) (l38:K.lookup f38=some ⟨oc38,od38,.func (PySem.W.fnOf "__init__" "Story.__init__" (aF fG) (aB fG) (ak fG) .none kV38 dc38 pm38 an38 cd38 ct38),sl38⟩) (c38:PySem.W.codeIn K cd38 "Story.__init__"=true) (k38:PySem.W.keepIn K (.ref f38)=true)
 (i38:PySem.W.isFn K (.ref f38)=true)
 (a39:PySem.W.findIn K (.ref C4) "note_work"=some (some (.ref f39))) (l39:K.lookup f39=some ⟨oc39,od39,.func (PySem.W.fnOf "note_work" "Story.note_work" (aF dh) (aB dh) (ak dh) .none kV39 dc39 pm39 an39 cd39 ct39),sl39⟩) (c39:PySem.W.codeIn K cd39 "Story.note_work"=true) (k39:PySem.W.keepIn K (.ref f39)=true)
 (i39:PySem.W.isFn K (.ref f39)=true)
 (a40:PySem.W.findIn K (.ref C4) "note_end"=some (some (.ref f40))) (l40:K.lookup f40=some ⟨oc40,od40,.func (PySem.W.fnOf "note_end" "Story.note_end" (aF dG) (aB dG) (ak dG) .none kV40 dc40 pm40 an40 cd40 ct40),sl40⟩) (c40:PySem.W.codeIn K cd40 "Story.note_end"=true) (k40:PySem.W.keepIn K (.ref f40)=true)
 (i40:PySem.W.isFn K (.ref f40)=true)
 (a41:PySem.W.findIn K (.ref C4) "note_ends"=some (some (.ref f41))) (l41:K.lookup f41=some ⟨oc41,od41,.func (PySem.W.fnOf "note_ends" "Story.note_ends" (aF dk) (aB dk) (ak dk) .none kV41 dc41 pm41 an41 cd41 ct41),sl41⟩) (c41:PySem.W.codeIn K cd41 "Story.note_ends"=true) (k41:PySem.W.keepIn K (.ref f41)=true)
 (i41:PySem.W.isFn K (.ref f41)=true)
 (a42:PySem.W.findIn K (.ref C4) "done"=some (some (.ref f42))) (l42:K.lookup f42=some ⟨oc42,od42,.func (PySem.W.fnOf "done" "Story.done" (aF fD) (aB fD) (ak fD) .none kV42 dc42 pm42 an42 cd42 ct42),sl42⟩) (c42:PySem.W.codeIn K cd42 "Story.done"=true) (k42:PySem.W.keepIn K (.ref f42)=true)
 (i42:PySem.W.isFn K (.ref f42)=true)
 (a43:PySem.W.findIn K (.ref C4) "done_or_refused"=some (some (.ref f43))) (l43:K.lookup f43=some ⟨oc43,od43,.func (PySem.W.fnOf "done_or_refused" "Story.done_or_refused" (aF bG) (aB bG) (ak bG) .none kV43 dc43 pm43 an43 cd43 ct43),sl43⟩) (c43:PySem.W.codeIn K cd43 "Story.done_or_refused"=true) (k43:PySem.W.keepIn K (.ref f43)=true)
 (i43:PySem.W.isFn K (.ref f43)=true)
 (a44:PySem.W.findIn K (.ref C4) "note_stamps"=some (some (.ref f44))) (l44:K.lookup f44=some ⟨oc44,od44,.func (PySem.W.fnOf "note_stamps" "Story.note_stamps" (aF cB) (aB cB) (ak cB) .none kV44 dc44 pm44 an44 cd44 ct44),sl44⟩) (c44:PySem.W.codeIn K cd44 "Story.note_stamps"=true) (k44:PySem.W.keepIn K (.ref f44)=true)
 (i44:PySem.W.isFn K (.ref f44)=true)
 (a45:PySem.W.findIn K (.ref C4) "answer"=some (some (.ref f45))) (l45:K.lookup f45=some ⟨oc45,od45,.func (PySem.W.fnOf "answer" "Story.answer" (aF eh) (aB eh) (ak eh) .none kV45 dc45 pm45 an45 cd45 ct45),sl45⟩) (c45:PySem.W.codeIn K cd45 "Story.answer"=true) (k45:PySem.W.keepIn K (.ref f45)=true)
 (i45:PySem.W.isFn K (.ref f45)=true)
 (a46:PySem.W.nsIn K mainGlobals "all_after"=some (some (.ref f46))) (l46:K.lookup f46=some ⟨oc46,od46,.func (PySem.W.fnOf "all_after" "all_after" (aF gp) (aB gp) (ak gp) .none kV46 dc46 pm46 an46 cd46 ct46),sl46⟩) (c46:PySem.W.codeIn K cd46 "all_after"=true) (k46:PySem.W.keepIn K (.ref f46)=true)
 (a47:PySem.W.nsIn K mainGlobals "_law_whole"=some (some (.ref f47))) (l47:K.lookup f47=some ⟨oc47,od47,.func (PySem.W.fnOf "_law_whole" "_law_whole" (aF mq) (aB mq) (ak mq) .none kV47 dc47 pm47 an47 cd47 ct47),sl47⟩) (c47:PySem.W.codeIn K cd47 "_law_whole"=true) (k47:PySem.W.keepIn K (.ref f47)=true)
 (a48:PySem.W.nsIn K mainGlobals "_law_at"=some (some (.ref f48))) (l48:K.lookup f48=some ⟨oc48,od48,.func (PySem.W.fnOf "_law_at" "_law_at" (aF zk) (aB zk) (ak zk) .none kV48 dc48 pm48 an48 cd48 ct48),sl48⟩) (c48:PySem.W.codeIn K cd48 "_law_at"=true) (k48:PySem.W.keepIn K (.ref f48)=true)
 (a49:PySem.W.nsIn K mainGlobals "_law_value_by"=some (some (.ref f49))) (l49:K.lookup f49=some ⟨oc49,od49,.func (PySem.W.fnOf "_law_value_by" "_law_value_by" (aF gR) (aB gR) (ak gR) .none kV49 dc49 pm49 an49 cd49 ct49),sl49⟩) (c49:PySem.W.codeIn K cd49 "_law_value_by"=true) (k49:PySem.W.keepIn K (.ref f49)=true)
 (a50:PySem.W.nsIn K mainGlobals "_law_deed_of"=some (some (.ref f50))) (l50:K.lookup f50=some ⟨oc50,od50,.func (PySem.W.fnOf "_law_deed_of" "_law_deed_of" (aF iP) (aB iP) (ak iP) .none kV50 dc50 pm50 an50 cd50 ct50),sl50⟩) (c50:PySem.W.codeIn K cd50 "_law_deed_of"=true) (k50:PySem.W.keepIn K (.ref f50)=true)
 (a51:PySem.W.nsIn K mainGlobals "_law_opening"=some (some (.ref f51))) (l51:K.lookup f51=some ⟨oc51,od51,.func (PySem.W.fnOf "_law_opening" "_law_opening" (aF iR) (aB iR) (ak iR) .none kV51 dc51 pm51 an51 cd51 ct51),sl51⟩) (c51:PySem.W.codeIn K cd51 "_law_opening"=true) (k51:PySem.W.keepIn K (.ref f51)=true)
 (a52:PySem.W.nsIn K mainGlobals "_law_drawn"=some (some (.ref f52))) (l52:K.lookup f52=some ⟨oc52,od52,.func (PySem.W.fnOf "_law_drawn" "_law_drawn" (aF mn) (aB mn) (ak mn) .none kV52 dc52 pm52 an52 cd52 ct52),sl52⟩) (c52:PySem.W.codeIn K cd52 "_law_drawn"=true) (k52:PySem.W.keepIn K (.ref f52)=true)
 (a53:PySem.W.nsIn K mainGlobals "_law_is_stamp"=some (some (.ref f53))) (l53:K.lookup f53=some ⟨oc53,od53,.func (PySem.W.fnOf "_law_is_stamp" "_law_is_stamp" (aF gV) (aB gV) (ak gV) .none kV53 dc53 pm53 an53 cd53 ct53),sl53⟩) (c53:PySem.W.codeIn K cd53 "_law_is_stamp"=true) (k53:PySem.W.keepIn K (.ref f53)=true)
 (a54:PySem.W.nsIn K mainGlobals "_law_is_pair"=some (some (.ref f54))) (l54:K.lookup f54=some ⟨oc54,od54,.func (PySem.W.fnOf "_law_is_pair" "_law_is_pair" (aF iQ) (aB iQ) (ak iQ) .none kV54 dc54 pm54 an54 cd54 ct54),sl54⟩) (c54:PySem.W.codeIn K cd54 "_law_is_pair"=true) (k54:PySem.W.keepIn K (.ref f54)=true)
 (a55:PySem.W.nsIn K mainGlobals "_law_is_work"=some (some (.ref f55))) (l55:K.lookup f55=some ⟨oc55,od55,.func (PySem.W.fnOf "_law_is_work" "_law_is_work" (aF iT) (aB iT) (ak iT) .none kV55 dc55 pm55 an55 cd55 ct55),sl55⟩) (c55:PySem.W.codeIn K cd55 "_law_is_work"=true) (k55:PySem.W.keepIn K (.ref f55)=true)
 (a56:PySem.W.nsIn K mainGlobals "_law_all_kinds"=some (some (.ref f56))) (l56:K.lookup f56=some ⟨oc56,od56,.func (PySem.W.fnOf "_law_all_kinds" "_law_all_kinds" (aF gj) (aB gj) (ak gj) .none kV56 dc56 pm56 an56 cd56 ct56),sl56⟩) (c56:PySem.W.codeIn K cd56 "_law_all_kinds"=true) (k56:PySem.W.keepIn K (.ref f56)=true)
 (a57:PySem.W.nsIn K mainGlobals "_law_all_told"=some (some (.ref f57))) (l57:K.lookup f57=some ⟨oc57,od57,.func (PySem.W.fnOf "_law_all_told" "_law_all_told" (aF gN) (aB gN) (ak gN) .none kV57 dc57 pm57 an57 cd57 ct57),sl57⟩) (c57:PySem.W.codeIn K cd57 "_law_all_told"=true) (k57:PySem.W.keepIn K (.ref f57)=true)
 (a58:PySem.W.nsIn K mainGlobals "_law_few_up"=some (some (.ref f58))) (l58:K.lookup f58=some ⟨oc58,od58,.func (PySem.W.fnOf "_law_few_up" "_law_few_up" (aF jW) (aB jW) (ak jW) .none kV58 dc58 pm58 an58 cd58 ct58),sl58⟩) (c58:PySem.W.codeIn K cd58 "_law_few_up"=true) (k58:PySem.W.keepIn K (.ref f58)=true)
 (a59:PySem.W.nsIn K mainGlobals "law"=some (some (.ref f59))) (l59:K.lookup f59=some ⟨oc59,od59,.func (PySem.W.fnOf "law" "law" (aF oR) (aB oR) (ak oR) .none kV59 dc59 pm59 an59 cd59 ct59),sl59⟩) (c59:PySem.W.codeIn K cd59 "law"=true) (k59:PySem.W.keepIn K (.ref f59)=true)
 (z_max:PySem.W.nsIn K mainGlobals "max"=some none)
 (z_range:PySem.W.nsIn K mainGlobals "range"=some none)
 (z_list:PySem.W.nsIn K mainGlobals "list"=some none)
 (z_len:PySem.W.nsIn K mainGlobals "len"=some none)
 (z_enumerate:PySem.W.nsIn K mainGlobals "enumerate"=some none)
 (z_int:PySem.W.nsIn K mainGlobals "int"=some none)
 (z_isinstance:PySem.W.nsIn K mainGlobals "isinstance"=some none)
 (z_bool:PySem.W.nsIn K mainGlobals "bool"=some none)
 (z_tuple:PySem.W.nsIn K mainGlobals "tuple"=some none)
 (z_str:PySem.W.nsIn K mainGlobals "str"=some none)
 (l_BEGINNING_1:K.lookup x_BEGINNING_1=some ⟨.type "tuple",od_BEGINNING_1,.seq #[.int 0 t_BEGINNING_2,.int 0 t_BEGINNING_3] n_BEGINNING_1,sl_BEGINNING_1⟩)
 (l_BEGINNING:K.lookup x_BEGINNING=some ⟨.type "tuple",od_BEGINNING,.seq #[.ref x_BEGINNING_1,.int 0 t_BEGINNING_4] n_BEGINNING,sl_BEGINNING⟩):
 ∃fd:FuncData,(∀(s:Shared) (v:Value),BindsTo s fd ⟨[v],[]⟩ [("_law_script",v)])/\∃cl,∀base:Heap,K.In base->base.Ns mainGlobals mg->bo l.prog w K mg base CX0 12 fa fd ["_law_script"] (sp3 (TT cl) K 1 qQ):=by
 have e:=hfa.symm.trans (PySem.W.mg_of X G a59)
 cases e
 have hcl:∀c Ca,clF [C0,C1,C2,C3,C4] [X0,X1,X2,X3,X4,X5] c=some Ca->c < 1000->Ca∈ [C0,C1,C2,C3,C4]:=fun c Ca e hc=>EZ e hc
 have hC:∀Ca,Ca∈ [C0,C1,C2,C3,C4]->Cls K Ca/\∀x∈nmL,kC K Ca x:=by
  intro Ca hm
  simp only[qS_,List.not_mem_nil,or_false]at hm
  rcases hm with rfl |rfl |rfl |rfl |rfl
  · exact⟨⟨pg0,hd0,po0,sa0⟩,fun x hx=>eq_of_beq (List.all_eq_true.mp na0 x hx)⟩
  · exact⟨⟨pg1,hd1,po1,sa1⟩,fun x hx=>eq_of_beq (List.all_eq_true.mp na1 x hx)⟩
  · exact⟨⟨pg2,hd2,po2,sa2⟩,fun x hx=>eq_of_beq (List.all_eq_true.mp na2 x hx)⟩
  · exact⟨⟨pg3,hd3,po3,sa3⟩,fun x hx=>eq_of_beq (List.all_eq_true.mp na3 x hx)⟩
  · exact⟨⟨pg4,hd4,po4,sa4⟩,fun x hx=>eq_of_beq (List.all_eq_true.mp na4 x hx)⟩
 have Z:Txt K mg (clF [C0,C1,C2,C3,C4] [X0,X1,X2,X3,X4,X5]):=⟨PySem.W.mg_none_of X G z_max,
  PySem.W.mg_none_of X G z_range,
  PySem.W.mg_none_of X G z_list,
  PySem.W.mg_none_of X G z_len,
  PySem.W.mg_none_of X G z_enumerate,
  PySem.W.mg_none_of X G z_int,
  PySem.W.mg_none_of X G z_isinstance,
  PySem.W.mg_none_of X G z_bool,
  PySem.W.mg_none_of X G z_tuple,
  PySem.W.mg_none_of X G z_str,
  ⟨.ref x_BEGINNING,.ref x_BEGINNING,PySem.W.mg_of X G g_BEGINNING,rfl,(yI (ds:=[(.tup [(.int 0),(.int 0)]),(.int 0)]) l_BEGINNING (show 2<=sizeLine by decide) (vs:=[(.ref x_BEGINNING_1),(.int 0)]) (.cons rfl (.cons ⟨_,rfl⟩ .nil)) fun H μ=>⟨_,_,rfl,((yI (ds:=[(.int 0),(.int 0)]) l_BEGINNING_1 (show 2<=sizeLine by decide) (vs:=[(.int 0),(.int 0)]) (.cons ⟨_,rfl⟩ (.cons ⟨_,rfl⟩ .nil)) fun H μ=>⟨_,_,rfl,rfl,⟨_,_,rfl,rfl,rfl⟩⟩) H μ),⟨_,_,rfl,rfl,rfl⟩⟩)⟩,
  dZ (L:=nmL) hcl hC (by decide +kernel) (by decide +kernel) (by decide),
  dZ (L:=nmL) hcl hC (by decide +kernel) (by decide +kernel) (by decide),
  dZ (L:=nmL) hcl hC (by decide +kernel) (by decide +kernel) (by decide),
  dZ (L:=nmL) hcl hC (by decide +kernel) (by decide +kernel) (by decide),
  dZ (L:=nmL) hcl hC (by decide +kernel) (by decide +kernel) (by decide),
  dZ (L:=nmL) hcl hC (by decide +kernel) (by decide +kernel) (by decide),
  dZ (L:=nmL) hcl hC (by decide +kernel) (by decide +kernel) (by decide),
  dZ (L:=nmL) hcl hC (by decide +kernel) (by decide +kernel) (by decide),
  dZ (L:=nmL) hcl hC (by decide +kernel) (by decide +kernel) (by decide),
  dZ (L:=nmL) hcl hC (by decide +kernel) (by decide +kernel) (by decide),
  dZ (L:=nmL) hcl hC (by decide +kernel) (by decide +kernel) (by decide),
  dZ (L:=nmL) hcl hC (by decide +kernel) (by decide +kernel) (by decide),
  dZ (L:=nmL) hcl hC (by decide +kernel) (by decide +kernel) (by decide),
  dZ (L:=nmL) hcl hC (by decide +kernel) (by decide +kernel) (by decide),
  dZ (L:=nmL) hcl hC (by decide +kernel) (by decide +kernel) (by decide),
  dZ (L:=nmL) hcl hC (by decide +kernel) (by decide +kernel) (by decide),
  dZ (L:=nmL) hcl hC (by decide +kernel) (by decide +kernel) (by decide),
  dZ (L:=nmL) hcl hC (by decide +kernel) (by decide +kernel) (by decide),
  dZ (L:=nmL) hcl hC (by decide +kernel) (by decide +kernel) (by decide),
  dZ (L:=nmL) hcl hC (by decide +kernel) (by decide +kernel) (by decide),
  dZ (L:=nmL) hcl hC (by decide +kernel) (by decide +kernel) (by decide),
  ⟨X0,rfl,PySem.W.mg_of X G aX0,ei0⟩,
  True.intro,
  ⟨X1,rfl,PySem.W.mg_of X G aX1,ei1⟩,
  ⟨X1,PySem.W.mg_of X G aX1,fun c Ca e=>oT em1 e⟩,
  ⟨X2,rfl,PySem.W.mg_of X G aX2,ei2⟩,
  ⟨X2,PySem.W.mg_of X G aX2,fun c Ca e=>oT em2 e⟩,
  ⟨X3,rfl,PySem.W.mg_of X G aX3,ei3⟩,
  ⟨X3,PySem.W.mg_of X G aX3,fun c Ca e=>oT em3 e⟩,
  ⟨X4,rfl,PySem.W.mg_of X G aX4,ei4⟩,
  ⟨X4,PySem.W.mg_of X G aX4,fun c Ca e=>oT em4 e⟩,
  ⟨X5,rfl,PySem.W.mg_of X G aX5,ei5⟩,
  ⟨X5,PySem.W.mg_of X G aX5,fun c Ca e=>oT em5 e⟩⟩
 have F0:=aL (st:=iS) l0 c0 k0
 have b0:=F0.binds (ps:=["count","many"]) (by walk_at "b2")
 have F1:=aL (st:=jN) l1 c1 k1
 have b1:=F1.binds (ps:=["pairs"]) (by walk_at "b1")
 have F2:=aL (st:=eQ) l2 c2 k2
 have b2:=F2.binds (ps:=["pairs","own","hand"]) (by walk_at "b3")
 have F3:=aL (st:=gn) l3 c3 k3
 have b3:=F3.binds (ps:=["self","number","count"]) (by walk_at "b3")
 have F4:=aL (st:=eA) l4 c4 k4
 have b4:=F4.binds (ps:=["self"]) (by walk_at "b1")
 have F5:=aL (st:=cL) l5 c5 k5
 have b5:=F5.binds (ps:=["self","pair"]) (by walk_at "b2")
 have F6:=aL (st:=fL) l6 c6 k6
 have b6:=F6.binds (ps:=["self","value"]) (by walk_at "b2")
 have F7:=aL (st:=cN) l7 c7 k7
 have b7:=F7.binds (ps:=["self","value"]) (by walk_at "b2")
 have F8:=aL (st:=dc) l8 c8 k8
 have b8:=F8.binds (ps:=["self"]) (by walk_at "b1")
 have F9:=aL (st:=cJ) l9 c9 k9
 have b9:=F9.binds (ps:=["self"]) (by walk_at "b1")
 have F10:=aL (st:=cZ) l10 c10 k10
 have b10:=F10.binds (ps:=["self"]) (by walk_at "b1")
 have F11:=aL (st:=et) l11 c11 k11
 have b11:=F11.binds (ps:=["self"]) (by walk_at "b1")
 have F12:=aL (st:=eX) l12 c12 k12
 have b12:=F12.binds (ps:=["self"]) (by walk_at "b1")
 have F13:=aL (st:=gq) l13 c13 k13
 have b13:=F13.binds (ps:=["self","answer"]) (by walk_at "b2")
 have F14:=aL (st:=eW) l14 c14 k14
 have b14:=F14.binds (ps:=["self"]) (by walk_at "b1")
 have F15:=aL (st:=eV) l15 c15 k15
 have b15:=F15.binds (ps:=["self"]) (by walk_at "b1")
 have F16:=aL (st:=eY) l16 c16 k16
 have b16:=F16.binds (ps:=["self"]) (by walk_at "b1")
 have F17:=aL (st:=eT) l17 c17 k17
 have b17:=F17.binds (ps:=["self","pair"]) (by walk_at "b2")
 have F18:=aL (st:=cM) l18 c18 k18
 have b18:=F18.binds (ps:=["self","letter"]) (by walk_at "b2")
 have F19:=aL (st:=gc) l19 c19 k19
 have b19:=F19.binds (ps:=["self","count","many"]) (by walk_at "b3")
 have F20:=aL (st:=eF) l20 c20 k20
 have b20:=F20.binds (ps:=["self","number"]) (by walk_at "b2")
 have F21:=aL (st:=dE) l21 c21 k21
 have b21:=F21.binds (ps:=["self","number"]) (by walk_at "b2")
 have F22:=aL (st:=fY) l22 c22 k22
 have b22:=F22.binds (ps:=["self","letters"]) (by walk_at "b2")
 have F23:=aL (st:=fO) l23 c23 k23
 have b23:=F23.binds (ps:=["self","hand","value"]) (by walk_at "b3")
 have F24:=aL (st:=gh) l24 c24 k24
 have b24:=F24.binds (ps:=["self","hand"]) (by walk_at "b2")
 have F25:=aL (st:=fC) l25 c25 k25
 have b25:=F25.binds (ps:=["self","hand"]) (by walk_at "b2")
 have F26:=aL (st:=fE) l26 c26 k26
 have b26:=F26.binds (ps:=["self","hand"]) (by walk_at "b2")
 have F27:=aL (st:=cO) l27 c27 k27
 have b27:=F27.binds (ps:=["self","keeper"]) (by walk_at "b2")
 have F28:=aL (st:=cK) l28 c28 k28
 have b28:=F28.binds (ps:=["self","keeper"]) (by walk_at "b2")
 have F29:=aL (st:=bP) l29 c29 k29
 have b29:=F29.binds (ps:=["self","letter"]) (by walk_at "b2")
 have F30:=aL (st:=cA) l30 c30 k30
 have b30:=F30.binds (ps:=["self","answer"]) (by walk_at "b2")
 have F31:=aL (st:=gk) l31 c31 k31
 have b31:=F31.binds (ps:=["self","place","stays"]) (by walk_at "b3")
 have F32:=aL (st:=fN) l32 c32 k32
 have b32:=F32.binds (ps:=["self","number","stays"]) (by walk_at "b3")
 have F33:=aL (st:=bZ) l33 c33 k33
 have b33:=F33.binds (ps:=["self","hand","keeper"]) (by walk_at "b3")
 have F34:=aL (st:=bX) l34 c34 k34
 have b34:=F34.binds (ps:=["self","hand","keeper"]) (by walk_at "b3")
 have F35:=aL (st:=fB) l35 c35 k35
 have b35:=F35.binds (ps:=["self"]) (by walk_at "b1")
 have F36:=aL (st:=fZ) l36 c36 k36
 have b36:=F36.binds (ps:=["self","hand","word","value","begun"]) (by walk_at "b5")
 have F37:=aL (st:=gi) l37 c37 k37
 have b37:=F37.binds (ps:=["self"]) (by walk_at "b1")
 have F38:=aL (st:=fG) l38 c38 k38
 have b38:=F38.binds (ps:=["self","count","many"]) (by walk_at "b3")
 have F39:=aL (st:=dh) l39 c39 k39
 have b39:=F39.binds (ps:=["self","hand","word","value"]) (by walk_at "b4")
 have F40:=aL (st:=dG) l40 c40 k40
 have b40:=F40.binds (ps:=["self","hand","pair"]) (by walk_at "b3")
 have F41:=aL (st:=dk) l41 c41 k41
 have b41:=F41.binds (ps:=["self","ends"]) (by walk_at "b2")
 have F42:=aL (st:=fD) l42 c42 k42
 have b42:=F42.binds (ps:=["self","deed"]) (by walk_at "b2")
 have F43:=aL (st:=bG) l43 c43 k43
 have b43:=F43.binds (ps:=["self","deed"]) (by walk_at "b2")
 have F44:=aL (st:=cB) l44 c44 k44
 have b44:=F44.binds (ps:=["self"]) (by walk_at "b1")
 have F45:=aL (st:=eh) l45 c45 k45
 have b45:=F45.binds (ps:=["self","deed"]) (by walk_at "b2")
 have F46:=aL (st:=gp) l46 c46 k46
 have b46:=F46.binds (ps:=["count","many","deeds"]) (by walk_at "b3")
 have F47:=aL (st:=mq) l47 c47 k47
 have b47:=F47.binds (ps:=["_law_found"]) (by walk_at "b1")
 have F48:=aL (st:=zk) l48 c48 k48
 have b48:=F48.binds (ps:=["_law_script","_law_k"]) (by walk_at "b2")
 have F49:=aL (st:=gR) l49 c49 k49
 have b49:=F49.binds (ps:=["_law_cell","_law_k"]) (by walk_at "b2")
 have F50:=aL (st:=iP) l50 c50 k50
 have b50:=F50.binds (ps:=["_law_cell","_law_k","_law_count","_law_many"]) (by walk_at "b4")
 have F51:=aL (st:=iR) l51 c51 k51
 have b51:=F51.binds (ps:=["_law_cell","_law_count","_law_many"]) (by walk_at "b3")
 have F52:=aL (st:=mn) l52 c52 k52
 have b52:=F52.binds (ps:=["_law_cells","_law_count","_law_many"]) (by walk_at "b3")
 have F53:=aL (st:=gV) l53 c53 k53
 have b53:=F53.binds (ps:=["_law_found"]) (by walk_at "b1")
 have F54:=aL (st:=iQ) l54 c54 k54
 have b54:=F54.binds (ps:=["_law_found"]) (by walk_at "b1")
 have F55:=aL (st:=iT) l55 c55 k55
 have b55:=F55.binds (ps:=["_law_found"]) (by walk_at "b1")
 have F56:=aL (st:=gj) l56 c56 k56
 have b56:=F56.binds (ps:=["_law_found","_law_count"]) (by walk_at "b2")
 have F57:=aL (st:=gN) l57 c57 k57
 have b57:=F57.binds (ps:=["_law_count","_law_many","_law_deeds"]) (by walk_at "b3")
 have F58:=aL (st:=jW) l58 c58 k58
 have b58:=F58.binds (ps:=["_law_cell","_law_count","_law_many"]) (by walk_at "b3")
 have F59:=aL (st:=oR) l59 c59 k59
 refine⟨PySem.W.fnOf "law" "law" (aF oR) (aB oR) (ak oR) .none kV59 dc59 pm59 an59 cd59 ct59,fun s v=>.of_eq rfl,(clF [C0,C1,C2,C3,C4] [X0,X1,X2,X3,X4,X5]),fun base _ _=>?_⟩
 have Gx70:=ix (xm l.prog w mg base F0 Z) F0 (PySem.W.mg_of X G a0) b0
 have Gx71:=ix (zR l.prog w mg base F1 Z) F1 (PySem.W.mg_of X G a1) b1
 have Gx72:=ix (rM l.prog w mg base F2 Z) F2 (PySem.W.mg_of X G a2) b2
 have Gx73:=we (C:=0) (tM l.prog w mg base F3 Z) rfl ⟨mk0,a3,i3,kc0⟩ (PySem.W.mg_of X G aC0) b3
 have Gx21:=cC (C:=0) (p4 l.prog w mg base F4 Z) rfl ⟨pg0,hd0,po0,sa0⟩ ⟨a4,i4,k4⟩ b4 (by walk_at "nm")
 have Gx22:=cC (C:=0) (mD l.prog w mg base F5 Z Gx21) rfl ⟨pg0,hd0,po0,sa0⟩ ⟨a5,i5,k5⟩ b5 (by walk_at "nm")
 have Gx23:=cC (C:=0) (rZ l.prog w mg base F6 Z Gx22) rfl ⟨pg0,hd0,po0,sa0⟩ ⟨a6,i6,k6⟩ b6 (by walk_at "nm")
 have Gx74:=cC (C:=0) (mz l.prog w mg base F7 Z Gx23) rfl ⟨pg0,hd0,po0,sa0⟩ ⟨a7,i7,k7⟩ b7 (by walk_at "nm")
 have Gx75:=cC (C:=0) (nC l.prog w mg base F8 Z Gx23) rfl ⟨pg0,hd0,po0,sa0⟩ ⟨a8,i8,k8⟩ b8 (by walk_at "nm")
 have Gx24:=cC (C:=0) (mL l.prog w mg base F9 Z) rfl ⟨pg0,hd0,po0,sa0⟩ ⟨a9,i9,k9⟩ b9 (by walk_at "nm")
 have Gx76:=cC (C:=0) (nr l.prog w mg base F10 Z Gx21 Gx24) rfl ⟨pg0,hd0,po0,sa0⟩ ⟨a10,i10,k10⟩ b10 (by walk_at "nm")
 have Gx77:=cC (C:=0) (pQ l.prog w mg base F11 Z Gx24) rfl ⟨pg0,hd0,po0,sa0⟩ ⟨a11,i11,k11⟩ b11 (by walk_at "nm")
 have Gx78:=cC (C:=0) (qH l.prog w mg base F12 Z Gx71 Gx72) rfl ⟨pg0,hd0,po0,sa0⟩ ⟨a12,i12,k12⟩ b12 (by walk_at "nm")
 have Gx79:=cC (C:=0) (uG l.prog w mg base F13 Z Gx70 Gx22 Gx78) rfl ⟨pg0,hd0,po0,sa0⟩ ⟨a13,i13,k13⟩ b13 (by walk_at "nm")
 have Gx80:=we (C:=1) (qt l.prog w mg base F14 Z) rfl ⟨mk1,a14,i14,kc1⟩ (PySem.W.mg_of X G aC1) b14
 have Gx81:=cC (C:=1) (qK l.prog w mg base F15 Z) rfl ⟨pg1,hd1,po1,sa1⟩ ⟨a15,i15,k15⟩ b15 (by walk_at "nm")
 have Gx82:=cC (C:=1) (qB l.prog w mg base F16 Z) rfl ⟨pg1,hd1,po1,sa1⟩ ⟨a16,i16,k16⟩ b16 (by walk_at "nm")
 have Gx83:=cC (C:=1) (rb l.prog w mg base F17 Z) rfl ⟨pg1,hd1,po1,sa1⟩ ⟨a17,i17,k17⟩ b17 (by walk_at "nm")
 have Gx84:=cC (C:=1) (mF l.prog w mg base F18 Z Gx83) rfl ⟨pg1,hd1,po1,sa1⟩ ⟨a18,i18,k18⟩ b18 (by walk_at "nm")
 have Gx85:=we (C:=2) (u0 l.prog w mg base F19 Z Gx73 Gx80) rfl ⟨mk2,a19,i19,kc2⟩ (PySem.W.mg_of X G aC2) b19
 have Gx6:=cC (C:=2) (pZ l.prog w mg base F20 Z) rfl ⟨pg2,hd2,po2,sa2⟩ ⟨a20,i20,k20⟩ b20 (by walk_at "nm")
 have Gx15:=cC (C:=2) (oz l.prog w mg base F21 Z) rfl ⟨pg2,hd2,po2,sa2⟩ ⟨a21,i21,k21⟩ b21 (by walk_at "nm")
 have Gx7:=cC (C:=2) (uE l.prog w mg base F22 Z) rfl ⟨pg2,hd2,po2,sa2⟩ ⟨a22,i22,k22⟩ b22 (by walk_at "nm")
 have Gx86:=cC (C:=2) (sC l.prog w mg base F23 Z Gx74 Gx6 Gx7) rfl ⟨pg2,hd2,po2,sa2⟩ ⟨a23,i23,k23⟩ b23 (by walk_at "nm")
 have Gx87:=cC (C:=2) (tR l.prog w mg base F24 Z Gx75 Gx6 Gx7) rfl ⟨pg2,hd2,po2,sa2⟩ ⟨a24,i24,k24⟩ b24 (by walk_at "nm")
 have Gx88:=cC (C:=2) (su l.prog w mg base F25 Z Gx76 Gx6 Gx7) rfl ⟨pg2,hd2,po2,sa2⟩ ⟨a25,i25,k25⟩ b25 (by walk_at "nm")
 have Gx89:=cC (C:=2) (rX l.prog w mg base F26 Z Gx77 Gx6) rfl ⟨pg2,hd2,po2,sa2⟩ ⟨a26,i26,k26⟩ b26 (by walk_at "nm")
 have Gx90:=cC (C:=2) (mJ l.prog w mg base F27 Z Gx81 Gx15) rfl ⟨pg2,hd2,po2,sa2⟩ ⟨a27,i27,k27⟩ b27 (by walk_at "nm")
 have Gx91:=cC (C:=2) (mO l.prog w mg base F28 Z Gx82 Gx15) rfl ⟨pg2,hd2,po2,sa2⟩ ⟨a28,i28,k28⟩ b28 (by walk_at "nm")
 have Gx92:=cC (C:=2) (kj l.prog w mg base F29 Z Gx84) rfl ⟨pg2,hd2,po2,sa2⟩ ⟨a29,i29,k29⟩ b29 (by walk_at "nm")
 have Gx93:=cC (C:=2) (kX l.prog w mg base F30 Z Gx79 Gx7) rfl ⟨pg2,hd2,po2,sa2⟩ ⟨a30,i30,k30⟩ b30 (by walk_at "nm")
 have Gx16:=cC (C:=2) (ud l.prog w mg base F31 Z Gx92 Gx93) rfl ⟨pg2,hd2,po2,sa2⟩ ⟨a31,i31,k31⟩ b31 (by walk_at "nm")
 have Gx94:=cC (C:=2) (sA l.prog w mg base F32 Z Gx16) rfl ⟨pg2,hd2,po2,sa2⟩ ⟨a32,i32,k32⟩ b32 (by walk_at "nm")
 have Gx95:=cC (C:=2) (kL l.prog w mg base F33 Z) rfl ⟨pg2,hd2,po2,sa2⟩ ⟨a33,i33,k33⟩ b33 (by walk_at "nm")
 have Gx96:=cC (C:=2) (kK l.prog w mg base F34 Z Gx6 Gx15 Gx16 Gx95) rfl ⟨pg2,hd2,po2,sa2⟩ ⟨a34,i34,k34⟩ b34 (by walk_at "nm")
 have Gx97:=cC (C:=2) (sx l.prog w mg base F35 Z Gx16) rfl ⟨pg2,hd2,po2,sa2⟩ ⟨a35,i35,k35⟩ b35 (by walk_at "nm")
 have Gx98:=we (C:=3) (uJ l.prog w mg base F36 Z) rfl ⟨mk3,a36,i36,kc3⟩ (PySem.W.mg_of X G aC3) b36
 have Gx99:=cC (C:=3) (uQ l.prog w mg base F37 Z) rfl ⟨pg3,hd3,po3,sa3⟩ ⟨a37,i37,k37⟩ b37 (by walk_at "nm")
 have Gx100:=we (C:=4) (rV l.prog w mg base F38 Z Gx85) rfl ⟨mk4,a38,i38,kc4⟩ (PySem.W.mg_of X G aC4) b38
 have Gx101:=cC (C:=4) (nz l.prog w mg base F39 Z Gx98) rfl ⟨pg4,hd4,po4,sa4⟩ ⟨a39,i39,k39⟩ b39 (by walk_at "nm")
 have Gx102:=cC (C:=4) (oP l.prog w mg base F40 Z) rfl ⟨pg4,hd4,po4,sa4⟩ ⟨a40,i40,k40⟩ b40 (by walk_at "nm")
 have Gx103:=cC (C:=4) (ni l.prog w mg base F41 Z Gx102) rfl ⟨pg4,hd4,po4,sa4⟩ ⟨a41,i41,k41⟩ b41 (by walk_at "nm")
 have Gx104:=cC (C:=4) (sj l.prog w mg base F42 Z Gx86 Gx87 Gx88 Gx89 Gx90 Gx91 Gx94 Gx96 Gx97 Gx101 Gx103) rfl ⟨pg4,hd4,po4,sa4⟩ ⟨a42,i42,k42⟩ b42 (by walk_at "nm")
 have Gx105:=cC (C:=4) (jK l.prog w mg base F43 Z Gx104) rfl ⟨pg4,hd4,po4,sa4⟩ ⟨a43,i43,k43⟩ b43 (by walk_at "nm")
 have Gx106:=cC (C:=4) (kO l.prog w mg base F44 Z) rfl ⟨pg4,hd4,po4,sa4⟩ ⟨a44,i44,k44⟩ b44 (by walk_at "nm")
 have Gx107:=cC (C:=4) (pU l.prog w mg base F45 Z Gx105 Gx106) rfl ⟨pg4,hd4,po4,sa4⟩ ⟨a45,i45,k45⟩ b45 (by walk_at "nm")
 have Gx108:=ix (ur l.prog w mg base F46 Z Gx99 Gx100 Gx107) F46 (PySem.W.mg_of X G a46) b46
 have Gx17:=ix (Au l.prog w mg base F47 Z) F47 (PySem.W.mg_of X G a47) b47
 have Gx109:=ix (GJ l.prog w mg base F48 Z) F48 (PySem.W.mg_of X G a48) b48
 have Gx110:=ix (vR l.prog w mg base F49 Z) F49 (PySem.W.mg_of X G a49) b49
 have Gx111:=ix (xu l.prog w mg base F50 Z Gx110) F50 (PySem.W.mg_of X G a50) b50
 have Gx112:=ix (xH l.prog w mg base F51 Z) F51 (PySem.W.mg_of X G a51) b51
 have Gx113:=ix (Ai l.prog w mg base F52 Z Gx111 Gx112) F52 (PySem.W.mg_of X G a52) b52
 have Gx25:=ix (wd l.prog w mg base F53 Z Gx17) F53 (PySem.W.mg_of X G a53) b53
 have Gx114:=ix (xJ l.prog w mg base F54 Z Gx17 Gx25) F54 (PySem.W.mg_of X G a54) b54
 have Gx115:=ix (xo l.prog w mg base F55 Z Gx17) F55 (PySem.W.mg_of X G a55) b55
 have Gx116:=ix (uk l.prog w mg base F56 Z Gx25 Gx114 Gx115) F56 (PySem.W.mg_of X G a56) b56
 have Gx117:=ix (vP l.prog w mg base F57 Z Gx108 Gx116) F57 (PySem.W.mg_of X G a57) b57
 have Gx118:=ix (zy l.prog w mg base F58 Z) F58 (PySem.W.mg_of X G a58) b58
 exact Gh _ _ _ _ F59 Z Gx109 Gx113 Gx117 Gx118
theorem walk{l:PySem.W.OpenLaw}{q:Program}{loose:List Str}{XP:(Str->Option Value)->Heap->Prop}{YP:World->Heap->Prop}{d:DefRec}{K:Params->PySem.W.Frag}(hn:l.most=some 63)(hdf:d.params.defaults=[])
 (hY:∀(w:World) (h:Heap),YP w h->(K w.params).In h) (hl:∀ns:List Int,ns.length<=63->M3.run (qQ [.ref 0]) [.frz (ns.map M3.D.int)] (fun d _=>d= .bl true) fun _ _=>False)
 (F:∀(w:World) (mg:Str->Option Value) (fa:Addr) (h:Heap),(K w.params).In h->h.Ns mainGlobals mg->mg d.name=some (.ref fa)->
   ∃fd:FuncData,(∀(s:Shared) (u:Value),BindsTo s fd ⟨[u],[]⟩ [("_law_script",u)])/\∃cl,∀base:Heap,(K w.params).In base->base.Ns mainGlobals mg->bo l.prog w (K w.params) mg base CX0 12 fa fd ["_law_script"] (sp3 (TT cl) (K w.params) 1 qQ)):
 PySem.W.WalkO q loose XP YP l.row.toRowW d [] (fun f vs=>PySem.call f vs):=
 L2.Cj (n:=63) (k:=12) (x:="_law_script") (CX:=fun _=>CX0) (sp:=fun w=>AQ nmF (K w.params) 1 qQ) hn (by decide) hdf ⟨rfl,by decide,by decide⟩ hY (fun w mg fa h a b c=>let ⟨fd,h1,cl,h2⟩:=F w mg fa h a b c;⟨fd,h1,fun base h3 h4=>ER (h2 base h3 h4)⟩) (fun _ _ a ns h1 h2 h3=>Dr hl h1 h2 h3) fun _ _ _ _ _ z=>z
end LK
open PySem PySem.W PyProof.Rows
namespace PySem.W.Fast
def tw10875763986969741569:=0
def tw9766240056180484166:=0
def tw11063305102450133642:=0
def tw17881036846546178489:=0
def tw3906614449696125204:=0
def tw16561933089854238023:=0
def tw7670934144483990995:=0
def tw3126140424615120493:=0
def tw7169455276577847412:=0
def tw17765724004859053072:=0
def tw3284937080943033404:=0
def tw786564623176668658:=0
def tw13361593055021748918:=0
def tw15265961181412336009:=0
def tw9526675437228860399:=0
def tw8294992630354089313:=0
def tw617789781693179902:=0
def tw2340149861313913745:=0
def tw7191023761258203613:=0
def tw17188487215085789329:=0
def tw2109857527918197801:=0
def tw988835448329567343:=0
def tw15999625641413207725:=0
def tw9665782393636069339:=0
def tw7545971790147171525:=0
def tw7444572076321718071:=0
end PySem.W.Fast
set_option maxRecDepth 100000 in
set_option maxHeartbeats 0 in
theorem PySem.Challenge.cw_halfask_k06_whole_without_half_holds : PySem.Challenge.rw_halfask_k06_whole_without_half.Holds := by
 w_on;o_law;k_head;(case hw=>w_witness2)
 k_fill
 refine LK.walk (l:=PySem.Challenge.rw_halfask_k06_whole_without_half) rfl rfl (fun w h Y=>PySem.W.kIn_of Y) KS.Ae ?F
 case F=>
  intro w mg fa h KX G hmg
  refine' LK.all_mk KX G hmg ?g_BEGINNING ?aC0 ?pg0 ?hd0 ?po0 ?sa0 ?mk0 ?kc0 ?na0 ?aC1 ?pg1 ?hd1 ?po1 ?sa1 ?mk1 ?kc1 ?na1 ?aC2 ?pg2 ?hd2 ?po2 ?sa2 ?mk2 ?kc2 ?na2 ?aC3 ?pg3 ?hd3 ?po3 ?sa3 ?mk3 ?kc3 ?na3 ?aC4 ?pg4 ?hd4 ?po4 ?sa4 ?mk4 ?kc4 ?na4 ?aX0 ?ei0 ?aX1 ?ei1 ?aX2 ?ei2 ?aX3 ?ei3 ?aX4 ?ei4 ?aX5 ?ei5 ?em1 ?em2 ?em3 ?em4 ?em5 ?a0 ?l0 ?c0 ?k0 ?a1 ?l1 ?c1 ?k1 ?a2 ?l2 ?c2 ?k2 ?a3 ?l3 ?c3 ?k3 ?i3 ?a4 ?l4 ?c4 ?k4 ?i4 ?a5 ?l5 ?c5 ?k5 ?i5 ?a6 ?l6 ?c6 ?k6 ?i6 ?a7 ?l7 ?c7 ?k7 ?i7 ?a8 ?l8 ?c8 ?k8 ?i8 ?a9 ?l9 ?c9 ?k9 ?i9 ?a10 ?l10 ?c10 ?k10 ?i10 ?a11 ?l11 ?c11 ?k11 ?i11 ?a12 ?l12 ?c12 ?k12 ?i12 ?a13 ?l13 ?c13 ?k13 ?i13 ?a14 ?l14 ?c14 ?k14 ?i14 ?a15 ?l15 ?c15 ?k15 ?i15 ?a16 ?l16 ?c16 ?k16 ?i16 ?a17 ?l17 ?c17 ?k17 ?i17 ?a18 ?l18 ?c18 ?k18 ?i18 ?a19 ?l19 ?c19 ?k19 ?i19 ?a20 ?l20 ?c20 ?k20 ?i20 ?a21 ?l21 ?c21 ?k21 ?i21 ?a22 ?l22 ?c22 ?k22 ?i22 ?a23 ?l23 ?c23 ?k23 ?i23 ?a24 ?l24 ?c24 ?k24 ?i24 ?a25 ?l25 ?c25 ?k25 ?i25 ?a26 ?l26 ?c26 ?k26 ?i26 ?a27 ?l27 ?c27 ?k27 ?i27 ?a28 ?l28 ?c28 ?k28 ?i28 ?a29 ?l29 ?c29 ?k29 ?i29 ?a30 ?l30 ?c30 ?k30 ?i30 ?a31 ?l31 ?c31 ?k31 ?i31 ?a32 ?l32 ?c32 ?k32 ?i32 ?a33 ?l33 ?c33 ?k33 ?i33 ?a34 ?l34 ?c34 ?k34 ?i34 ?a35 ?l35 ?c35 ?k35 ?i35 ?a36 ?l36 ?c36 ?k36 ?i36 ?a37 ?l37 ?c37 ?k37 ?i37 ?a38 ?l38 ?c38 ?k38 ?i38 ?a39 ?l39 ?c39 ?k39 ?i39 ?a40 ?l40 ?c40 ?k40 ?i40 ?a41 ?l41 ?c41 ?k41 ?i41 ?a42 ?l42 ?c42 ?k42 ?i42 ?a43 ?l43 ?c43 ?k43 ?i43 ?a44 ?l44 ?c44 ?k44 ?i44 ?a45 ?l45 ?c45 ?k45 ?i45 ?a46 ?l46 ?c46 ?k46 ?a47 ?l47 ?c47 ?k47 ?a48 ?l48 ?c48 ?k48 ?a49 ?l49 ?c49 ?k49 ?a50 ?l50 ?c50 ?k50 ?a51 ?l51 ?c51 ?k51 ?a52 ?l52 ?c52 ?k52 ?a53 ?l53 ?c53 ?k53 ?a54 ?l54 ?c54 ?k54 ?a55 ?l55 ?c55 ?k55 ?a56 ?l56 ?c56 ?k56 ?a57 ?l57 ?c57 ?k57 ?a58 ?l58 ?c58 ?k58 ?a59 ?l59 ?c59 ?k59 ?z_max ?z_range ?z_list ?z_len ?z_enumerate ?z_int ?z_isinstance ?z_bool ?z_tuple ?z_str ?l_BEGINNING_1 ?l_BEGINNING
  (case g_BEGINNING |l_BEGINNING |l_BEGINNING_1 |aC0 |pg0 |hd0 |po0 |sa0 |mk0 |kc0=>k_is)
  (case na0=>kernel_rfl)
  (case aC1 |pg1 |hd1 |po1 |sa1 |mk1 |kc1=>k_is)
  (case na1=>kernel_rfl)
  (case aC2 |pg2 |hd2 |po2 |sa2 |mk2 |kc2=>k_is)
  (case na2=>kernel_rfl)
  (case aC3 |pg3 |hd3 |po3 |sa3 |mk3 |kc3=>k_is)
  (case na3=>kernel_rfl)
  (case aC4 |pg4 |hd4 |po4 |sa4 |mk4 |kc4=>k_is)
  (case na4=>kernel_rfl)
  (case aX0=>k_is)
  (case ei0=>kernel_rfl)
  (case aX1=>k_is)
  (case ei1=>kernel_rfl)
  (case aX2=>k_is)
  (case ei2=>kernel_rfl)
  (case aX3=>k_is)
  (case ei3=>kernel_rfl)
  (case aX4=>k_is)
  (case ei4=>kernel_rfl)
  (case aX5=>k_is)
  (case ei5=>kernel_rfl)
  (case em1=>kernel_rfl)
  (case em2=>kernel_rfl)
  (case em3=>kernel_rfl)
  (case em4=>kernel_rfl)
  (case em5=>kernel_rfl)
  (case a0 |l0 |c0 |k0 |a1 |l1 |c1 |k1 |a2 |l2 |c2 |k2 |a3 |l3 |c3 |k3 |i3 |a4 |l4 |c4 |k4 |i4 |a5 |l5 |c5 |k5 |i5 |a6 |l6 |c6 |k6 |i6 |a7 |l7 |c7 |k7 |i7 |a8 |l8 |c8 |k8 |i8 |a9 |l9 |c9 |k9 |i9 |a10 |l10 |c10 |k10 |i10 |a11 |l11 |c11 |k11 |i11 |a12 |l12 |c12 |k12 |i12 |a13 |l13 |c13 |k13 |i13 |a14 |l14 |c14 |k14 |i14 |a15 |l15 |c15 |k15 |i15 |a16 |l16 |c16 |k16 |i16 |a17 |l17 |c17 |k17 |i17 |a18 |l18 |c18 |k18 |i18 |a19 |l19 |c19 |k19 |i19 |a20 |l20 |c20 |k20 |i20 |a21 |l21 |c21 |k21 |i21 |a22 |l22 |c22 |k22 |i22 |a23 |l23 |c23 |k23 |i23 |a24 |l24 |c24 |k24 |i24 |a25 |l25 |c25 |k25 |i25 |a26 |l26 |c26 |k26 |i26 |a27 |l27 |c27 |k27 |i27 |a28 |l28 |c28 |k28 |i28 |a29 |l29 |c29 |k29 |i29 |a30 |l30 |c30 |k30 |i30 |a31 |l31 |c31 |k31 |i31 |a32 |l32 |c32 |k32 |i32 |a33 |l33 |c33 |k33 |i33 |a34 |l34 |c34 |k34 |i34 |a35 |l35 |c35 |k35 |i35 |a36 |l36 |c36 |k36 |i36 |a37 |l37 |c37 |k37 |i37 |a38 |l38 |c38 |k38 |i38 |a39 |l39 |c39 |k39 |i39 |a40 |l40 |c40 |k40 |i40 |a41 |l41 |c41 |k41 |i41 |a42 |l42 |c42 |k42 |i42 |a43 |l43 |c43 |k43 |i43 |a44 |l44 |c44 |k44 |i44 |a45 |l45 |c45 |k45 |i45 |a46 |l46 |c46 |k46 |a47 |l47 |c47 |k47 |a48 |l48 |c48 |k48 |a49 |l49 |c49 |k49 |a50 |l50 |c50 |k50 |a51 |l51 |c51 |k51 |a52 |l52 |c52 |k52 |a53 |l53 |c53 |k53 |a54 |l54 |c54 |k54 |a55 |l55 |c55 |k55 |a56 |l56 |c56 |k56 |a57 |l57 |c57 |k57 |a58 |l58 |c58 |k58 |a59 |l59 |c59 |k59 |z_max |z_range |z_list |z_len |z_enumerate |z_int |z_isinstance |z_bool |z_tuple |z_str=>k_is)
