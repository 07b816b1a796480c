import PyProof.Rows.All
import Wide.All
import OpenK.AllK
import Wide.FinOn
import Lean
import PyProof.EqAt
import PyProof.EqKinds
import PyProof.NeKinds
import PyProof.TupleCall
import PyProof.ExcBaseAll.ValueError
import KE.KDictList
import KE.KTryMore
import PyProof.EnumMake
import PyProof.Rows.EnumRows
import PyProof.Rows.FactsT2
import KE.KRevIter
import PyProof.DictItems
import PyProof.FactsAll.dict_3
import PyProof.FactsAll.dict_itemiterator_1
import OpenK.KOwn
import PyProof.StrBlock2
import KE.IntText
import PyProof.Rows.TupDisplay
import PySem.Challenge.RW_halfask_k07_plain_story
set_option Elab.async false
set_option linter.all false
set_option maxRecDepth 100000
set_option maxHeartbeats 4000000
def qA_:=@List.getElem?_eq_getElem
def qB_:=@List.getElem?_eq_some_iff
def qC_:=@Bool.false_ne_true
def qD_:=@List.mem_of_getElem?
def qE_:=@List.mem_append_right
def qF_:=@List.mem_append_left
def qG_:=@List.mem_append
def qH_:=@List.mem_map
def qI_:=@List.mem_cons_self
def qJ_:=@List.getElem?_set
def qK_:=@List.getElem?_append_left
def qM_:=@List.length_map
def qN_:=@List.length_append
def qO_:=@Nat.le_refl
def qP_:=@Nat.le_of_ble_eq_true
def qQ_:=@List.getElem?_map
def qR_:=@List.mem_cons_of_mem
def qS_:=@List.mem_cons
def qT_:=@List.map_append
def qU_:=@List.getElem?_set_self
def qV_:=@List.getElem?_set_ne
def qW_:=@List.size_toArray
def qX_:=@List.length_set
def qY_:=@List.append_nil
def qZ_:=@decide_eq_true
def qa_:=@decide_eq_false
def qb_:=@List.map_map
def qc_:=@List.nil_append
def qd_:=@Nat.lt_of_lt_of_le
def qe_:=@Nat.lt_irrefl
def qf_:=@Nat.zero_le
namespace L2
open PySem PySem.Spec PyProof.Rows
abbrev Key:=Sum Int Str
def pV:Key->Value->Bool
 | .inl k,v=>Value.isInt k v
 | .inr x,v=>Value.isStrOf x v
def Pu(w:World):Key->Int
 | .inl k=>hashInt k
 | .inr x=>hashStr w x
def bN:∀{k:Key} {v:Value},pV k v=true->(∃i t,k=Sum.inl i/\v=Value.int i t)\/(∃x t,k=Sum.inr x/\v=Value.str x t)
 | .inl i,v,h=>by
   obtain⟨t,e⟩:=Value.isInt_shape (k:=i) (v:=v) h;exact .inl ⟨i,t,rfl,e⟩
 | .inr x,v,h=>by
   obtain⟨t,e⟩:=Value.isStrOf_shape (x:=x) (v:=v) h;exact .inr ⟨x,t,rfl,e⟩
def BC(i:Int)(t:Tok):pV (.inl i) (.int i t)=true:=by simp [pV,Value.isInt]
def Bf(x:Str)(t:Tok):pV (.inr x) (.str x t)=true:=by simp [pV,Value.isStrOf]
def KR(a b:Int):decide ((Sum.inl a:Key)=Sum.inl b)=(a==b):=by
 by_cases e:a=b
 · subst e;simp
 · have h:¬(Sum.inl a:Key)=Sum.inl b:=fun q=>e (Sum.inl.inj q);rw[qa_ h];exact(beq_eq_false_iff_ne.mpr e).symm
def Ke(a b:Str):decide ((Sum.inr a:Key)=Sum.inr b)=decide (a=b):=by
 by_cases e:a=b
 · subst e;simp
 · have h:¬(Sum.inr a:Key)=Sum.inr b:=fun q=>e (Sum.inr.inj q);rw[qa_ h,qa_ e]
def JO(a:Int)(b:Str):decide ((Sum.inl a:Key)=Sum.inr b)=false:=qa_ (fun q=>nomatch q)
def JU(a:Str)(b:Int):decide ((Sum.inr a:Key)=Sum.inl b)=false:=qa_ (fun q=>nomatch q)
def bx(prog:Program)(w:World):PySem.KeyKind prog w Key where
 is:=pV
 hash:=Pu w
 inj:=fun v a b ha hb=>by
  rcases bN ha with ⟨i,t,rfl,rfl⟩ |⟨x,t,rfl,rfl⟩
  · rcases bN hb with ⟨j,u,rfl,e⟩ |⟨y,u,rfl,e⟩
    · injection e with e1 _;rw[e1]
    · exact nomatch e
  · rcases bN hb with ⟨j,u,rfl,e⟩ |⟨y,u,rfl,e⟩
    · exact nomatch e
    · injection e with e1 _;rw[e1]
 byValue:=fun k v h=>by
  rcases bN h with ⟨i,t,rfl,rfl⟩ |⟨x,t,rfl,rfl⟩ <;> rfl
 pyHash:=fun hv h=>by
  rcases bN hv with ⟨i,t,rfl,rfl⟩ |⟨x,t,rfl,rfl⟩
  · exact wpAny_pyHash_int h
  · exact wpAny_pyHash_str h
 eqBool:=fun hu hv h=>by
  rcases bN hu with ⟨i,t,rfl,rfl⟩ |⟨x,t,rfl,rfl⟩
  · rcases bN hv with ⟨j,u,rfl,rfl⟩ |⟨y,u,rfl,rfl⟩
    · rw[KR]at h;exact wpAny_eqBool_int h
    · rw[JO]at h;exact SeqAt.EqAt.int_str i t y u _ _ _ _ h
  · rcases bN hv with ⟨j,u,rfl,rfl⟩ |⟨y,u,rfl,rfl⟩
    · rw[JU]at h;exact SeqAt.EqAt.str_int x t j u _ _ _ _ h
    · rw[Ke]at h;exact wpAny_eqBool_str h
 «strs»:=fun k x t v h=>by
  rcases bN h with ⟨i,u,rfl,e⟩ |⟨y,u,rfl,e⟩
  · exact nomatch e
  · injection e with e1 _
    subst e1;cases v <;> rfl
def xb(prog:Program)(w:World)(i:Int)(t:Tok):(bx prog w).is (.inl i) (.int i t)=true:=BC i t
def xP(prog:Program)(w:World)(x:Str)(t:Tok):(bx prog w).is (.inr x) (.str x t)=true:=Bf x t
inductive V where
 |non |bl (b:Bool) |int (i:Int) |str (x:Str) |byt (b:Array UInt8) |flt (b:UInt64) |ref (a:Addr) |ty (n:String)
 deriving DecidableEq
def RelV:V->Value->Prop
 | .non,u=>u=Value.none
 | .bl b,u=>u=Value.bool b
 | .int i,u=>∃t,u=Value.int i t
 | .str x,u=>∃t,u=Value.str x t
 | .byt b,u=>∃t,u=Value.bytes b t
 | .flt b,u=>∃t,u=Value.float b t
 | .ref a,u=>u=Value.ref a
 | .ty n,u=>u=Value.type n
abbrev Vals:List V->List Value->Prop:=Paired RelV
theorem Vals.length{xs:List V}{us:List Value}(r:Vals xs us):xs.length=us.length:=Paired.length r
theorem Vals.get:∀{xs:List V} {us:List Value} {i:Nat} {x:V},Vals xs us->xs[i]? =some x->∃u,us[i]? =some u/\RelV x u
 |_,_,_,_,.nil,e=>by simp at e
 |_,_,0,_,.cons r _,e=>by simp at e;subst e;exact⟨_,rfl,r⟩
 |_,_,i+1,x,.cons _ t,e=>by
  obtain⟨u,h1,h2⟩:=Vals.get (i:=i) (x:=x) t (by simpa using e);exact⟨u,by simpa using h1,h2⟩
theorem Vals.set{x:V}{u:Value}(r:RelV x u):∀{xs:List V} {us:List Value} (i:Nat),Vals xs us->Vals (xs.set i x) (us.set i u)
 |_,_,_,.nil=>.nil
 |_,_,0,.cons _ t=>.cons r t
 |_,_,i+1,.cons q t=>.cons q (Vals.set r i t)
theorem Vals.append:∀{xs ys:List V} {us ws:List Value},Vals xs us->Vals ys ws->Vals (xs++ys) (us++ws)
 |_,_,_,_,.nil,s=>s
 |_,_,_,_,.cons r t,s=>.cons r (Vals.append t s)
theorem Vals.take:∀{xs:List V} {us:List Value} (n:Nat),Vals xs us->Vals (xs.take n) (us.take n)
 |_,_,0,_=>.nil
 |_,_,_+1,.nil=>.nil
 |_,_,n+1,.cons r t=>.cons r (Vals.take n t)
theorem Vals.drop:∀{xs:List V} {us:List Value} (n:Nat),Vals xs us->Vals (xs.drop n) (us.drop n)
 |_,_,0,r=>r
 |_,_,_+1,.nil=>.nil
 |_,_,n+1,.cons _ t=>Vals.drop n t
def mI:Option V->Option Value->Prop
 |some v,some u=>RelV v u
 |none,none=>True
 |_,_=>False
def KV{κ:Type}:List (κ×V)->List (κ×Value)->Prop:=Paired fun(p:κ×V) (q:κ×Value)=>p.1=q.1/\RelV p.2 q.2
def kV:Key->V
 | .inl i=>.int i
 | .inr x=>.str x
inductive HO where
 /-- a list -/
 |lst (xs:List V)
 /-- a tuple (never changes) -/
 |tup (xs:List V)
 /-- a dict whose keys are ints and texts;one whose keys are tuples of ints and texts (the empty one is both) -/
 |dK (kvs:List (Key×V)) |dT (kvs:List (List Key×V))
 /-- a set of ints:aJ members,aJ size -/
 |set (S:Int->Bool) (n:Nat)
 /-- an instance of the class at C,aJ dict at dx,aJ attributes -/
 |ins (C dx:Addr) (fs:List (Str×V))
 /-- the dict of the instance at x -/
 |own (x:Addr)
 /-- the dict of an exception -/
 |xd (fs:List (Str×V))
 /-- a bound method,f of x -/
 |met (f x:Addr)
 /-- a range object lo,lo+1,.. below hi -/
 |rng (lo hi:Int)
 /-- a thing that is known to the object (the script;a dict while a loop walks it):read,never written while it is so -/
 |frz (o:Obj) (u:HO)
 /-- a code object's table -/
 |tbl (ps:Array Value)
 /-- any other thing,by what is true of aJ one object (a def of Ul own:SetO a S n:=HO.ext fun h=>..) -/
 |ext (φ:Heap->Prop)
abbrev Hp:=Addr->Option HO
def upd(H:Hp)(a:Addr)(o:HO):Hp:=fun b=>if b=a then some o else H b
def aH{H:Hp}{a:Addr}{o:HO}:upd H a o a=some o:=by unfold upd;rw[if_pos rfl]
def aI{H:Hp}(h:b≠a):upd H a o b=H b:=by unfold upd;rw[if_neg h]
def Dm{H:Hp}(h:H a=some o)(h':H b=some u)(d:o≠u):a≠b:=by
 intro e;subst e;rw[h]at h';exact d (Option.some.inj h')
def cx{H:Hp}(h:H a=some o)(h':H b=none):a≠b:=by
 intro e;subst e;rw[h]at h';cases h'
section
variable(P:Program)(w:World)
def bO(H:Hp)(h:Heap)(a:Addr):HO->Prop
 | .lst xs=>xs.length<=sizeLine/\∃(aJ:List Value) (n:Nat),Vals xs aJ/\h.get? a=some {cls:= .type "list",data:= .seq aJ.toArray n}
 | .tup xs=>xs.length<=sizeLine/\∃aJ:List Value,Vals xs aJ/\IsTup h a aJ.toArray
 | .dK kvs=>kvs.length<=sizeLine/\(a==sysModules)=false/\∃vs,KV kvs vs/\h.DictOf (bx P w) a vs
 | .dT kvs=>kvs.length<=sizeLine/\(a==sysModules)=false/\∃xs:List (List Key×Addr×Value),
    Paired (fun(p:List Key×V) (q:List Key×Addr×Value)=>p.1=q.1/\H q.2.1=some (.tup (p.1.map kV))/\RelV p.2 q.2.2) kvs xs/\
    ∃o es ep,h.get? a=some o/\o.ExactDict/\o.data= .dict es ep/\es.toList=xs.map (entryOfKey (tupleKind (bx P w)))/\(xs.map (·.1)).Nodup
 | .set S n=>h.SetOf (intKind P w) a S n
 | .ins C dx fs=>H dx=some (.own a)/\fs.length<=1000/\dx≠a/\h.get? a=some (PySem.W.instObj C dx)/\
    ∃mA,h.Ns1 dx mA/\(∀f,mI (fs.lookup f) (mA f))/\PySem.Within mA (fs.map (·.1))
 | .own _=>∃o,h.get? a=some o
 | .xd fs=>∃mA,h.Ns1 a mA/\∀f,mI (fs.lookup f) (mA f)
 | .rng lo hi=>∃t u v,h.get? a=some {cls:= .type "range",data:= .fields #[.int lo t,.int hi u,.int 1 v]}
 | .frz o u=>h.get? a=some o/\bO H h a u
 | .tbl ps=>h.get? a=some {cls:= .none,data:= .fields ps}
 | .met f x=>h.get? a=some (PySem.W.methodObj (.ref f) (.ref x))
 | .ext φ=>φ h/\(∃o,h.get? a=some o)/\∀h1 h2:Heap,φ h1->(∀o,h1.get? a=some o->h2.get? a=some o)->φ h2
def HOk(H:Hp)(h:Heap):Prop:=∀a o,H a=some o->bO P w H h a o
end
section
variable{P:Program}{w:World}{H H':Hp}{h h':Heap}{a:Addr}{o:HO}
theorem bO.lt(x:bO P w H h a o):a < h.objs.size:=by
 cases o with
 |lst xs=>obtain⟨_,_,_,_,e⟩:=x;exact Heap.lt_size e
 |tup xs=>obtain⟨_,_,_,p⟩:=x;exact p.lt
 |dK kvs=>obtain⟨_,_,_,_,o,_,_,e,_⟩:=x;exact Heap.lt_size e
 |dT kvs=>obtain⟨_,_,_,_,o,_,_,e,_⟩:=x;exact Heap.lt_size e
 |set S n=>obtain⟨o,_,_,_,e,_⟩:=x;exact Heap.lt_size e
 |ins C dx fs=>obtain⟨_,_,_,e,_⟩:=x;exact Heap.lt_size e
 |own y=>obtain⟨_,e⟩:=x;exact Heap.lt_size e
 |xd fs=>obtain⟨_,⟨_,_,_,e,_⟩,_⟩:=x;exact Heap.lt_size e
 |rng lo hi=>obtain⟨_,_,_,e⟩:=x;exact Heap.lt_size e
 |frz ob u=>obtain⟨e,_⟩:=x;exact Heap.lt_size e
 |tbl ps=>exact Heap.lt_size (show h.get? a=some _ from x)
 |met f y=>exact Heap.lt_size (show h.get? a=some _ from x)
 |ext φ=>obtain⟨_,⟨_,e⟩,_⟩:=x;exact Heap.lt_size e
theorem Paired.GL{α β:Type}{F G:α->β->Prop}:∀{l₁:List α} {l₂:List β},Paired F l₁ l₂->(∀a b,F a b->G a b)->Paired G l₁ l₂
 |_,_,.nil,_=>.nil
 |_,_,.cons r t,f=>.cons (f _ _ r) (Paired.GL t f)
def Paired.imp'{α β:Type}{F G:α->β->Prop}(f:∀a b,F a b->G a b){l₁:List α}{l₂:List β}(r:Paired F l₁ l₂):Paired G l₁ l₂:=Paired.GL r f
def bO.jV(x:bO P w H h a o)(k:∀b u,(b=a\/H b=some (.own a))->h.get? b=some u->h'.get? b=some u)
 (ho:∀b,H b=some (.own a)->H' b=some (.own a)) (ht:∀b xs,H b=some (.tup xs)->H' b=some (.tup xs)):bO P w H' h' a o:=by
 induction o with
 |lst xs=>obtain⟨z,aJ,n,r,e⟩:=x;exact⟨z,aJ,n,r,k _ _ (.inl rfl) e⟩
 |tup xs=>obtain⟨z,aJ,r,ob,e,c⟩:=x;exact⟨z,aJ,r,ob,k _ _ (.inl rfl) e,c⟩
 |dK kvs=>obtain⟨z,y,vs,r,ob,es,ep,e,c⟩:=x;exact⟨z,y,vs,r,ob,es,ep,k _ _ (.inl rfl) e,c⟩
 |dT kvs=>obtain⟨z,y,xs,r,ob,es,ep,e,c⟩:=x;exact⟨z,y,xs,Paired.GL r fun p q z=>⟨z.1,ht _ _ z.2.1,z.2.2⟩,ob,es,ep,k _ _ (.inl rfl) e,c⟩
 |set S n=>obtain⟨ob,es,ep,t,e,c⟩:=x;exact⟨ob,es,ep,t,k _ _ (.inl rfl) e,c⟩
 |ins C dx fs=>obtain⟨d,z,ne,e,mA,⟨od,es,ep,e2,c⟩,r⟩:=x;exact⟨ho _ d,z,ne,k _ _ (.inl rfl) e,mA,⟨od,es,ep,k _ _ (.inr d) e2,c⟩,r⟩
 |own y=>obtain⟨ob,e⟩:=x;exact⟨ob,k _ _ (.inl rfl) e⟩
 |xd fs=>obtain⟨mA,⟨od,es,ep,e,c⟩,r⟩:=x;exact⟨mA,⟨od,es,ep,k _ _ (.inl rfl) e,c⟩,r⟩
 |rng lo hi=>obtain⟨t,u,v,e⟩:=x;exact⟨t,u,v,k _ _ (.inl rfl) e⟩
 |frz ob u ih=>obtain⟨e,q⟩:=x;exact⟨k _ _ (.inl rfl) e,ih q⟩
 |tbl ps=>have e:h.get? a=some {cls:= .none,data:= .fields ps}:=x;show h'.get? a=some {cls:= .none,data:= .fields ps};exact k a _ (.inl rfl) e
 |met f y=>have e:h.get? a=some (PySem.W.methodObj (.ref f) (.ref y)):=x;show h'.get? a=some (PySem.W.methodObj (.ref f) (.ref y));exact k a _ (.inl rfl) e
 |ext φ=>obtain⟨p,⟨o,e⟩,st⟩:=x;exact⟨st _ _ p fun o q=>k _ _ (.inl rfl) q,⟨o,k _ _ (.inl rfl) e⟩,st⟩
theorem HOk.lt(x:HOk P w H h)(e:H a=some o):a < h.objs.size:=(x a o e).lt
def HOk.fresh(x:HOk P w H h)(e:h.objs.size<=a):H a=none:=by
 cases q:H a with
 |none=>rfl
 |some u=>exact absurd (qd_ (x.lt q) e) (qe_ _)
def HOk.kept(x:HOk P w H h)(k:∀b u,h.get? b=some u->h'.get? b=some u):HOk P w H h':=fun a o e=>
 (x a o e).jV (fun b u _ q=>k b u q) (fun _ q=>q) fun _ _ q=>q
def HOk.laid(x:HOk P w H h)(k:∀b u,h.get? b=some u->h'.get? b=some u)(hp:h.objs.size<=a)(new:bO P w (upd H a o) h' a o):HOk P w (upd H a o) h':=fun b u e=>by
 have hn:=x.fresh hp;by_cases hb:b=a
 · subst hb;rw[aH]at e;cases e;exact new
 · rw[aI hb]at e;exact(x b u e).jV (fun c v _ q=>k c v q) (fun c q=>by rw[aI (cx q hn)];exact q) fun c xs q=>by rw[aI (cx q hn)];exact q
end
def Rd(H:Hp)(a:Addr)(u:HO):Prop:=H a=some u\/∃o,H a=some (.frz o u)
def Rd.ok{H:Hp}(r:Rd H a u)(x:HOk P w H h):bO P w H h a u:=by
 rcases r with r |⟨o,r⟩
 · exact x a u r
 · obtain⟨_,q⟩:=x a _ r;exact q
def Mut:Option HO->Prop
 |some (.lst _)=>True
 |some (.dK _)=>True
 |some (.dT _)=>True
 |some (.set _ _)=>True
 |some (.ins _ _ _)=>True
 |some (.ext _)=>True
 |_=>False
section
variable{P:Program}{w:World}{H:Hp}{h h':Heap}{x e:Addr}{o':HO}
def HOk.write(ok:HOk P w H h)(mu:Mut (H x))(he:e=x\/H e=some (.own x))(k:∀b u,b≠e->h.get? b=some u->h'.get? b=some u)(Fe:∃u,h'.get? e=some u)
 (new:bO P w (upd H x o') h' x o'):HOk P w (upd H x o') h':=fun b u q=>by
 have O0:∀c y,H c=some (.own y)->c≠x:=fun c y r z=>by subst z;rw[r]at mu;exact mu
 have RD:∀c xs,H c=some (.tup xs)->c≠x:=fun c xs r z=>by subst z;rw[r]at mu;exact mu
 by_cases hb:b=x
 · subst hb;rw[aH]at q;cases q;exact new
 · rw[aI hb]at q;by_cases hbe:b=e
   · have q':H b=some (.own x):=by
      rcases he with z |z
      · exact absurd (hbe.trans z) hb
      · rw[hbe];exact z
     rw[q]at q';cases q';obtain⟨v,hv⟩:=Fe;exact⟨v,by rw[hbe];exact hv⟩
   · refine(ok b u q).jV (fun c v hc r=>k c v ?_ r) (fun c r=>by rw[aI (O0 c b r)];exact r) fun c xs r=>by rw[aI (RD c xs r)];exact r
     rcases hc with rfl |hc
     · exact hbe
     · rintro rfl;rcases he with z |z
       · exact O0 c b hc z
       · rw[hc]at z;cases z;exact hb rfl
end
structure Un (fs ex:List Addr) (H H':Hp) (h h':Heap):Prop where
 keep:∀b o,h.get? b=some o->H b=none->b∉fs->b∉ex->h'.get? b=some o
 slot:∀b o,h.get? b=some o->H b=none->b∈fs->b∉ex->∃sl,h'.get? b=some {o with slots:=sl}
 free:∀b o,h.get? b=some o->H b=none->b∉ex->H' b=none
 there:∀b o,h.get? b=some o->b∉ex->∃o',h'.get? b=some o'
 sv:∀b xs,H b=some (.tup xs)->H' b=some (.tup xs)
 oV:∀b o u,H b=some (.frz o u)->H' b=some (.frz o u)
 sy:∀b ps,H b=some (.tbl ps)->∃more,H' b=some (.tbl (ps++more))
section
variable{fs WI ex WZ:List Addr}{H H1 H2:Hp}{h h1 h2 h':Heap}{a x e:Addr}{o:HO}
def Un.any(u:Un fs ex H H1 h h1)(q:h.get? b=some ob)(n:H b=none)(hx:b∉ex):∃sl,h1.get? b=some {ob with slots:=sl}:=by
 by_cases hb:b∈fs
 · exact u.slot b ob q n hb hx
 · exact⟨ob.slots,u.keep b ob q n hb hx⟩
def Un.kept(k:∀b u,h.get? b=some u->h'.get? b=some u):Un fs ex H H h h':=
 ⟨fun b ob q _ _ _=>k b ob q,fun b ob q _ _ _=>⟨ob.slots,k b ob q⟩,fun _ _ _ n _=>n,fun b ob q _=>⟨ob,k b ob q⟩,fun _ _ q=>q,fun _ _ _ q=>q,fun _ ps q=>⟨#[],by rw[q];simp⟩⟩
def Un.refl:Un fs ex H H h h:=Un.kept fun _ _ q=>q
def Un.laid(k:∀b u,h.get? b=some u->h'.get? b=some u)(hp:h.objs.size<=a)(hn:H a=none):Un fs ex H (upd H a o) h h' where
 keep:=fun b u q _ _ _=>k b u q
 slot:=fun b u q _ _ _=>⟨u.slots,k b u q⟩
 free:=fun b u q n _=>by rw[aI (Nat.ne_of_lt (qd_ (Heap.lt_size q) hp))];exact n
 there:=fun b u q _=>⟨u,k b u q⟩
 sv:=fun b xs q=>by rw[aI (cx q hn)];exact q
 oV:=fun b u xs q=>by rw[aI (cx q hn)];exact q
 sy:=fun b ps q=>⟨#[],by rw[aI (cx q hn),q];simp⟩
def Un.write(mu:Mut (H x))(he:e=x\/H e=some (.own x))(k:∀b u,b≠e->h.get? b=some u->h'.get? b=some u)(Fe:∃u,h'.get? e=some u):Un fs ex H (upd H x o) h h':=by
 have hx:∀b,H b=none->b≠x:=fun b n z=>by subst z;rw[n]at mu;exact mu
 have hb:∀b,H b=none->b≠e:=fun b n z=>by
  subst z;rcases he with r |r
  · exact hx b n r
  · rw[n]at r;cases r
 have hm:∀b u,H b=some u->¬Mut (some u)->b≠x:=fun b u q nm z=>by subst z;rw[q]at mu;exact nm mu
 refine⟨fun b u q n _ _=>k b u (hb b n) q,fun b u q n _ _=>⟨u.slots,k b u (hb b n) q⟩,fun b u q n _=>by rw[aI (hx b n)];exact n,fun b u q _=>?_,
  fun b xs q=>by rw[aI (hm b _ q fun z=>z)];exact q,fun b u xs q=>by rw[aI (hm b _ q fun z=>z)];exact q,fun b ps q=>⟨#[],by rw[aI (hm b _ q fun z=>z),q];simp⟩⟩
 by_cases hbe:b=e
 · subst hbe;exact Fe
 · exact⟨u,k b u hbe q⟩
end
def trk(h:Heap)(H:Hp):List Addr:=(List.range h.objs.size).filter fun a=>(H a).isSome
def vt(h:Heap)(H:Hp):Heap:=PySem.W.hideAll h (trk h H)
def Bu(h:Heap)(H:Hp):(vt h H).objs.size=h.objs.size:=PySem.W.hideAll_size _ _
def Ct{h:Heap}{H:Hp}(e:h.get? b=some o)(n:H b=none):(vt h H).get? b=some o:=
 PySem.W.hideAll_get _ e fun hm=>by
  have q:(H b).isSome=true:=(List.mem_filter.mp hm).2;rw[n]at q;simp at q
def Gu{h:Heap}{H:Hp}(e:(vt h H).get? b=some o):h.get? b=some o/\H b=none:=by
 have e':h.get? b=some o:=PySem.W.of_hideAll (trk h H) e;refine⟨e',?_⟩;cases q:H b with
 |none=>rfl
 |some x=>have hm:b∈trk h H:=List.mem_filter.mpr ⟨List.mem_range.mpr (Heap.lt_size e'),by simp [q]⟩;have z:(vt h H).get? b=none:=PySem.W.hideAll_none (trk h H) hm;rw[z]at e;cases e
structure Mod (K:PySem.W.Frag) (mg:Str->Option Value) (base:Heap):Prop where
 kin:K.In base
 glob:base.Ns mainGlobals mg
 blt:∃mb,base.Ns builtinsNs mb/\∀x:Str,x≠"__name__"->mb x=bootBuiltins x
 nolimit:base.NoLimit
structure Cx where
 prog:Program
 w:World
 K:PySem.W.Frag
 mg:Str->Option Value
 base:Heap
 A:Around
 N:List Str
 s₀:Shared
 H₀:Hp
 env:Env
 outer:List Env
 stack:List Env
 ex:List Addr
 fn:Str->Bool
 calm:Bool
 pn:List (Addr×Obj)
 xe:Value->Shared->Prop
def frs(l:List Env):List Addr:=l.filterMap (·.frame)
abbrev Cx.fs(X:Cx):List Addr:=frs X.outer
def Vis(sc:Scope)(x:Str):Prop:=sc.names.lookup x=some .local\/sc.names.lookup x=some .cell\/sc.names.lookup x=some .free
def Loc(sc:Scope)(x:Str):Prop:=sc.names.lookup x=some .local\/sc.names.lookup x=some .cell
def Look(env:Env)(h:Heap)(m:Str->Option Value)(x:Str)(u:Value):Prop:=
 (env.kindOf x=some .local/\m x=some u)\/((env.kindOf x=some .cell\/env.kindOf x=some .free)/\∃c,env.cells.lookup x=some c/\h.IsCell c (some u))
structure Cx.Ok (X:Cx):Prop where
 mod:Mod X.K X.mg X.base
 kind:X.env.scope.kind= .function
 glob:X.env.globals=mainGlobals
 blt:X.env.builtins=builtinsNs
 above:X.s₀.heap.objs.size<=X.env.locals
 inj:∀x y c,X.env.cells.lookup x=some c->X.env.cells.lookup y=some c->x=y
 has:∀x,(X.env.kindOf x=some .cell\/X.env.kindOf x=some .free)->∃c,X.env.cells.lookup x=some c
 cab:∀x c,X.fn x=true->X.env.cells.lookup x=some c->X.s₀.heap.objs.size<=c
 hd:X.calm=true->X.A.handled=none
 frames:X.A.frames=some X.stack
 stk:X.stack=X.outer\/(X.stack=X.env :: X.outer/\X.env.frame=some X.env.locals)
 exf:∀b∈X.ex,b≠X.env.locals/\∀x c,X.env.cells.lookup x=some c->c≠b
 bs:∀b o,X.base.get? b=some o->X.s₀.heap.get? b=some o/\X.H₀ b=none
 bsz:X.base.objs.size<=X.s₀.heap.objs.size
 zD:∀b o,X.base.get? b=some o->b∉X.ex
 AM:∀b∈X.ex,b∉X.fs
 nQ:X.s₀.heap.FunFrames X.base X.outer
 frf:∀b∈X.fs,X.H₀ b=none
structure Inv (X:Cx) (pins:List (Addr×Obj)) (σ:List (Option V)) (H:Hp) (s:Shared):Prop where
 ok:X.Ok
 os:s.os=X.s₀.os
 bare:AllBare s.gens
 base:Un X.fs X.ex X.H₀ H X.s₀.heap s.heap
 loc:∃m,s.heap.Ns X.env.locals m/\∀(i:Nat) (x:Str) (v:V),X.N[i]? =some x->σ[i]? =some (some v)->Vis X.env.scope x->∃u,RelV v u/\Look X.env s.heap m x u
 cell:∀x c,X.env.cells.lookup x=some c->∃v,s.heap.IsCell c v
 free:H X.env.locals=none
 gI:∀x c,X.env.cells.lookup x=some c->H c=none
 pin:∀p∈X.pn++pins,s.heap.get? p.1=some p.2/\H p.1=none/\p.1≠X.env.locals/\p.1∉X.fs/\∀v,p.2.data≠.cell v
 hok:HOk X.prog X.w H s.heap
 len:σ.length=X.N.length
section
variable{X:Cx}{pins:List (Addr×Obj)}{σ:List (Option V)}{H H':Hp}{s:Shared}{h':Heap}
def Cx.Ok.Qb(ok:X.Ok)(e:X.base.get? b=some o):b∉X.fs:=fun hb=>by
 have:=(ok.nQ.mem hb).1;rw[e]at this;cases this
theorem Inv.bs(I:Inv X pins σ H s):∀b o,X.base.get? b=some o->s.heap.get? b=some o/\H b=none:=fun b o e=>
 ⟨I.base.keep b o (I.ok.bs b o e).1 (I.ok.bs b o e).2 (I.ok.Qb e) (I.ok.zD b o e),I.base.free b o (I.ok.bs b o e).1 (I.ok.bs b o e).2 (I.ok.zD b o e)⟩
def Inv.bk(I:Inv X pins σ H s):∀b o,X.base.get? b=some o->s.heap.get? b=some o:=fun b o e=>(I.bs b o e).1
theorem Inv.mod(I:Inv X pins σ H s):Mod X.K X.mg X.base:=I.ok.mod
def Inv.kIn(I:Inv X pins σ H s):X.K.In s.heap:=I.ok.mod.kin.keeps I.bk
theorem Inv.lt(I:Inv X pins σ H s):X.env.locals < s.heap.objs.size:=let ⟨_,hn,_⟩:=I.loc;hn.lt
def Inv.sz(I:Inv X pins σ H s):X.s₀.heap.objs.size<=s.heap.objs.size:=Nat.le_trans I.ok.above (Nat.le_of_lt I.lt)
def Inv.P4(I:Inv X pins σ H s)(h:s.heap.objs.size<=a):a∉X.fs:=fun hb=>by
 obtain⟨_,o,ho,_⟩:=I.ok.nQ.mem hb;exact absurd (qd_ (Heap.lt_size ho) (Nat.le_trans I.sz h)) (qe_ _)
def Inv.cne(I:Inv X pins σ H s):∀x c,X.env.cells.lookup x=some c->c≠X.env.locals:=fun x c e z=>by
 obtain⟨v,o,ho,hd⟩:=I.cell x c e;obtain⟨m,⟨o',es,ep,LU,Me,_⟩,_⟩:=I.loc;rw[z,LU]at ho;cases ho;rw[Me]at hd;cases hd
theorem Inv.nQ(I:Inv X pins σ H s):s.heap.FunFrames X.base X.outer:=by
 have all:∀(l:List Env),(∀b∈frs l,b∈X.fs)->X.s₀.heap.FunFrames X.base l->s.heap.FunFrames X.base l:=by
  intro l
  induction l with
  |nil=>intro _ _;trivial
  |cons env r ih=>intro hs hl;obtain⟨hk,⟨L,o,hf,hn,ho,hd⟩,hr⟩:=hl;have hL:L∈X.fs:=hs L (by unfold frs;rw[List.filterMap_cons,hf];exact qI_);obtain⟨sl,e⟩:=I.base.slot L o ho (I.ok.frf L hL) hL fun z=>I.ok.AM L z hL;exact⟨hk,⟨L,_,hf,hn,e,hd⟩,ih (fun b hb=>hs b (by unfold frs;rw[List.filterMap_cons,hf];exact qR_ _ hb)) hr⟩
 exact all X.outer (fun _ hb=>hb) I.ok.nQ
theorem Inv.stack(I:Inv X pins σ H s):s.heap.FunFrames X.base X.stack:=by
 rcases I.ok.stk with e |⟨e,hf⟩
 · rw[e];exact I.nQ
 · rw[e];obtain⟨m,hn,_⟩:=I.loc;refine .cons (by rw[I.ok.kind];decide) hf hn ?_ I.nQ;exact Heap.get?_none_of_le (Nat.le_trans I.ok.bsz I.ok.above)
def Inv.lz(I:Inv X pins σ H s):∀b∈frs X.stack,b∈X.env.locals :: X.fs:=fun b hb=>by
 rcases I.ok.stk with e |⟨e,hf⟩
 · rw[e]at hb;exact qR_ _ hb
 · rw[e]at hb;unfold frs at hb;rw[List.filterMap_cons,hf]at hb;exact hb
def Inv.qF(I:Inv X pins σ H s):∀b∈frs X.stack,H b=none:=fun b hb=>by
 rcases qS_.mp (I.lz b hb)with e |hb
 · rw[e];exact I.free
 · obtain⟨_,o,ho,_⟩:=I.ok.nQ.mem hb;exact I.base.free b o ho (I.ok.frf b hb) fun z=>I.ok.AM b z hb
def Inv.step{g':Array GenState}{t':Nat}{d':Drawn}{ch:List Addr}(I:Inv X pins σ H s)
 (BV:∀b∈ch,(b∈X.ex\/X.s₀.heap.objs.size<=b)/\b≠X.env.locals/\(∀x c,X.env.cells.lookup x=some c->c≠b)/\∀p∈X.pn++pins,p.1≠b)
 (keep:∀b o,b≠X.env.locals->b∉X.fs->b∉ch->s.heap.get? b=some o->H b=none->h'.get? b=some o)
 (slot:∀b o,b≠X.env.locals->b∈X.fs->b∉ch->s.heap.get? b=some o->H b=none->∃sl,h'.get? b=some {o with slots:=sl}) (free:∀b o,b∉ch->s.heap.get? b=some o->H b=none->H' b=none)
 (there:∀b o,b∉ch->s.heap.get? b=some o->∃o',h'.get? b=some o')
 (sv:∀b xs,H b=some (.tup xs)->H' b=some (.tup xs)) (oV:∀b o u,H b=some (.frz o u)->H' b=some (.frz o u)) (sy:∀b ps,H b=some (.tbl ps)->∃more,H' b=some (.tbl (ps++more)))
 (ns:∀m,s.heap.Ns X.env.locals m->h'.Ns X.env.locals m) (hok:HOk X.prog X.w H' h') (hg:AllBare g'):
 Inv X pins σ H' {s with heap:=h',gens:=g',drawn:=d',toks:=t'}:=by
 have Uq:∀b o,X.s₀.heap.get? b=some o->b≠X.env.locals:=fun b o e=>Nat.ne_of_lt (qd_ (Heap.lt_size e) I.ok.above);have O8:∀b o,X.s₀.heap.get? b=some o->b∉X.ex->b∉ch:=fun b o e hx hb=>by
  rcases (BV b hb).1 with z |z
  · exact hx z
  · exact absurd (qd_ (Heap.lt_size e) z) (qe_ _)
 have cellK:∀x c,X.env.cells.lookup x=some c->∀v,s.heap.IsCell c v->h'.IsCell c v:=fun x c e v ⟨o,ho,hd⟩=>by
  have Oo:c∉ch:=fun z=>(BV c z).2.2.1 x c e rfl;by_cases hc:c∈X.fs
  · obtain⟨sl,q⟩:=slot c o (I.cne x c e) hc Oo ho (I.gI x c e);exact⟨_,q,hd⟩
  · exact⟨o,keep c o (I.cne x c e) hc Oo ho (I.gI x c e),hd⟩
 refine⟨I.ok,I.os,hg,⟨fun b o e n hb hx=>?_,fun b o e n hb hx=>?_,fun b o e n hx=>?_,fun b o e hx=>?_,fun b xs e=>sv b xs (I.base.sv b xs e),fun b o xs e=>oV b o xs (I.base.oV b o xs e),fun b ps e=>?_⟩,?_,fun x c e=>?_,?_,fun x c e=>?_,fun p hp=>?_,hok,I.len⟩
 · exact keep b o (Uq b o e) hb (O8 b o e hx) (I.base.keep b o e n hb hx) (I.base.free b o e n hx)
 · obtain⟨sl,e1⟩:=I.base.slot b o e n hb hx;obtain⟨V5,e2⟩:=slot b _ (Uq b o e) hb (O8 b o e hx) e1 (I.base.free b o e n hx);exact⟨V5,e2⟩
 · obtain⟨o',e1⟩:=I.base.there b o e hx;exact free b o' (O8 b o e hx) e1 (I.base.free b o e n hx)
 · obtain⟨o',e1⟩:=I.base.there b o e hx;exact there b o' (O8 b o e hx) e1
 · obtain⟨m1,e1⟩:=I.base.sy b ps e;obtain⟨m2,e2⟩:=sy b _ e1;exact⟨m1++m2,by rw[e2,Array.append_assoc]⟩
 · obtain⟨m,hn,hl⟩:=I.loc;refine⟨m,ns m hn,fun i x v e1 e2 e3=>?_⟩;obtain⟨u,r,l⟩:=hl i x v e1 e2 e3;refine⟨u,r,?_⟩;rcases l with l |⟨k,c,e,z⟩
   · exact .inl l
   · exact .inr ⟨k,c,e,cellK x c e _ z⟩
 · obtain⟨v,z⟩:=I.cell x c e;exact⟨v,cellK x c e v z⟩
 · obtain⟨m,⟨o,_,_,ho,_⟩,_⟩:=I.loc;exact free _ o (fun z=>(BV _ z).2.1 rfl) ho I.free
 · obtain⟨v,o,ho,hd⟩:=I.cell x c e;exact free c o (fun z=>(BV c z).2.2.1 x c e rfl) ho (I.gI x c e)
 · obtain⟨e,n,ne,nf,d⟩:=I.pin p hp;have Oo:p.1∉ch:=fun z=>(BV p.1 z).2.2.2 p hp rfl;exact⟨keep p.1 p.2 ne nf Oo e n,free p.1 p.2 Oo e n,ne,nf,d⟩
def Inv.un(I:Inv X pins σ H s)(u:Un X.fs [] H H' s.heap h')(hok:HOk X.prog X.w H' h'):Inv X pins σ H' {s with heap:=h',toks:=t'}:=by
 obtain⟨m,⟨o,es,ep,ho,r⟩,_⟩:=id I.loc;obtain⟨sl,hL⟩:=u.any ho I.free (by simp);exact I.step (g':=s.gens) (d':=s.drawn) (ch:=[]) (fun _ z=>nomatch z) (fun b o _ hb _ e n=>u.keep b o e n hb (by simp)) (fun b o _ hb _ e n=>u.slot b o e n hb (by simp)) (fun b o _ e n=>u.free b o e n (by simp)) (fun b o _ e=>u.there b o e (by simp)) u.sv u.oV u.sy (fun m' hm=>by
  obtain⟨o',L0,Pm,LU,r'⟩:=hm;rw[ho]at LU;cases LU
  exact⟨_,L0,Pm,hL,r'⟩) hok I.bare
def Inv.call(I:Inv X pins σ H s)(u:Un (frs X.stack) ch H H' s.heap h')(hok:HOk X.prog X.w H' h')(hg:AllBare g')
 (BV:∀b∈ch,(b∈X.ex\/X.s₀.heap.objs.size<=b)/\b≠X.env.locals/\(∀x c,X.env.cells.lookup x=some c->c≠b)/\∀p∈X.pn++pins,p.1≠b):
 Inv X pins σ H' {s with heap:=h',gens:=g',drawn:=d',toks:=t'}:=by
 obtain⟨m,⟨o,es,ep,ho,r⟩,_⟩:=id I.loc;obtain⟨sl,hL⟩:=u.any ho I.free fun z=>(BV _ z).2.1 rfl;exact I.step (ch:=ch) BV (fun b o hL hb hc e n=>u.keep b o e n (fun z=>(qS_.mp (I.lz b z)).elim hL hb) hc) (fun b o _ _ hc e n=>u.any e n hc) (fun b o hc e n=>u.free b o e n hc) (fun b o hc e=>u.there b o e hc) u.sv u.oV u.sy (fun m' hm=>by
  obtain⟨o',L0,Pm,LU,r'⟩:=hm;rw[ho]at LU;cases LU
  exact⟨_,L0,Pm,hL,r'⟩) hok hg
def Inv.turned(I:Inv X pins σ H s)(k:∀b o,b≠it->s.heap.get? b=some o->h'.get? b=some o)(hn:H it=none)(hL:it≠X.env.locals)
 (h1:it∈X.ex\/X.s₀.heap.objs.size<=it) (h2:∀x c,X.env.cells.lookup x=some c->c≠it) (h3:∀p∈X.pn++pins,p.1≠it):Inv X pins σ H {s with heap:=h',toks:=t'}:=by
 have OG:∀b u,H b=some u->b≠it:=fun b u e z=>by rw[z,hn]at e;cases e
 refine I.step (g':=s.gens) (d':=s.drawn) (ch:=[it]) (fun b hb=>?_) (fun b o _ _ hc e _=>k b o (fun z=>hc (by simp [z])) e) (fun b o _ _ hc e _=>⟨o.slots,k b o (fun z=>hc (by simp [z])) e⟩) (fun _ _ _ _ n=>n)
  (fun b o hc e=>⟨o,k b o (fun z=>hc (by simp [z])) e⟩) (fun _ _ e=>e) (fun _ _ _ e=>e) (fun b ps e=>⟨#[],by rw[e];simp⟩) (fun m hm=>?_) (fun b u e=>?_) I.bare
 · have e:b=it:=by simpa using hb
   subst e;exact⟨h1,hL,h2,h3⟩
 · obtain⟨o,es,ep,ho,r⟩:=hm;exact⟨o,es,ep,k _ o (Ne.symm hL) ho,r⟩
 · refine(I.hok b u e).jV (fun c v hc q=>k c v ?_ q) (fun _ q=>q) fun _ _ q=>q;rcases hc with z |z
   · rw[z];exact OG b u e
   · exact OG c _ z
def Inv.tok(I:Inv X pins σ H s)(t:Nat):Inv X pins σ H {s with toks:=t}:=I.un (h':=s.heap) (t':=t) Un.refl I.hok
theorem Inv.kept(I:Inv X pins σ H s)(k:∀b u,s.heap.get? b=some u->h'.get? b=some u):Inv X pins σ H {s with heap:=h',toks:=t'}:=I.un (Un.kept k) (I.hok.kept k)
theorem Inv.laid(I:Inv X pins σ H s)(k:∀b u,s.heap.get? b=some u->h'.get? b=some u)(hp:s.heap.objs.size<=a)(new:bO X.prog X.w (upd H a o) h' a o):
 Inv X pins σ (upd H a o) {s with heap:=h',toks:=t'}:=I.un (Un.laid k hp (I.hok.fresh hp)) (I.hok.laid k hp new)
theorem Inv.write(I:Inv X pins σ H s)(mu:Mut (H x))(he:e=x\/H e=some (.own x))(k:∀b u,b≠e->s.heap.get? b=some u->h'.get? b=some u)(Fe:∃u,h'.get? e=some u)
 (new:bO X.prog X.w (upd H x o) h' x o):Inv X pins σ (upd H x o) {s with heap:=h',toks:=t'}:=I.un (Un.write mu he k Fe) (I.hok.write mu he k Fe new)
def Inv.qD(I:Inv X pins σ H s)(h:∀p∈pins',s.heap.get? p.1=some p.2/\H p.1=none/\p.1≠X.env.locals/\p.1∉X.fs/\∀v,p.2.data≠.cell v):Inv X pins' σ H s:=
 ⟨I.ok,I.os,I.bare,I.base,I.loc,I.cell,I.free,I.gI,fun p hp=>(qG_.mp hp).elim (fun z=>I.pin p (qF_ _ z)) (h p),I.hok,I.len⟩
def kM{N:List Str}(hN:N.Nodup){i j:Nat}{x:Str}(a:N[i]? =some x)(b:N[j]? =some x):i=j:=by
 obtain⟨h1,e1⟩:=qB_.mp a;obtain⟨h2,e2⟩:=qB_.mp b;exact(List.getElem_inj hN).mp (e1.trans e2.symm)
def uj{E:Value->Shared->Prop}{Q:Unit->Shared->Prop}(I:Inv X pins σ H s)(hN:X.N.Nodup)(hi:X.N[i]? =some x)(hx:Loc X.env.scope x)(r:RelV v u)
 (h:∀s',Inv X pins (σ.set i (some v)) H s'->(∃a,Heap.SameBut a s.heap s'.heap/\(a=X.env.locals\/X.env.cells.lookup x=some a))->Q () s') (hf:X.fn x=true\/X.env.scope.names.lookup x=some .local:=by first |exact .inl rfl |exact .inr rfl |assumption):wpAny M A (storeName X.env x u) Q E s:=by
 obtain⟨m,hn,hl⟩:=id I.loc;have Rv:(X.env.scope.kind== .class||(X.env.scope.kind== .module&&X.env.locals !=X.env.globals))=false:=by rw[I.ok.kind];rfl
 have Oy:i < σ.length:=by rw[I.len];exact(qB_.mp hi).1
 have cne:=I.cne;have tracked:∀{a:Addr} {h':Heap},(∃o,s.heap.get? a=some o/\H a=none)->Heap.SameBut a s.heap h'->HOk X.prog X.w H h':=fun {a h'} ha hs b ob e=>by
  obtain⟨_,_,IQ⟩:=ha;refine(I.hok b ob e).jV (fun c w' hc q=>(hs.2 c ?_).trans q) (fun _ q=>q) fun _ _ q=>q;rintro rfl;rcases hc with rfl |hc
  · rw[IQ]at e;cases e
  · rw[IQ]at hc;cases hc
 rcases hx with hk |hk
 · refine wpAny_storeName_local hk hn (fun h' OX hs=>?_) Rv;obtain⟨oL,_,_,Wu,_⟩:=id hn;refine h _ ⟨I.ok,I.os,I.bare,⟨fun b o e n hb hx=>?_,fun b o e n hb hx=>?_,I.base.free,fun b o e hx=>?_,I.base.sv,I.base.oV,I.base.sy⟩,⟨_,OX,fun j y v' e1 e2 e3=>?_⟩,fun y c e=>?_,I.free,I.gI,fun p hp=>?_,tracked ⟨oL,Wu,I.free⟩ hs,by simpa using I.len⟩ ⟨_,hs,.inl rfl⟩
   · exact(hs.2 b (Nat.ne_of_lt (qd_ (Heap.lt_size e) I.ok.above))).trans (I.base.keep b o e n hb hx)
   · obtain⟨sl,e1⟩:=I.base.slot b o e n hb hx;exact⟨sl,(hs.2 b (Nat.ne_of_lt (qd_ (Heap.lt_size e) I.ok.above))).trans e1⟩
   · obtain⟨o',e1⟩:=I.base.there b o e hx;exact⟨o',(hs.2 b (Nat.ne_of_lt (qd_ (Heap.lt_size e) I.ok.above))).trans e1⟩
   · by_cases hj:j=i
     · subst hj;rw[hi]at e1;cases e1;rw[qU_ Oy]at e2;cases e2;exact⟨u,r,.inl ⟨hk,by simp⟩⟩
     · rw[qV_ (Ne.symm hj)]at e2;obtain⟨u',r',q⟩:=hl j y v' e1 e2 e3;refine⟨u',r',?_⟩;rcases q with ⟨k,e⟩ |⟨k,c,e,z⟩
       · refine .inl ⟨k,?_⟩;have:y≠x:=fun e=>hj (kM hN e1 (e ▸ hi));simp [this,e]
       · exact .inr ⟨k,c,e,z.sameBut hs (cne y c e)⟩
   · obtain⟨w',z⟩:=I.cell y c e;exact⟨w',z.sameBut hs (cne y c e)⟩
   · obtain⟨e,n,ne,nf,d⟩:=I.pin p hp;exact⟨(hs.2 p.1 ne).trans e,n,ne,nf,d⟩
 · have Q3:X.fn x=true:=by
    rcases hf with z |z
    · exact z
    · rw[z]at hk;cases hk
   obtain⟨c,hc⟩:=I.ok.has x (.inl hk);obtain⟨w',z⟩:=I.cell x c hc;refine wpAny_storeName_cell I.ok.kind hk hc z (fun h' OT hs=>?_);obtain⟨oc,UJ,Qv⟩:=id z;refine h {s with heap:=h'} ⟨I.ok,I.os,I.bare,⟨fun b o e n hb hx=>?_,fun b o e n hb hx=>?_,I.base.free,fun b o e hx=>?_,I.base.sv,I.base.oV,I.base.sy⟩,⟨m,hn.sameBut hs (Ne.symm (cne x c hc)),fun j y v' e1 e2 e3=>?_⟩,fun y c' e=>?_,I.free,I.gI,fun p hp=>?_,tracked ⟨oc,UJ,I.gI x c hc⟩ hs,by simpa using I.len⟩ ⟨c,hs,.inr hc⟩
   · exact(hs.2 b (Nat.ne_of_lt (qd_ (Heap.lt_size e) (I.ok.cab x c Q3 hc)))).trans (I.base.keep b o e n hb hx)
   · obtain⟨sl,e1⟩:=I.base.slot b o e n hb hx;exact⟨sl,(hs.2 b (Nat.ne_of_lt (qd_ (Heap.lt_size e) (I.ok.cab x c Q3 hc)))).trans e1⟩
   · obtain⟨o',e1⟩:=I.base.there b o e hx;exact⟨o',(hs.2 b (Nat.ne_of_lt (qd_ (Heap.lt_size e) (I.ok.cab x c Q3 hc)))).trans e1⟩
   · by_cases hj:j=i
     · subst hj;rw[hi]at e1;cases e1;rw[qU_ Oy]at e2;cases e2;exact⟨u,r,.inr ⟨.inl hk,c,hc,OT⟩⟩
     · rw[qV_ (Ne.symm hj)]at e2;obtain⟨u',r',q⟩:=hl j y v' e1 e2 e3;refine⟨u',r',?_⟩;rcases q with q |⟨k,c',e,z'⟩
       · exact .inl q
       · refine .inr ⟨k,c',e,z'.sameBut hs ?_⟩;rintro rfl;exact hj (kM hN e1 (I.ok.inj _ _ _ e hc ▸ hi))
   · by_cases O4:c'=c
     · subst O4;exact⟨_,OT⟩
     · obtain⟨w2,z2⟩:=I.cell y c' e;exact⟨w2,z2.sameBut hs O4⟩
   · obtain⟨e,n,ne,nf,d⟩:=I.pin p hp;refine⟨(hs.2 p.1 ?_).trans e,n,ne,nf,d⟩;intro q;rw[q,UJ]at e;have q':oc=p.2:=Option.some.inj e;exact d w' (by rw[<-q'];exact Qv)
def wX{E:Value->Shared->Prop}{Q:Unit->Shared->Prop}(I:Inv X pins σ H s)(hN:X.N.Nodup)(hi:X.N[i]? =some x)(hx:Loc X.env.scope x)(r:RelV v u)
 (h:∀s',Inv X pins (σ.set i (some v)) H s'->Q () s') (hf:X.fn x=true\/X.env.scope.names.lookup x=some .local:=by first |exact .inl rfl |exact .inr rfl |assumption):wpAny M A (storeName X.env x u) Q E s:=
 uj I hN hi hx r (fun s' I' _=>h s' I') hf
def Inv.DC{s':Shared}(I:Inv X pins σ H s)(ho:s'.os=s.os)(u:Un (frs X.stack) ch H H' s.heap s'.heap)(hok:HOk X.prog X.w H' s'.heap)(hg:AllBare s'.gens)
 (BV:∀b∈ch,(b∈X.ex\/X.s₀.heap.objs.size<=b)/\b≠X.env.locals/\(∀x c,X.env.cells.lookup x=some c->c≠b)/\∀p∈X.pn++pins,p.1≠b):Inv X pins σ H' s':=by
 obtain⟨h',g',d',t',o'⟩:=s';have e:o'=s.os:=ho;subst e;exact I.call (g':=g') (t':=t') (d':=d') u hok hg BV
end
abbrev XK:=Value->Option Addr->Hp->Prop
abbrev St:=List (Option V)
abbrev VK:=V->Hp->Prop
abbrev TE:=St->Hp->VK->Prop
abbrev TT:=St->Hp->(Bool->Hp->Prop)->Prop
abbrev TA:=St->Hp->(List V->Hp->Prop)->Prop
structure Ends where
 nx:St->Hp->Prop
 rt:VK
 bk:St->Hp->Prop:=fun _ _=>False
 ct:St->Hp->Prop:=fun _ _=>False
abbrev TS:=Ends->St->Hp->Prop
def EP(X:Cx)(pins:List (Addr×Obj))(σ:St)(Q:VK)(u:Value)(s':Shared):Prop:=∃v H',Inv X pins σ H' s'/\RelV v u/\Q v H'
def TP(X:Cx)(pins:List (Addr×Obj))(σ:St)(Q:Bool->Hp->Prop)(b:Bool)(s':Shared):Prop:=∃H',Inv X pins σ H' s'/\Q b H'
def AP(X:Cx)(pins:List (Addr×Obj))(σ:St)(Q:List V->Hp->Prop)(us:List Value)(s':Shared):Prop:=∃vs H',Inv X pins σ H' s'/\Vals vs us/\Q vs H'
def SP(X:Cx)(pins:List (Addr×Obj))(D:Ends)(f:Flow)(s':Shared):Prop:=
 match f with
 | .next=>∃σ' H',Inv X pins σ' H' s'/\D.nx σ' H'
 | .brk=>∃σ' H',Inv X pins σ' H' s'/\D.bk σ' H'
 | .cont=>∃σ' H',Inv X pins σ' H' s'/\D.ct σ' H'
 | .ret u=>∃v σ' H',Inv X pins σ' H' s'/\RelV v u/\D.rt v H'
def PE(X:Cx)(e:Expr)(t:TE):Prop:=
 ∀(pins:List (Addr×Obj)) (s:Shared) (σ:St) (H:Hp) (Q:VK),Inv X pins σ H s->t σ H Q->wpAny (model X.prog X.w) X.A (eval e X.env) (EP X pins σ Q) X.xe s
def PT(X:Cx)(e:Expr)(t:TT):Prop:=
 ∀(pins:List (Addr×Obj)) (s:Shared) (σ:St) (H:Hp) (Q:Bool->Hp->Prop),Inv X pins σ H s->t σ H Q->wpAny (model X.prog X.w) X.A (isTrue e X.env (eval e X.env)) (TP X pins σ Q) X.xe s
def PW(X:Cx)(e:Expr)(t:TT):Prop:=
 ∀(whole:Sem Value) (pins:List (Addr×Obj)) (s:Shared) (σ:St) (H:Hp) (Q:Bool->Hp->Prop),Inv X pins σ H s->t σ H Q->wpAny (model X.prog X.w) X.A (isTrue e X.env whole) (TP X pins σ Q) X.xe s
def PW.pt{t:TT}(h:PW X e t):PT X e t:=h _
def PA(X:Cx)(es:List Expr)(t:TA):Prop:=
 ∀(pos:Pos) (pins:List (Addr×Obj)) (s:Shared) (σ:St) (H:Hp) (Q:List V->Hp->Prop),Inv X pins σ H s->t σ H Q->wpAny (model X.prog X.w) X.A (spliced (backTo pos (starEach es X.env))) (AP X pins σ Q) X.xe s
def PS(X:Cx)(st:Stmt)(t:TS):Prop:=
 ∀(pins:List (Addr×Obj)) (s:Shared) (σ:St) (H:Hp) (D:Ends),Inv X pins σ H s->t D σ H->wpAny (model X.prog X.w) X.A (exec st X.env) (SP X pins D) X.xe s
def PSs(X:Cx)(st:List Stmt)(t:TS):Prop:=
 ∀(pins:List (Addr×Obj)) (s:Shared) (σ:St) (H:Hp) (D:Ends),Inv X pins σ H s->t D σ H->wpAny (model X.prog X.w) X.A (execs st X.env) (SP X pins D) X.xe s
def thn{α:Type}{t:Sem α}{Q Q':α->Shared->Prop}{M:Model}{A:Around}{E:Value->Shared->Prop}{s:Shared}(h:wpAny M A t Q E s)(hQ:∀a s,Q a s->Q' a s):wpAny M A t Q' E s:=wpAny_mono h hQ fun _ _ x=>x
section
variable{X:Cx}
def Qd(i:Nat):TE:=fun σ H Q=>∃v,σ[i]? =some (some v)/\Q v H
def tC(v:V):TE:=fun _ H Q=>Q v H
def KZ(hN:X.N[i]? =some x)(hv:Vis X.env.scope x)(hd:(x==("__debug__":Str))=false:=by decide)(BN:(x==("__classdict__":Str))=false:=by decide):PE X (.Name x pos) (Qd i):=by
 intro pins s σ H Q I h;obtain⟨v,e,h⟩:=h;obtain⟨m,hn,hl⟩:=I.loc;obtain⟨u,r,l⟩:=hl i x v hN e hv;have fin:EP X pins σ Q u s:=⟨v,H,I,r,h⟩;rcases l with ⟨hk,hm⟩ |⟨hk,c,hc,hcell⟩
 · exact wpAny_Name (wpAny_loadName_local I.ok.kind hk hn hm fin) hd
 · rcases hk with hk |hk
   · exact wpAny_Name (wpAny_loadName_cell I.ok.kind hk hc hcell fin) hd
   · exact wpAny_Name (wpAny_loadName_free I.ok.kind hk hc hcell fin BN) hd
def KP{i j pos}:PE X (.Constant (.int i) j pos) (tC (.int i)):=fun _ _ _ H _ I h=>wpAny_Constant_int ⟨.int i,H,I.tok _,⟨_,rfl⟩,h⟩
def Mz{b j pos}:PE X (.Constant (.bool b) j pos) (tC (.bl b)):=fun _ _ _ H _ I h=>Constant_bool ⟨.bl b,H,I,rfl,h⟩
def Lj{j pos}:PE X (.Constant .none j pos) (tC .non):=fun _ _ _ H _ I h=>Constant_none ⟨.non,H,I,rfl,h⟩
def CF{x j pos}:PE X (.Constant (.str x) j pos) (tC (.str x)):=fun _ _ _ H _ I h=>Calls.Constant_str ⟨.str x,H,I.tok _,⟨_,rfl⟩,h⟩
def Gl(X:Cx)(x:Str):Prop:=X.env.kindOf x=some .globalImplicit
def mj{E:Value->Shared->Prop}{H:Hp}{Q:Value->Shared->Prop}(I:Inv X pins σ H s)(hg:Gl X x)(hm:X.mg x=some u)(h:Q u s)
 (hd:(x==("__debug__":Str))=false:=by decide):wpAny (model X.prog X.w) X.A (eval (.Name x pos) X.env) Q E s:=
 Calls.Name_function_global I.ok.kind hg (Calls.loadGlobal_global (by rw[I.ok.glob];exact I.mod.glob.keeps I.bk) hm h) hd
def nO{E:Value->Shared->Prop}{H:Hp}{Q:Value->Shared->Prop}(I:Inv X pins σ H s)(hg:Gl X x)(hm:X.mg x=none)(hv:bootBuiltins x=some u)(h:Q u s)
 (hn:x≠"__name__":=by decide) (hd:(x==("__debug__":Str))=false:=by decide):wpAny (model X.prog X.w) X.A (eval (.Name x pos) X.env) Q E s:=by
 obtain⟨mb,h1,h2⟩:=I.mod.blt;exact Calls.Name_function_global I.ok.kind hg (Calls.loadGlobal_builtin (by rw[I.ok.glob];exact I.mod.glob.keeps I.bk) hm (by rw[I.ok.blt];exact h1.keeps I.bk) ((h2 x hn).trans hv) h) hd
def Fu(hg:Gl X x)(hm:X.mg x=some u)(r:RelV v u)(hd:(x==("__debug__":Str))=false:=by decide):PE X (.Name x pos) (tC v):=
 fun _ _ _ H _ I h=>mj I hg hm ⟨v,H,I,r,h⟩ hd
def uT(hg:Gl X x)(hm:X.mg x=none)(hv:bootBuiltins x=some u)(r:RelV v u)(hn:x≠"__name__":=by decide)(hd:(x==("__debug__":Str))=false:=by decide):PE X (.Name x pos) (tC v):=
 fun _ _ _ H _ I h=>nO I hg hm hv ⟨v,H,I,r,h⟩ hn hd
variable{a b:Expr}{ta tb:TE}{pos:Pos}
def PC(X:Cx)(op:CmpOp)(a b:Expr)(t:TE):Prop:=
 ∀(pins:List (Addr×Obj)) (s:Shared) (σ:St) (H:Hp) (Q:VK),Inv X pins σ H s->t σ H Q->
  wpAny (model X.prog X.w) X.A (eval a X.env) (fun v s₁=>wpAny (model X.prog X.w) X.A (eval b X.env) (fun u s₂=>wpAny (model X.prog X.w) X.A (compareOp op v u) (EP X pins σ Q) X.xe s₂) X.xe s₁) X.xe s
def xF(b:Expr)(h:op≠.In)(h2:op≠.NotIn):behindInMarks op b=false:=by
 have e1:(op==CmpOp.In)=false:=by cases op <;> first |rfl |exact absurd rfl h
 have e2:(op==CmpOp.NotIn)=false:=by cases op <;> first |rfl |exact absurd rfl h2
 cases b <;> simp [behindInMarks,e1,e2]
def PF(ta:TE):TE:=fun σ H Q=>ta σ H fun x H1=>Q (.bl (decide (x= .non))) H1
def NC(ta:TE):TE:=fun σ H Q=>ta σ H fun x H1=>Q (.bl (!decide (x= .non))) H1
def RelV.xy(r:RelV x v):(v==Value.none)=decide (x= .non):=by
 cases x with
 |non=>cases r;rfl
 |bl _=>cases r;rfl
 |int _=>obtain⟨t,rfl⟩:=r;rfl
 |str _=>obtain⟨t,rfl⟩:=r;rfl
 |byt _=>obtain⟨t,rfl⟩:=r;rfl
 |flt _=>obtain⟨t,rfl⟩:=r;rfl
 |ref _=>cases r;rfl
 |ty _=>cases r;rfl
def Dg{j pos'}(ha:PE X a ta):PC X .Is a (.Constant .none j pos') (PF ta):=by
 intro pins s σ H Q I h;refine thn (ha pins s σ H _ I h) fun v s1 ⟨x,H1,I1,r1,q1⟩=>?_;exact Constant_none (is_none_gen ⟨.bl _,H1,I1,by rw[r1.xy];rfl,q1⟩)
def GA{j pos'}(ha:PE X a ta):PC X .IsNot a (.Constant .none j pos') (NC ta):=by
 intro pins s σ H Q I h;refine thn (ha pins s σ H _ I h) fun v s1 ⟨x,H1,I1,r1,q1⟩=>?_;exact Constant_none (isnot_none_gen ⟨.bl _,H1,I1,by rw[r1.xy];rfl,q1⟩)
def tB(t:TE):TT:=fun σ H Q=>t σ H fun x H1=>∃c,x= .bl c/\Q c H1
def Ki{t:TE}(h:PC X op a b t)(h1:behindInMarks op b=false:=by first |exact xF _ (by decide) (by decide) |rfl):PE X (.Compare a [op] [b] pos) t:=fun pins s σ H Q I hw=>wpAny_Compare1 (h pins s σ H Q I hw) h1
def CH{t:TE}(h:PC X op a b t)(h1:behindInMarks op b=false:=by first |exact xF _ (by decide) (by decide) |rfl):PT X (.Compare a [op] [b] pos) (tB t):=by
 intro pins s σ H Q I hw;refine wpAny_isTrue_Compare1 (thn (h pins s σ H _ I hw) fun v s1 h1=>thn h1 fun u s2 h2=>thn h2 fun c s3 ⟨x,H1,I1,r1,q1⟩=>?_) h1;obtain⟨d,rfl,q⟩:=q1;cases r1;exact wpAny_truthy_bool ⟨H1,I1,q⟩
variable{tA Pj:TT}{rest:List Expr}
def sJ(t u:TT):TT:=fun σ H Q=>t σ H fun c H1=>if c=true then u σ H1 Q else Q false H1
def tOr(t u:TT):TT:=fun σ H Q=>t σ H fun c H1=>if c=true then Q true H1 else u σ H1 Q
def eF(t:TT):TT:=fun σ H Q=>t σ H fun c H1=>Q (!c) H1
def FJ(ha:PT X a tA):PW X (.BoolOp .And [a] pos) tA:=by
 intro wh pins s σ H Q I h;refine isTrue_and (thn (ha pins s σ H Q I h) fun c s1 e=>?_);cases c with
 |true=>exact isTrue_and_nil e
 |false=>exact e
def JK(ha:PT X a tA):PW X (.BoolOp .Or [a] pos) tA:=by
 intro wh pins s σ H Q I h;refine isTrue_or (thn (ha pins s σ H Q I h) fun c s1 e=>?_);cases c with
 |false=>exact isTrue_or_nil e
 |true=>exact e
def K9(ha:PT X a tA)(hb:PW X (.BoolOp .And (b :: rest) pos) Pj):PW X (.BoolOp .And (a :: b :: rest) pos) (sJ tA Pj):=by
 intro wh pins s σ H Q I h;refine isTrue_and (thn (ha pins s σ H _ I h) fun c s1 ⟨H1,I1,q1⟩=>?_);cases c with
 |true=>exact hb wh pins s1 σ H1 Q I1 q1
 |false=>exact⟨H1,I1,q1⟩
def Mr(ha:PT X a tA)(hb:PW X (.BoolOp .Or (b :: rest) pos) Pj):PW X (.BoolOp .Or (a :: b :: rest) pos) (tOr tA Pj):=by
 intro wh pins s σ H Q I h;refine isTrue_or (thn (ha pins s σ H _ I h) fun c s1 ⟨H1,I1,q1⟩=>?_);cases c with
 |true=>exact⟨H1,I1,q1⟩
 |false=>exact hb wh pins s1 σ H1 Q I1 q1
def JW(ha:PT X a tA):PT X (.UnaryOp .Not a pos) (eF tA):=by
 intro pins s σ H Q I h;exact isTrue_not (ha pins s σ H (fun c H1=>Q (!c) H1) I h)
def M1(ta tb:TE):TE:=fun σ H Q=>ta σ H fun x H1=>∃c,x= .bl c/\if c=true then tb σ H1 Q else Q (.bl false) H1
def PD(ta tb:TE):TE:=fun σ H Q=>ta σ H fun x H1=>∃c,x= .bl c/\if c=true then Q (.bl true) H1 else tb σ H1 Q
def NW(ta:TE):TE:=fun σ H Q=>ta σ H fun x H1=>∃c,x= .bl c/\Q (.bl (!c)) H1
def KL{op}{t:TE}(h:PE X a t):PE X (.BoolOp op [a] pos) t:=fun pins s σ H Q I hw=>BoolOp_one (h pins s σ H Q I hw)
def JQ(ha:PE X a ta)(hb:PE X (.BoolOp .And (b :: rest) pos) tb):PE X (.BoolOp .And (a :: b :: rest) pos) (M1 ta tb):=by
 intro pins s σ H Q I h;refine BoolOp_and (thn (ha pins s σ H _ I h) fun v s1 ⟨x,H1,I1,r1,q1⟩=>?_);obtain⟨c,rfl,q1⟩:=q1;cases r1;refine wpAny_truthy_bool ?_;cases c with
 |true=>exact hb pins s1 σ H1 Q I1 q1
 |false=>exact⟨.bl false,H1,I1,rfl,q1⟩
def NA(ha:PE X a ta)(hb:PE X (.BoolOp .Or (b :: rest) pos) tb):PE X (.BoolOp .Or (a :: b :: rest) pos) (PD ta tb):=by
 intro pins s σ H Q I h;refine BoolOp_or (thn (ha pins s σ H _ I h) fun v s1 ⟨x,H1,I1,r1,q1⟩=>?_);obtain⟨c,rfl,q1⟩:=q1;cases r1;refine wpAny_truthy_bool ?_;cases c with
 |false=>exact hb pins s1 σ H1 Q I1 q1
 |true=>exact⟨.bl true,H1,I1,rfl,q1⟩
def KA(ha:PE X a ta):PE X (.UnaryOp .Not a pos) (NW ta):=by
 intro pins s σ H Q I h;refine UnaryOp_ (thn (ha pins s σ H _ I h) fun v s1 ⟨x,H1,I1,r1,q1⟩=>?_);obtain⟨c,rfl,q1⟩:=q1;cases r1;exact not_of (wpAny_truthy_bool ⟨.bl (!c),H1,I1,rfl,q1⟩)
def tIf(t:TT)(ta tb:TE):TE:=fun σ H Q=>t σ H fun c H1=>if c=true then ta σ H1 Q else tb σ H1 Q
def De(hc:PT X c tA)(ha:PE X a ta)(hb:PE X b tb):PE X (.IfExp c a b pos) (tIf tA ta tb):=by
 intro pins s σ H Q I h;refine wpAny_IfExp (thn (hc pins s σ H _ I h) fun d s1 ⟨H1,I1,q1⟩=>?_);cases d with
 |true=>exact ha pins s1 σ H1 Q I1 q1
 |false=>exact hb pins s1 σ H1 Q I1 q1
end
def SqL(K:PySem.W.Frag)(H:Hp)(a:Addr)(xs:List V):Prop:=
 Rd H a (.lst xs)\/
  ∃(o:Obj) (aJ:Array Value) (n:Nat),K.lookup a=some o/\o.cls= .type "list"/\o.dict=none/\o.data= .seq aJ n/\aJ.size<=sizeLine/\Vals xs aJ.toList
def SqT(K:PySem.W.Frag)(H:Hp)(a:Addr)(xs:List V):Prop:=
 Rd H a (.tup xs)\/
  ∃(o:Obj) (aJ:Array Value) (n:Nat),K.lookup a=some o/\o.cls= .type "tuple"/\o.data= .seq aJ n/\aJ.size<=sizeLine/\Vals xs aJ.toList
def PU:Value->Option V
 | .none=>some .non
 | .bool b=>some (.bl b)
 | .int i _=>some (.int i)
 | .str x _=>some (.str x)
 | .bytes b _=>some (.byt b)
 | .float b _=>some (.flt b)
 | .ref a=>some (.ref a)
 | .type n=>some (.ty n)
 |_=>none
def RelV.abs(r:RelV x u):PU u=some x:=by
 cases x with
 |non=>cases r;rfl
 |bl _=>cases r;rfl
 |int _=>obtain⟨t,rfl⟩:=r;rfl
 |str _=>obtain⟨t,rfl⟩:=r;rfl
 |byt _=>obtain⟨t,rfl⟩:=r;rfl
 |flt _=>obtain⟨t,rfl⟩:=r;rfl
 |ref _=>cases r;rfl
 |ty _=>cases r;rfl
theorem RelV.inj(r:RelV x u)(q:RelV y u):x=y:=Option.some.inj (r.abs.symm.trans q.abs)
theorem Vals.inj:∀{xs ys:List V} {us:List Value},Vals xs us->Vals ys us->xs=ys
 |_,_,_,.nil,.nil=>rfl
 |_,_,_,.cons r t,.cons r' t'=>by rw[r.inj r',Vals.inj t t']
section
variable{X:Cx}{pins:List (Addr×Obj)}{σ:St}{H:Hp}{s:Shared}{a:Addr}{xs ys:List V}
def SqL.of{K:PySem.W.Frag}(h:H a=some (.lst xs)):SqL K H a xs:= .inl (.inl h)
def SqT.of{K:PySem.W.Frag}(h:H a=some (.tup xs)):SqT K H a xs:= .inl (.inl h)
def Inv.list(I:Inv X pins σ H s)(h:SqL X.K H a xs):∃aJ:List Value,Vals xs aJ/\PlainL s.heap a aJ.toArray/\xs.length<=sizeLine:=by
 rcases h with h |⟨o,aJ,n,hk,hc,hd,hs,hz,r⟩
 · obtain⟨z,aJ,n,r,e⟩:=h.ok I.hok;exact⟨aJ,r,⟨_,n,e,rfl,rfl,rfl⟩,z⟩
 · refine⟨aJ.toList,r,⟨o,n,I.kIn a o hk,hc,hd,by simpa using hs⟩,?_⟩;have e:=r.length;simp only[Array.length_toList]at e;omega
def Inv.tuple(I:Inv X pins σ H s)(h:SqT X.K H a xs):∃aJ:List Value,Vals xs aJ/\IsTup s.heap a aJ.toArray/\xs.length<=sizeLine:=by
 rcases h with h |⟨o,aJ,n,hk,hc,hs,hz,r⟩
 · obtain⟨z,aJ,r,p⟩:=h.ok I.hok;exact⟨aJ,r,p,z⟩
 · refine⟨aJ.toList,r,⟨o,I.kIn a o hk,hc,n,by simpa using hs⟩,?_⟩;have e:=r.length;simp only[Array.length_toList]at e;omega
def Inv.lF(I:Inv X pins σ H s)(h:SqL X.K H a xs)(h':SqL X.K H a ys):xs=ys:=by
 obtain⟨aJ,r,⟨o,n,e,_,_,d⟩,_⟩:=I.list h;obtain⟨its',r',⟨o',n',e',_,_,d'⟩,_⟩:=I.list h';rw[e]at e';cases e';rw[d]at d'
 injection d' with d1 _
 have:aJ=its':=by simpa using congrArg Array.toList d1
 subst this;exact r.inj r'
def Inv.ma(I:Inv X pins σ H s)(h:SqT X.K H a xs)(h':SqT X.K H a ys):xs=ys:=by
 obtain⟨aJ,r,⟨o,e,_,n,d⟩,_⟩:=I.tuple h;obtain⟨its',r',⟨o',e',_,n',d'⟩,_⟩:=I.tuple h';rw[e]at e';cases e';rw[d]at d'
 injection d' with d1 _
 have:aJ=its':=by simpa using congrArg Array.toList d1
 subst this;exact r.inj r'
end
abbrev Cx.rV(X:Cx)(E:Value->Shared->Prop):Cx:={X with xe:=E}
abbrev Cx.nox(X:Cx):Cx:=X.rV fun _ _=>False
theorem Cx.Ok.rV{X:Cx}(ok:X.Ok)(E:Value->Shared->Prop):(X.rV E).Ok:=
 ⟨ok.mod,ok.kind,ok.glob,ok.blt,ok.above,ok.inj,ok.has,ok.cab,ok.hd,ok.frames,ok.stk,ok.exf,ok.bs,ok.bsz,ok.zD,ok.AM,ok.nQ,ok.frf⟩
def Cx.Ok.hU{X:Cx}{E:Value->Shared->Prop}(ok:(X.rV E).Ok):X.Ok:=
 ⟨ok.mod,ok.kind,ok.glob,ok.blt,ok.above,ok.inj,ok.has,ok.cab,ok.hd,ok.frames,ok.stk,ok.exf,ok.bs,ok.bsz,ok.zD,ok.AM,ok.nQ,ok.frf⟩
section
variable{X:Cx}{pins:List (Addr×Obj)}{σ:St}{H:Hp}{s:Shared}{E:Value->Shared->Prop}
theorem Inv.rV(I:Inv X pins σ H s)(E:Value->Shared->Prop):Inv (X.rV E) pins σ H s:=⟨I.ok.rV E,I.os,I.bare,I.base,I.loc,I.cell,I.free,I.gI,I.pin,I.hok,I.len⟩
theorem Inv.hU(I:Inv (X.rV E) pins σ H s):Inv X pins σ H s:=⟨I.ok.hU,I.os,I.bare,I.base,I.loc,I.cell,I.free,I.gI,I.pin,I.hok,I.len⟩
theorem SP.hU(h:SP (X.rV E) pins D f s'):SP X pins D f s':=by
 cases f with
 |next=>obtain⟨σ',H',I,q⟩:=h;exact⟨σ',H',I.hU,q⟩
 |brk=>obtain⟨σ',H',I,q⟩:=h;exact⟨σ',H',I.hU,q⟩
 |cont=>obtain⟨σ',H',I,q⟩:=h;exact⟨σ',H',I.hU,q⟩
 |ret u=>obtain⟨v,σ',H',I,r,q⟩:=h;exact⟨v,σ',H',I.hU,r,q⟩
theorem PSs.nox{st:List Stmt}{t:TS}(h:PSs X.nox st t):PSs X st t:=fun pins s σ H D I hw=>
 wpAny_mono (h pins s σ H D (I.rV _) hw) (fun _ _ q=>q.hU) fun _ _ z=>False.elim z
end
section
variable{X:Cx}{st:Stmt}{rest:List Stmt}{t u:TS}{e:Expr}{te:TE}{pos:Pos}
def Mp:TS:=fun D σ H=>D.nx σ H
def Qe(t u:TS):TS:=fun D σ H=>t {D with nx:=u D} σ H
def GX:PSs X [] Mp:=fun _ _ σ H _ I h=>wpAny_execs_nil ⟨σ,H,I,h⟩
def Dt(h1:PS X st t)(h2:PSs X rest u):PSs X (st :: rest) (Qe t u):=by
 intro pins s σ H D I h;refine wpAny_execs_cons (thn (h1 pins s σ H {D with nx:=u D} I h) fun f s1 q=>?_);cases f with
 |next=>obtain⟨σ',H',I',q⟩:=q;exact h2 pins s1 σ' H' D I' q
 |ret v=>exact q
 |brk=>exact q
 |cont=>exact q
def He(h1:PS X st t):PSs X [st] t:=by
 intro pins s σ H D I h;refine wpAny_execs_cons (thn (h1 pins s σ H D I h) fun f s1 q=>?_);cases f with
 |next=>exact wpAny_execs_nil q
 |ret v=>exact q
 |brk=>exact q
 |cont=>exact q
def Inv.quiet{H:Hp}(I:Inv X pins σ H s):interactive X.env=false:=by simp [interactive,I.ok.kind]
def NL(te:TE):TS:=fun D σ H=>te σ H fun _ H1=>D.nx σ H1
def GZ(he:PE X e te)(hs:swapsWith e none pos.line X.env=pure false:=by rfl):PS X (.Expr e pos) (NL te):=by
 intro pins s σ H D I h;exact wpAny_Expr_any (thn (he pins s σ H _ I h) fun v s1 ⟨x,H1,I1,r1,q1⟩=>⟨σ,H1,I1,q1⟩) I.quiet hs
def P7(te:TE):TS:=fun D σ H=>te σ H D.rt
def K0(he:PE X e te):PS X (.Return (some e) pos) (P7 te):=by
 intro pins s σ H D I h;exact wpAny_Return_some (thn (he pins s σ H _ I h) fun v s1 ⟨x,H1,I1,r1,q1⟩=>⟨x,σ,H1,I1,r1,q1⟩)
def PP(c:TT)(t u:TS):TS:=fun D σ H=>c σ H fun b H1=>if b=true then t D σ H1 else u D σ H1
def MT{tc:TT}(hc:PT X c tc)(ha:PSs X a t)(hb:PSs X b u):PS X (.If c a b pos) (PP tc t u):=by
 intro pins s σ H D I h;refine wpAny_If (thn (hc pins s σ H _ I h) fun d s1 ⟨H1,I1,q1⟩=>?_);cases d with
 |true=>exact ha pins s1 σ H1 D I1 q1
 |false=>exact hb pins s1 σ H1 D I1 q1
end
abbrev TG:=V->St->Hp->(St->Hp->Prop)->Prop
abbrev TGs:=List V->St->Hp->(St->Hp->Prop)->Prop
def PG(X:Cx)(target:Expr)(t:TG):Prop:=
 ∀(pins:List (Addr×Obj)) (s:Shared) (σ:St) (H:Hp) (v:V) (u:Value) (Q:St->Hp->Prop),Inv X pins σ H s->RelV v u->t v σ H Q->
  wpAny (model X.prog X.w) X.A (assign target X.env u) (fun _ s'=>∃σ' H',Inv X pins σ' H' s'/\Q σ' H') X.xe s
def PGs(X:Cx)(ts:List Expr)(t:TGs):Prop:=
 ∀(pins:List (Addr×Obj)) (s:Shared) (σ:St) (H:Hp) (vs:List V) (us:List Value) (Q:St->Hp->Prop),Inv X pins σ H s->Vals vs us->t vs σ H Q->
  wpAny (model X.prog X.w) X.A (assignInOrder ((assignEach ts X.env).map (·.2)) us) (fun _ s'=>∃σ' H',Inv X pins σ' H' s'/\Q σ' H') X.xe s
abbrev Gg:=V->V->V->Hp->(Hp->Prop)->Prop
def w4(X:Cx)(t:Gg):Prop:=
 ∀(pins:List (Addr×Obj)) (s:Shared) (σ:St) (H:Hp) (o i v:V) (ov iv u:Value) (Q:Hp->Prop),Inv X pins σ H s->RelV o ov->RelV i iv->RelV v u->t o i v H Q->
  wpAny (model X.prog X.w) X.A (setItem ov iv u) (fun _ s'=>∃H',Inv X pins σ H' s'/\Q H') X.xe s
section
variable{X:Cx}{pos:Pos}
def Ip(i:Nat):TG:=fun v σ H Q=>Q (σ.set i (some v)) H
def vN(hN:X.N.Nodup)(hi:X.N[i]? =some x)(hx:Loc X.env.scope x)(hf:X.fn x=true\/X.env.scope.names.lookup x=some .local:=by first |exact .inl rfl |exact .inr rfl |assumption):PG X (.Name x pos) (Ip i):=by
 intro pins s σ H v u Q I r h;exact wpAny_assign_Name (wX I hN hi hx r (fun s' I'=>⟨_,H,I',h⟩) hf)
def PQ:TGs:=fun vs σ H Q=>vs=[]/\Q σ H
def ND(t:TG)(u:TGs):TGs:=fun vs σ H Q=>∃v r,vs=v :: r/\t v σ H fun σ' H'=>u r σ' H' Q
def Hk:PGs X [] PQ:=by
 intro pins s σ H vs us Q I r h;obtain⟨e,h⟩:=h;subst e;cases r;exact assignInOrder_nil ⟨σ,H,I,h⟩
def D6{t:TG}(h1:PG X e t)(h2:PGs X es u)
 (hs:(assignEach (e :: es) X.env).map (·.2)=assign e X.env :: (assignEach es X.env).map (·.2):=by rfl):PGs X (e :: es) (ND t u):=by
 intro pins s σ H vs us Q I r h;obtain⟨v,vr,e1,h⟩:=h;subst e1;cases r with
 |cons r rr=>rw[hs];refine assignInOrder_cons (thn (h1 pins s σ H _ _ _ I r h) fun _ s1 ⟨σ1,H1,I1,q1⟩=>?_);exact h2 pins s1 σ1 H1 _ _ Q I1 rr q1
def Qf(K:PySem.W.Frag)(n:Nat)(t:TGs):TG:=fun v σ H Q=>∃a xs,v= .ref a/\SqT K H a xs/\xs.length=n/\t xs σ H Q
def Kk(hc:X.calm=true)(h:PGs X es t)
 (hn:(assignEach es X.env).length=n:=by rfl) (HE:(assignEach es X.env).findIdx? (·.1)=none:=by rfl):PG X (.Tuple es k pos) (Qf X.K n t):=by
 intro pins s σ H v u Q I r hw;obtain⟨a,xs,e1,hq,hl,hw⟩:=hw;subst e1;cases r;obtain⟨aJ,rv,ht,hz⟩:=I.tuple hq;refine assign_Tuple_tuple (I.ok.hd hc) ht (by simp [hn,<-hl,rv.length]) HE fun h' hx=>?_;have I1:Inv X pins σ H {s with heap:=h'}:=I.kept (t':=s.toks) fun b o e=>hx b o (Nat.ne_of_lt (Heap.lt_size e)) e;exact h pins _ σ H xs _ Q I1 (by simpa using rv) hw
def PK(to ti:TE)(t:Gg):TG:=fun v σ H Q=>to σ H fun o H1=>ti σ H1 fun i H2=>t o i v H2 fun H3=>Q σ H3
def Kx{o i:Expr}{to ti:TE}{t:Gg}(ho:PE X o to)(hi:PE X i ti)(hs:w4 X t)
 (ha:∀v,assign (.Subscript o i pos) X.env v=(do
   let ov <-holding [v] (eval o X.env)
   let iv <-holding [v,ov] (eval i X.env)
   standAt pos
   holding [v,ov,iv] (setItem ov iv v)
   release [v,ov,iv] []):=by intro _;rfl):PG X (.Subscript o i pos) (PK to ti t):=by
 intro pins s σ H v u Q I r h;rw[ha];refine wpAny_bind (wpAny_holding (thn (ho pins s σ H _ I h) fun ov s1 ⟨x,H1,I1,r1,q1⟩=>?_));refine wpAny_bind (wpAny_holding (thn (hi pins s1 σ H1 _ I1 q1) fun iv s2 ⟨y,H2,I2,r2,q2⟩=>?_));refine wpAny_bind (wpAny_standAt (wpAny_bind (wpAny_holding (thn (hs pins s2 σ H2 x y v ov iv u _ I2 r1 r2 r q2) fun _ s3 ⟨H3,I3,q3⟩=>?_))));exact wpAny_release ⟨σ,H3,I3,q3⟩
def Nw(te:TE)(g:TG):TS:=fun D σ H=>te σ H fun x H1=>g x σ H1 D.nx
def Ed{tg e:Expr}{te:TE}{g:TG}(he:PE X e te)(hg:PG X tg g)(hs:swapsWithSole [tg] e pos.line X.env=pure false:=by rfl)(hw:swappedStores [tg] e X.env=pure none:=by rfl)
 (h1:(assignEach [tg] X.env).map (·.2)=[assign tg X.env]:=by rfl):PS X (.Assign [tg] e pos) (Nw te g):=by
 intro pins s σ H D I h;refine wpAny_Assign_stores (thn (he pins s σ H _ I h) fun v s1 ⟨x,H1,I1,r1,q1⟩=>?_) hs hw;rw[h1];exact thn (hg pins s1 σ H1 x v _ I1 r1 q1) fun _ s2 q=>q
def IT{te:TE}(hN:X.N.Nodup)(hi:X.N[i]? =some x)(hx:Loc X.env.scope x)(he:PE X e te)(hs:swapsWith e (some (.Name x pos')) pos.line X.env=pure false:=by rfl)(hf:X.fn x=true\/X.env.scope.names.lookup x=some .local:=by first |exact .inl rfl |exact .inr rfl |assumption):
 PS X (.Assign [.Name x pos'] e pos) (Nw te (Ip i)):=by
 intro pins s σ H D I h;refine wpAny_Assign_Name (thn (he pins s σ H _ I h) fun v s1 ⟨y,H1,I1,r1,q1⟩=>?_) hs;exact wX I1 hN hi hx r1 (fun s2 I2=>⟨_,H1,I2,q1⟩) hf
def K7(c:TT)(tb:TS):TS:=fun D σ H=>∃W:Nat->St->Hp->Prop,(∃m,W m σ H)/\∀m σ H,W m σ H->
 c σ H fun b H1=>if b=true then ∃N:St->Hp->Prop,(∀σ' H',N σ' H'->∃m',m' < m/\W m' σ' H')/\tb {D with nx:=N,ct:=N,bk:=D.nx} σ H1 else D.nx σ H1
def CK{tc:TT}{tb:TS}(hp:PassesOwn (model X.prog X.w) X.A X.env X.xe)(hc:PT X c tc)(hb:PSs X body tb):PS X (.While c body [] pos) (K7 tc tb):=by
 intro pins s σ H D I h;obtain⟨W,⟨m0,w0⟩,turn⟩:=h;refine wpAny_While (codeAny_whileLoop (fun n s'=>∃σ' H',Inv X pins σ' H' s'/\W n σ' H') ?_ m0 ⟨σ,H,I,w0⟩);rintro n s1 ⟨σ1,H1,I1,w1⟩;refine wpAny_passesOwn hp (thn (hc pins s1 σ1 H1 _ I1 (turn n σ1 H1 w1)) fun b s2 ⟨H2,I2,q2⟩=>?_);cases b with
 |true=>
  obtain⟨N,hN,q2⟩:=q2;rw[if_pos rfl];refine wpAny_passesOwn hp (thn (hb pins s2 σ1 H2 _ I2 q2) fun f s3 q3=>?_);cases f with
  |next=>obtain⟨σ3,H3,I3,n3⟩:=q3;obtain⟨m',hm,w3⟩:=hN σ3 H3 n3;exact⟨m',hm,σ3,H3,I3,w3⟩
  |cont=>obtain⟨σ3,H3,I3,n3⟩:=q3;obtain⟨m',hm,w3⟩:=hN σ3 H3 n3;exact⟨m',hm,σ3,H3,I3,w3⟩
  |brk=>exact q3
  |ret v=>exact q3
 |false=>rw[if_neg qC_];exact wpAny_execs_nil ⟨σ1,H2,I2,q2⟩
end
structure It where
 go:Nat->Hp->Prop
 yld:Nat->Hp->V->Hp->Prop
 stop:Nat->Hp->Prop
def oZ(X:Cx)(pins:List (Addr×Obj))(H:Hp)(b:Addr):Prop:=
 H b=none/\b≠X.env.locals/\b∉X.fs/\(b∈X.ex\/X.s₀.heap.objs.size<=b)/\(∀x c,X.env.cells.lookup x=some c->c≠b)/\∀p∈X.pn++pins,p.1≠b
def Inv.Eh{H H':Hp}{s:Shared}(I:Inv X pins σ H s)(hb:s.heap.objs.size<=b)(hn:H' b=none):oZ X pins H' b:=by
 refine⟨hn,Nat.ne_of_gt (qd_ I.lt hb),I.P4 hb,.inr (Nat.le_trans I.sz hb),fun x c e z=>?_,fun p hp z=>?_⟩
 · obtain⟨v,q⟩:=I.cell x c e;exact absurd (qd_ q.lt (by rw[z];exact hb)) (qe_ _)
 · exact absurd (qd_ (Heap.lt_size (I.pin p hp).1) (by rw[z];exact hb)) (qe_ _)
structure Turn (P:Program) (w:World) (K:PySem.W.Frag) (tg:Expr) (J:It) (fp:List Addr) (it:Addr) (tn:Nat->Heap->Prop):Prop where
 mem:it∈fp
 obj:∀i h,tn i h->∀b∈fp,∃o,h.get? b=some o/\∀v,o.data≠.cell v
 keep:∀i h h',tn i h->(∀b∈fp,∀o,h.get? b=some o->h'.get? b=some o)->tn i h'
 item:∀(X:Cx),X.prog=P->X.w=w->X.K=K->X.calm=true->∀(i:Nat) (pins:List (Addr×Obj)) (s:Shared) (σ:St) (H:Hp) (E:Value->Shared->Prop),Inv X pins σ H s->(∀b∈fp,oZ X pins H b)->tn i s.heap->J.go i H->
  wpAny (model P w) X.A (pyNext (.ref it)) (fun r s1=>∃u,r=some u/\
   wpAny (model P w) X.A (letOwnedTupleGo tg (.ref it) u) (fun _ s2=>∃x H',Inv X pins σ H' s2/\RelV x u/\J.yld i H x H'/\tn (i+1) s2.heap/\∀b∈fp,H' b=none) E s1) E s
 done:∀(X:Cx),X.prog=P->X.w=w->X.K=K->X.calm=true->∀(i:Nat) (pins:List (Addr×Obj)) (s:Shared) (σ:St) (H:Hp) (E:Value->Shared->Prop),Inv X pins σ H s->(∀b∈fp,oZ X pins H b)->tn i s.heap->J.stop i H->
  wpAny (model P w) X.A (pyNext (.ref it)) (fun r s1=>r=none/\Inv X pins σ H s1) E s
 self:∀(A:Around) (i:Nat) (s:Shared) (Q:Value->Shared->Prop) (E:Value->Shared->Prop),tn i s.heap->Q (.ref it) s->wpAny (model P w) A (pyIter (.ref it)) Q E s
abbrev TI:=St->Hp->(It->Hp->Prop)->Prop
def PIE(X:Cx)(pins:List (Addr×Obj))(σ:St)(tg:Expr)(R:It->Hp->Prop)(Pl:Value)(s2:Shared):Prop:=
 ∃(it:Addr) (fp:List Addr) (tn:Nat->Heap->Prop) (J:It) (H':Hp),Pl= .ref it/\Inv X pins σ H' s2/\Turn X.prog X.w X.K tg J fp it tn/\tn 0 s2.heap/\(∀b∈fp,oZ X pins H' b)/\R J H'
def PI(X:Cx)(tg iter:Expr)(wi:TI):Prop:=
 ∀(pins:List (Addr×Obj)) (s:Shared) (σ:St) (H:Hp) (R:It->Hp->Prop),Inv X pins σ H s->wi σ H R->
  wpAny (model X.prog X.w) X.A (eval iter X.env) (fun v s1=>wpAny (model X.prog X.w) X.A (pyIter v) (PIE X pins σ tg R) X.xe s1) X.xe s
def CN{E:Value->Shared->Prop}{s:Shared}{o:Obj}{Q:Unit->Shared->Prop}(ho:s.heap.get? it=some o)(hc:o.cls= .type n)(hd:o.data= .fields vs)
 (hn:["enumerate","zip","dict_itemiterator","dict_reverseitemiterator","odict_iterator","itertools.zip_longest","itertools.pairwise"].contains n=false) (hQ:Q () s):wpAny M A (letOwnedTupleGo tg (.ref it) u) Q E s:=by
 unfold letOwnedTupleGo;cases tg <;> first
  |exact wpAny_pure hQ
  |(cases u <;> first
     |exact wpAny_pure hQ
     |(refine wpAny_bind (wpAny_load ho ?_)
       rw[hc,hd];show wpAny M A (if (["enumerate","zip","dict_itemiterator","dict_reverseitemiterator","odict_iterator","itertools.zip_longest","itertools.pairwise"].contains n&&vs[0]? ==some (rawInt _))=true then _ else _) Q E s;rw[if_neg (by intro h;rw[hn,Bool.false_and]at h;cases h)]
       exact wpAny_pure hQ))
def Itl(K:PySem.W.Frag)(a:Addr):It:=
 ⟨fun i H=>∃xs x,SqL K H a xs/\xs[i]? =some x,fun i H x H'=>H'=H/\∀xs,SqL K H a xs->xs[i]? =some x,fun i H=>∃xs,SqL K H a xs/\xs.length<=i⟩
def Itt(K:PySem.W.Frag)(a:Addr):It:=
 ⟨fun i H=>∃xs x,SqT K H a xs/\xs[i]? =some x,fun i H x H'=>H'=H/\∀xs,SqT K H a xs->xs[i]? =some x,fun i H=>∃xs,SqT K H a xs/\xs.length<=i⟩
def Itr(lo:Int)(n:Nat):It:=⟨fun i _=>i < n,fun i H x H'=>H'=H/\x= .int (lo+i),fun i _=>n<=i⟩
def AK{P:Program}{w:World}{K:PySem.W.Frag}{tg:Expr}(a it:Addr):Turn P w K tg (Itl K a) [it] it (fun i h=>h.IsListIter it a i) where
 mem:=by simp
 obj:=fun i h st b hb=>by
  have e:b=it:=by simpa using hb
  subst e;obtain⟨o,e,c,d⟩:=st;exact⟨o,e,fun v z=>by rw[d]at z;cases z⟩
 keep:=fun i h h' st k=>st.at fun o e=>k it (by simp) o e
 item:=by intro X hP hw hK hc i pins s σ H E I hf st hg;subst hP hw hK;obtain⟨xs,x,hq,hx⟩:=hg;obtain⟨aJ,rv,p,hz⟩:=I.list hq;obtain⟨u,hu,ru⟩:=rv.get hx;obtain⟨f0,f1,f2,f3,f4,f5⟩:=hf it (by simp);refine wpAny_pyNext_list_item st p.isList (x:=u) (by simpa using hu) fun h' iA sb=>?_;have I1:Inv X pins σ H {s with heap:=h'}:=I.turned (t':=s.toks) (fun b o hb e=>(sb.2 b hb).trans e) f0 f1 f3 f4 f5;obtain⟨o,e,c,d⟩:=id iA;exact⟨u,rfl,CN (s:={s with heap:=h'}) e c d (by decide) ⟨x,H,I1,ru,⟨rfl,fun ys hy=>by rw[I.lF hy hq];exact hx⟩,iA,fun b hb=>(hf b hb).1⟩⟩
 done:=by intro X hP hw hK hc i pins s σ H E I hf st hg;subst hP hw hK;obtain⟨xs,hq,hx⟩:=hg;obtain⟨aJ,rv,p,hz⟩:=I.list hq;obtain⟨f0,f1,f2,f3,f4,f5⟩:=hf it (by simp);have hl:=rv.length;exact wpAny_pyNext_list_end (I.ok.hd hc) st p.isList (by simp;omega) fun h' eb=>⟨rfl,I.turned (t':=s.toks) (fun b o hb e=>eb b o hb e) f0 f1 f3 f4 f5⟩
 self:=fun _ _ _ _ _ st h=>wpAny_pyIter_listiter st h
def yQ{P:Program}{w:World}{K:PySem.W.Frag}{tg:Expr}(a it:Addr):Turn P w K tg (Itt K a) [it] it (fun i h=>h.IsTupleIter it a i) where
 mem:=by simp
 obj:=fun i h st b hb=>by
  have e:b=it:=by simpa using hb
  subst e;obtain⟨o,e,c,d⟩:=st;exact⟨o,e,fun v z=>by rw[d]at z;cases z⟩
 keep:=fun i h h' st k=>st.at fun o e=>k it (by simp) o e
 item:=by intro X hP hw hK hc i pins s σ H E I hf st hg;subst hP hw hK;obtain⟨xs,x,hq,hx⟩:=hg;obtain⟨aJ,rv,p,hz⟩:=I.tuple hq;obtain⟨u,hu,ru⟩:=rv.get hx;obtain⟨f0,f1,f2,f3,f4,f5⟩:=hf it (by simp);refine wpAny_pyNext_tuple_item st (show s.heap.IsTuple a aJ.toArray from p) (x:=u) (by simpa using hu) fun h' iA sb=>?_;have I1:Inv X pins σ H {s with heap:=h'}:=I.turned (t':=s.toks) (fun b o hb e=>(sb.2 b hb).trans e) f0 f1 f3 f4 f5;obtain⟨o,e,c,d⟩:=id iA;exact⟨u,rfl,CN (s:={s with heap:=h'}) e c d (by decide) ⟨x,H,I1,ru,⟨rfl,fun ys hy=>by rw[I.ma hy hq];exact hx⟩,iA,fun b hb=>(hf b hb).1⟩⟩
 done:=by intro X hP hw hK hc i pins s σ H E I hf st hg;subst hP hw hK;obtain⟨xs,hq,hx⟩:=hg;obtain⟨aJ,rv,p,hz⟩:=I.tuple hq;obtain⟨f0,f1,f2,f3,f4,f5⟩:=hf it (by simp);have hl:=rv.length;exact wpAny_pyNext_tuple_end (I.ok.hd hc) st (show s.heap.IsTuple a aJ.toArray from p) (by simp;omega) fun h' eb=>⟨rfl,I.turned (t':=s.toks) (fun b o hb e=>eb b o hb e) f0 f1 f3 f4 f5⟩
 self:=fun _ _ _ _ _ st h=>wpAny_pyIter_tupleiter st h
def yR{P:Program}{w:World}{K:PySem.W.Frag}{tg:Expr}(it:Addr)(lo:Int)(n:Nat):Turn P w K tg (Itr lo n) [it] it (fun i h=>IsRangeIter h it (lo+(i:Nat)*1) ((n:Int) - (i:Nat)) 1) where
 mem:=by simp
 obj:=fun i h st b hb=>by
  have e:b=it:=by simpa using hb
  subst e;exact⟨_,st,fun v z=>by
   have z':Data.fields _=Data.cell v:=z
   cases z'⟩
 keep:=fun i h h' st k=>k it (by simp) _ st
 item:=by intro X hP hw hK hc i pins s σ H E I hf st hg;subst hP hw hK;obtain⟨f0,f1,f2,f3,f4,f5⟩:=hf it (by simp);have W:=Walks.range (prog:=X.prog) (w:=X.w) (I.ok.hd hc) it lo 1 n;refine W.item i s _ _ hg st fun v h' tk hv iA kk=>?_;obtain⟨t,rfl⟩:=hv;have I1:Inv X pins σ H {s with heap:=h',toks:=tk}:=I.turned (fun b o hb e=>kk b o (by simpa using hb) e) f0 f1 f3 f4 f5;refine⟨_,rfl,CN (s:={s with heap:=h',toks:=tk}) (n:="range_iterator") iA rfl rfl (by decide) ⟨.int (lo+i),H,I1,⟨t,?_⟩,⟨rfl,rfl⟩,iA,fun b hb=>(hf b hb).1⟩⟩;rw[Int.mul_one]
 done:=by intro X hP hw hK hc i pins s σ H E I hf st hg;subst hP hw hK;obtain⟨f0,f1,f2,f3,f4,f5⟩:=hf it (by simp);exact wpAny_pyNext_range_end (I.ok.hd hc) st (by have:n<=i:=hg;omega) fun h' eb=>⟨rfl,I.turned (t':=s.toks) (fun b o hb e=>eb b o hb e) f0 f1 f3 f4 f5⟩
 self:=fun _ _ _ _ _ st h=>wpAny_pyIter_rangeiter st h
section
variable{X:Cx}{tg:Expr}
def B9{H:Hp}{s:Shared}{R:It->Hp->Prop}{E:Value->Shared->Prop}{lo hi:Int}{tk:Nat}(I:Inv X pins σ H s)(h1:-(2 ^ 62)<=lo)(h2:lo < 2 ^ 62)(h3:-(2 ^ 62)<=hi)(h4:hi < 2 ^ 62)
 (q:R (Itr lo (hi - lo).toNat) H):wpAny (model X.prog X.w) X.A (pyIter (.ref s.heap.objs.size)) (PIE X pins σ tg R) E {s with heap:=s.heap.push {cls:= .type "range",data:= .fields #[.int lo t,.int hi u,.int 1 v]},toks:=tk}:=by
 refine wpAny_pyIter_range (IsRange.new ..) (small_one h1 h2 h3 h4) ?_;have I1:Inv X pins σ H {s with heap:=s.heap.push {cls:= .type "range",data:= .fields #[.int lo t,.int hi u,.int 1 v]},toks:=tk}:=I.kept fun b o e=>Heap.get?_push_of_some _ e;refine⟨(s.heap.push {cls:= .type "range",data:= .fields #[.int lo t,.int hi u,.int 1 v]}).objs.size,[(s.heap.push {cls:= .type "range",data:= .fields #[.int lo t,.int hi u,.int 1 v]}).objs.size],_,_,H,rfl,
  I1.kept (t':=tk) fun b o e=>Heap.get?_push_of_some _ e,yR _ lo (hi - lo).toNat,?_,fun b hb=>?_,q⟩
 · have e1:lo+((0:Nat):Int)*1=lo:=(by simp);have e2:(((hi - lo).toNat:Nat):Int) - ((0:Nat):Int)=Builtin.Range.rangeSize lo hi 1:=by rw[rangeSize_one];split <;> omega
   show IsRangeIter _ _ (lo+((0:Nat):Int)*1) ((((hi - lo).toNat:Nat):Int) - ((0:Nat):Int)) 1;rw[e1,e2];exact Heap.get?_push_size _ rfl
 · have e:b=(s.heap.push {cls:= .type "range",data:= .fields #[.int lo t,.int hi u,.int 1 v]}).objs.size:=by simpa using hb
   subst e;exact I1.Eh (qO_ _) (I1.hok.fresh (qO_ _))
def jw(ta:TA):TI:=fun σ H R=>ta σ H fun vs H1=>∃j:Int,vs=[.int j]/\-(2 ^ 62)<=j/\j < 2 ^ 62/\R (Itr 0 j.toNat) H1
def AY{ta:TA}(hg:Gl X "range")(hm:X.mg "range"=none)(ha:PA X [a] ta)(hs:starEach [a] X.env=[(false,eval a X.env)]:=by rfl):PI X tg (.Call (.Name "range" p) [a] [] pos) (jw ta):=by
 intro pins s σ H R I h;refine Call_ (nO I hg hm boot_range (PyProof.Rows.callWith_type1 (thn (ha pos pins s σ H _ I h) fun us s1 ⟨vs,H1,I1,r1,q1⟩=>?_) hs rfl));obtain⟨j,e,q1,q2,q⟩:=q1;subst e;cases r1 with
 |cons r rr=>cases rr;obtain⟨t,rfl⟩:=r;exact call_range_1 (B9 I1 (by omega) (by omega) q1 q2 (by simpa using q))
def PN(wi:TI)(g:TG)(tb:TS):TS:=fun D σ H=>wi σ H fun J H1=>∃W:Nat->Nat->St->Hp->Prop,(∃m,W 0 m σ H1)/\∀i m σ H,W i m σ H->
 (J.stop i H/\D.nx σ H)\/(J.go i H/\∃N:St->Hp->Prop,(∀σ' H',N σ' H'->∃m',m' < m/\W (i+1) m' σ' H')/\∀x H',J.yld i H x H'->g x σ H' fun σ2 H2=>tb {D with nx:=N,ct:=N,bk:=D.nx} σ2 H2)
def qX(fp:List Addr)(h:Heap):List (Addr×Obj):=fp.filterMap fun b=>(h.get? b).map fun o=>(b,o)
def kq{h:Heap}(hb:b∈fp)(e:h.get? b=some o):(b,o)∈qX fp h:=List.mem_filterMap.mpr ⟨b,hb,by rw[e];rfl⟩
def A6{h:Heap}{p:Addr×Obj}(hp:p∈qX fp h):p.1∈fp/\h.get? p.1=some p.2:=by
 obtain⟨b,hb,e⟩:=List.mem_filterMap.mp hp;cases q:h.get? b with
 |none=>rw[q]at e;cases e
 |some o=>rw[q]at e;have e':(b,o)=p:=Option.some.inj e;subst e';exact⟨hb,q⟩
def Inv.pinned{H:Hp}{s:Shared}(I:Inv X pins σ H s)(hf:∀b∈fp,oZ X pins H b)(ho:∀b∈fp,∃o,s.heap.get? b=some o/\∀v,o.data≠.cell v):Inv X (pins++qX fp s.heap) σ H s:=
 I.qD fun p hp=>(qG_.mp hp).elim (fun z=>I.pin p (qE_ _ z)) fun z=>by
   obtain⟨hb,e⟩:=A6 z;obtain⟨f0,f1,f2,_⟩:=hf p.1 hb;obtain⟨o,e',d⟩:=ho p.1 hb;rw[e]at e';cases e';exact⟨e,f0,f1,f2,d⟩
def Inv.lM{H:Hp}(I:Inv X (pins++pl) σ H s):Inv X pins σ H s:=I.qD fun p hp=>I.pin p (qE_ _ (qF_ _ hp))
def CQ{wi:TI}{g:TG}{tb:TS}(hp:PassesOwn (model X.prog X.w) X.A X.env X.xe)(hc:X.calm=true)(hi:PI X tg iter wi)(hg:PG X tg g)(hb:PSs X body tb)
 (hs:∀x,foldedSetIterable iter X.env x=pure x:=by intro _;rfl):PS X (.For tg iter body [] pos) (PN wi g tb):=by
 intro pins s σ H D I h;refine wpAny_For (thn (hi pins s σ H _ I h) fun v s1 h1=>thn h1 fun Pl s2 h2=>?_) hs;obtain⟨it,fp,tn,J,H2,e,I2,T,OF,f2,W,⟨m0,w0⟩,turn⟩:=h2;subst e;have LR:∀{H':Hp},(∀b∈fp,H' b=none)->∀b∈fp,oZ X pins H' b:=fun hn b hb=>⟨hn b hb,(f2 b hb).2⟩;refine codeAny_forLoop_any (fun n s'=>∃i σ' H',Inv X pins σ' H' s'/\tn i s'.heap/\(∀b∈fp,H' b=none)/\W i n σ' H') ?_ m0 ⟨0,σ,H2,I2,OF,fun b hb=>(f2 b hb).1,w0⟩;rintro n s3 ⟨i,σ3,H3,I3,st3,fr3,w3⟩;rcases turn i n σ3 H3 w3 with ⟨stop,qn⟩ |⟨go,N,hN,step⟩
 · refine wpAny_passesOwn hp (thn (T.done X rfl rfl rfl hc i pins s3 σ3 H3 X.xe I3 (LR fr3) st3 stop) fun r s4 ⟨hr,I4⟩=>?_);subst hr;exact wpAny_execs_nil ⟨σ3,H3,I4,qn⟩
 · refine wpAny_passesOwn hp (thn (T.item X rfl rfl rfl hc i pins s3 σ3 H3 X.xe I3 (LR fr3) st3 go) fun r s4 ⟨u,hr,h4⟩=>?_);subst hr;refine wpAny_passesOwn hp (thn h4 fun _ s5 ⟨x,H5,I5,r5,y5,st5,fr5⟩=>?_);have Se:=I5.pinned (LR fr5) (T.obj _ _ st5);refine wpAny_passesOwn hp (thn (hg _ s5 σ3 H5 x u _ Se r5 (step x H5 y5)) fun _ s6 ⟨σ6,H6,I6,q6⟩=>?_);refine wpAny_passesOwn hp (thn (hb _ s6 σ6 H6 _ I6 q6) fun f s7 q7=>?_);have again:∀{σ7:St} {H7:Hp},Inv X (pins++qX fp s5.heap) σ7 H7 s7->N σ7 H7->∃m,m < n/\∃i σ' H',Inv X pins σ' H' s7/\tn i s7.heap/\(∀b∈fp,H' b=none)/\W i m σ' H':=fun {σ7 H7} I7 n7=>by
    obtain⟨m',hm,w7⟩:=hN σ7 H7 n7;refine⟨m',hm,i+1,σ7,H7,I7.lM,T.keep _ _ _ st5 fun b hb o e=>(I7.pin (b,o) (qE_ _ (qE_ _ (kq hb e)))).1,fun b hb=>?_,w7⟩;obtain⟨o,e,d⟩:=T.obj _ _ st5 b hb;exact(I7.pin (b,o) (qE_ _ (qE_ _ (kq hb e)))).2.1
   cases f with
   |next=>obtain⟨σ7,H7,I7,n7⟩:=q7;exact again I7 n7
   |cont=>obtain⟨σ7,H7,I7,n7⟩:=q7;exact again I7 n7
   |brk=>obtain⟨σ7,H7,I7,q7⟩:=q7;exact⟨σ7,H7,I7.lM,q7⟩
   |ret v=>obtain⟨x7,σ7,H7,I7,r7,q7⟩:=q7;exact⟨x7,σ7,H7,I7.lM,r7,q7⟩
end
abbrev R2:=V->V->Hp->VK->Prop
def OpR(X:Cx)(f:Value->Value->Sem Value)(r:R2):Prop:=
 ∀(pins:List (Addr×Obj)) (s:Shared) (σ:St) (H:Hp) (x y:V) (v u:Value) (Q:VK),Inv X pins σ H s->RelV x v->RelV y u->r x y H Q->
  wpAny (model X.prog X.w) X.A (f v u) (EP X pins σ Q) X.xe s
def gF(X:Cx)(f:Value)(r:List V->Hp->VK->Prop):Prop:=
 ∀(pins:List (Addr×Obj)) (s:Shared) (σ:St) (H:Hp) (xs:List V) (us:List Value) (Q:VK),Inv X pins σ H s->Vals xs us->r xs H Q->
  wpAny (model X.prog X.w) X.A (call f us) (EP X pins σ Q) X.xe s
def Qa(X:Cx)(r:V->Hp->(Bool->Hp->Prop)->Prop):Prop:=
 ∀(pins:List (Addr×Obj)) (s:Shared) (σ:St) (H:Hp) (x:V) (v:Value) (Q:Bool->Hp->Prop),Inv X pins σ H s->RelV x v->r x H Q->
  wpAny (model X.prog X.w) X.A (truthy v) (TP X pins σ Q) X.xe s
def tOp(r:R2)(ta tb:TE):TE:=fun σ H Q=>ta σ H fun x H1=>tb σ H1 fun y H2=>r x y H2 Q
def rI(C:Int->Int->Prop)(g:Int->Int->V):R2:=fun x y H Q=>∃i j,x= .int i/\y= .int j/\C i j/\Q (g i j) H
def rI0(g:Int->Int->V):R2:=fun x y H Q=>∃i j,x= .int i/\y= .int j/\Q (g i j) H
section
variable{X:Cx}{a b c:Expr}{ta tb tc:TE}{pos:Pos}
def Jr(ha:PE X a ta)(hb:PE X b tb){H:Hp}{R:V->V->Hp->Prop}(I:Inv X pins σ H s)
 (h:ta σ H fun x H1=>tb σ H1 fun y H2=>R x y H2) {Q:Value->Shared->Prop} {f:Value->Value->Sem Value}
 (hf:∀v u s2 x y H2,Inv X pins σ H2 s2->RelV x v->RelV y u->R x y H2->wpAny (model X.prog X.w) X.A (f v u) Q X.xe s2):
 wpAny (model X.prog X.w) X.A (eval a X.env) (fun v s₁=>wpAny (model X.prog X.w) X.A (eval b X.env) (fun u s₂=>wpAny (model X.prog X.w) X.A (f v u) Q X.xe s₂) X.xe s₁) X.xe s:=by
 refine thn (ha pins s σ H _ I h) fun v s1 ⟨x,H1,I1,r1,q1⟩=>?_;refine thn (hb pins s1 σ H1 _ I1 q1) fun u s2 ⟨y,H2,I2,r2,q2⟩=>?_;exact hf v u s2 x y H2 I2 r1 r2 q2
def MN{r:R2}(ho:OpR X (binaryOp op) r)(ha:PE X a ta)(hb:PE X b tb):PE X (.BinOp a op b pos) (tOp r ta tb):=by
 intro pins s σ H Q I h;exact wpAny_BinOp (Jr ha hb I h fun v u s2 x y H2 I2 rx ry q=>ho pins s2 σ H2 x y v u Q I2 rx ry q)
def opI{f:Value->Value->Sem Value}{C:Int->Int->Prop}{g:Int->Int->Int}
 (rule:∀(i j:Int) (t u:Tok) (s:Shared) (Q:Value->Shared->Prop) (E:Value->Shared->Prop),C i j->Q (.int (g i j) s.toks) {s with toks:=s.toks+1}->wpAny (model X.prog X.w) X.A (f (.int i t) (.int j u)) Q E s):
 OpR X f (rI C fun i j=>.int (g i j)):=by
 intro pins s σ H x y v u Q I rx ry h;obtain⟨i,j,rfl,rfl,hc,q⟩:=h;obtain⟨t,rfl⟩:=rx;obtain⟨t',rfl⟩:=ry;exact rule i j t t' s _ _ hc ⟨.int (g i j),H,I.tok _,⟨_,rfl⟩,q⟩
def Mq{f:Value->Value->Sem Value}{g:Int->Int->Int}
 (rule:∀(i j:Int) (t u:Tok) (s:Shared) (Q:Value->Shared->Prop) (E:Value->Shared->Prop),Q (.int (g i j) s.toks) {s with toks:=s.toks+1}->wpAny (model X.prog X.w) X.A (f (.int i t) (.int j u)) Q E s):
 OpR X f (rI0 fun i j=>.int (g i j)):=by
 intro pins s σ H x y v u Q I rx ry h;obtain⟨i,j,rfl,rfl,q⟩:=h;obtain⟨t,rfl⟩:=rx;obtain⟨t',rfl⟩:=ry;exact rule i j t t' s _ _ ⟨.int (g i j),H,I.tok _,⟨_,rfl⟩,q⟩
def FY{f:Value->Value->Sem Value}{g:Int->Int->Bool}
 (rule:∀(i j:Int) (t u:Tok) (s:Shared) (Q:Value->Shared->Prop) (E:Value->Shared->Prop),Q (.bool (g i j)) s->wpAny (model X.prog X.w) X.A (f (.int i t) (.int j u)) Q E s):
 OpR X f (rI0 fun i j=>.bl (g i j)):=by
 intro pins s σ H x y v u Q I rx ry h;obtain⟨i,j,rfl,rfl,q⟩:=h;obtain⟨t,rfl⟩:=rx;obtain⟨t',rfl⟩:=ry;exact rule i j t t' s _ _ ⟨.bl (g i j),H,I,rfl,q⟩
def Ff(i j:Int):Prop:=(-(2 ^ 64) < i/\i < 2 ^ 64)\/(-(2 ^ 64) < j/\j < 2 ^ 64)
def Ff.ok(h:Ff i j):IntMulOk i j:=by
 rcases h with ⟨h1,h2⟩ |⟨h1,h2⟩
 · exact .of_left (intBits_le_64 h1 h2)
 · exact .of_right (intBits_le_64 h1 h2)
def Jg:OpR X (binaryOp .Add) (rI0 fun i j=>.int (i+j)):=Mq fun _ _ _ _ _ _ _ q=>add_int q
def KI:OpR X (binaryOp .Sub) (rI0 fun i j=>.int (i - j)):=Mq fun _ _ _ _ _ _ _ q=>sub_int q
def Kv:OpR X (binaryOp .Mult) (rI Ff fun i j=>.int (i*j)):=opI fun _ _ _ _ _ _ _ hc q=>mul_int q hc.ok
def JX:OpR X (binaryOp .Mod) (rI (fun _ j=>0 < j) fun i j=>.int (i % j)):=opI fun i j _ _ _ _ _ hc q=>by
 have h1:(0:Int) < j:=hc;exact mod_int' (by omega) (by rw[Int.fmod_eq_emod_of_nonneg i (by omega)];exact q)
def Mw:OpR X (compareOp .Lt) (rI0 fun i j=>.bl (decide (i < j))):=FY fun _ _ _ _ _ _ _ q=>lt_int q
def Mu:OpR X (compareOp .LtE) (rI0 fun i j=>.bl (decide (i<=j))):=FY fun _ _ _ _ _ _ _ q=>le_int q
def MU:OpR X (compareOp .Gt) (rI0 fun i j=>.bl (decide (j < i))):=FY fun _ _ _ _ _ _ _ q=>gt_int q
def Ni:OpR X (compareOp .GtE) (rI0 fun i j=>.bl (decide (j<=i))):=FY fun _ _ _ _ _ _ _ q=>ge_int q
def OpR.or{f:Value->Value->Sem Value}{r r':R2}(h:OpR X f r)(h':OpR X f r'):OpR X f (fun x y H Q=>r x y H Q\/r' x y H Q):=by
 intro pins s σ H x y v u Q I rx ry q;rcases q with q |q
 · exact h pins s σ H x y v u Q I rx ry q
 · exact h' pins s σ H x y v u Q I rx ry q
def kj(b:Expr)(h:op≠.In:=by decide)(h2:op≠.NotIn:=by decide):behindInMarks op b=false:=by
 have e1:(op==CmpOp.In)=false:=by cases op <;> first |rfl |exact absurd rfl h
 have e2:(op==CmpOp.NotIn)=false:=by cases op <;> first |rfl |exact absurd rfl h2
 cases b <;> simp [behindInMarks,e1,e2]
def GO{r:R2}(ho:OpR X (compareOp op) r)(ha:PE X a ta)(hb:PE X b tb)(hm:behindInMarks op b=false):PE X (.Compare a [op] [b] pos) (tOp r ta tb):=by
 intro pins s σ H Q I h;exact wpAny_Compare1 (Jr ha hb I h fun v u s2 x y H2 I2 rx ry q=>ho pins s2 σ H2 x y v u Q I2 rx ry q) hm
def Ir(t:TE):TT:=fun σ H Q=>t σ H fun x H'=>∃k,x= .bl k/\Q k H'
def Gv{r:R2}(ho:OpR X (compareOp op) r)(ha:PE X a ta)(hb:PE X b tb)(hm:behindInMarks op b=false):PT X (.Compare a [op] [b] pos) (Ir (tOp r ta tb)):=by
 intro pins s σ H Q I h;refine wpAny_isTrue_Compare1 (thn (ha pins s σ H _ I h) fun v s1 ⟨x,H1,I1,r1,q1⟩=>thn (hb pins s1 σ H1 _ I1 q1) fun u s2 ⟨y,H2,I2,r2,q2⟩=>
  thn (ho pins s2 σ H2 x y v u _ I2 r1 r2 q2) fun c s3 ⟨z,H3,I3,r3,k,e,q3⟩=>?_) hm
 subst e;cases r3;exact wpAny_truthy_bool ⟨H3,I3,q3⟩
def Ka(K:PySem.W.Frag)(x:V)(H:Hp)(k:Bool):Prop:=
 match x with
 | .non=>k=false
 | .bl b=>k=b
 | .int i=>k=(i !=0)
 | .str y=>y.length<=sizeLine/\k=((y.length:Int)!=0)
 | .byt y=>y.size<=sizeLine/\k=((y.size:Int)!=0)
 | .ref p=>(∃xs,SqL K H p xs/\k= !xs.isEmpty)\/(∃xs,SqT K H p xs/\k= !xs.isEmpty)\/∃kvs,H p=some (.dK kvs)/\k= !kvs.isEmpty
 |_=>False
def zr{κ:Type}{kvs:List (κ×V)}{vs:List (κ×Value)}(r:KV kvs vs):(!vs.isEmpty)= !kvs.isEmpty:=by
 cases r <;> rfl
def sE{xs:List V}{aJ:List Value}(r:Vals xs aJ):(!aJ.toArray.isEmpty)= !xs.isEmpty:=by
 cases r <;> simp
def qZ:(sizeLine:Nat) < 2 ^ 63:=by rw[sizeLine_eq];decide
def J4:Qa X (fun x H Q=>∃k,Ka X.K x H k/\Q k H):=by
 intro pins s σ H x v Q I rx h;obtain⟨k,e,q⟩:=h;have hl:=qZ;have hs:sizeLine=16777216:=sizeLine_eq;cases x with
 |non=>cases rx;have e':k=false:=e;subst e';exact truthy_none ⟨H,I,q⟩
 |bl b=>cases rx;have e':k=b:=e;subst e';exact wpAny_truthy_bool ⟨H,I,q⟩
 |int i=>obtain⟨t,rfl⟩:=rx;have e':k=(i !=0):=e;subst e';exact PySem.P.truthy_int ⟨H,I,q⟩
 |str y=>obtain⟨t,rfl⟩:=rx;obtain⟨hy,e'⟩:y.length<=sizeLine/\k=((y.length:Int)!=0):=e;subst e';exact PySem.P.truthy_str (by omega) ⟨H,I.tok _,q⟩
 |byt y=>obtain⟨t,rfl⟩:=rx;obtain⟨hy,e'⟩:y.size<=sizeLine/\k=((y.size:Int)!=0):=e;subst e';exact PySem.W.truthy_bytes (by omega) ⟨H,I.tok _,q⟩
 |ref p=>
  cases rx;have e':(∃xs,SqL X.K H p xs/\k= !xs.isEmpty)\/(∃xs,SqT X.K H p xs/\k= !xs.isEmpty)\/∃kvs,H p=some (.dK kvs)/\k= !kvs.isEmpty:=e;rcases e' with ⟨xs,hx,e'⟩ |⟨xs,hx,e'⟩ |⟨kvs,hx,e'⟩
  · subst e';obtain⟨aJ,r,pl,hz⟩:=I.list hx;have hlen:=r.length;exact wpAny_truthy_list pl.isList (by simp only[qW_];omega) ⟨H,I.tok _,by rw[sE r];exact q⟩
  · subst e';obtain⟨aJ,r,pl,hz⟩:=I.tuple hx;have hlen:=r.length;exact truthy_tuple pl (by simp only[qW_];omega) ⟨H,I.tok _,by rw[sE r];exact q⟩
  · subst e';obtain⟨hz,hS,vs,r,m⟩:kvs.length<=sizeLine/\(p==sysModules)=false/\∃vs,KV kvs vs/\s.heap.DictOf (bx X.prog X.w) p vs:=I.hok p _ hx;have hlen:kvs.length=vs.length:=Paired.length r;exact wpAny_truthy_dict hS m (by omega) ⟨H,I.tok _,by rw[zr r];exact q⟩
 |_=>exact(show False from e).elim
def Cw(ha:PE X a ta)(he:∀whole,isTrue a X.env whole=(do let v <-whole;standAt a.pos;holding [v] (truthy v))):
 PT X a (fun σ H Q=>ta σ H fun x H'=>∃k,Ka X.K x H' k/\Q k H'):=by
 intro pins s σ H Q I h;exact isTrue_plain (thn (ha pins s σ H _ I h) fun v s1 ⟨x,H1,I1,r1,q1⟩=>J4 pins s1 σ H1 x v Q I1 r1 q1) (he _)
def yI:OpR X (binaryOp .Add) (fun x y H Q=>∃i j,x= .str i/\y= .str j/\i.length+j.length<=sizeLine/\Q (.str (i++j)) H):=by
 intro pins s σ H x y v u Q I rx ry h;obtain⟨i,j,rfl,rfl,hz,q⟩:=h;obtain⟨t,rfl⟩:=rx;obtain⟨t',rfl⟩:=ry;exact add_str (fun t' tk=>⟨.str (i++j),H,I.tok _,⟨_,rfl⟩,q⟩) hz
def vals1(r:Vals [x] us):∃u,us=[u]/\RelV x u:=by
 cases r with
 |cons r1 r2=>cases r2;exact⟨_,rfl,r1⟩
def vals2(r:Vals [x,y] us):∃u w',us=[u,w']/\RelV x u/\RelV y w':=by
 cases r with
 |cons r1 r2=>
  cases r2 with
  |cons r3 r4=>cases r4;exact⟨_,_,rfl,r1,r3⟩
def A4(hc:X.calm=true):gF X (.builtin "max") (fun xs H Q=>∃i j,xs=[.int i,.int j]/\Q (.int (if j > i then j else i)) H):=by
 intro pins s σ H xs us Q I r h;obtain⟨i,j,rfl,q⟩:=h;obtain⟨u,w',rfl,⟨t,rfl⟩,⟨t',rfl⟩⟩:=vals2 r;refine max_two_ints (I.ok.hd hc) fun h' tk k=>⟨_,H,I.kept k,?_,q⟩;by_cases hj:j > i
 · rw[if_pos hj,if_pos hj];exact⟨_,rfl⟩
 · rw[if_neg hj,if_neg hj];exact⟨_,rfl⟩
def Bw:gF X (.type "int") (fun xs H Q=>(∃i,xs=[.int i]/\Q (.int i) H)\/∃k,xs=[.bl k]/\Q (.int (if k then 1 else 0)) H):=by
 intro pins s σ H xs us Q I r h;rcases h with ⟨i,rfl,q⟩ |⟨k,rfl,q⟩
 · obtain⟨u,rfl,t,rfl⟩:=vals1 r;exact call_int_int ⟨.int i,H,I,⟨_,rfl⟩,q⟩
 · obtain⟨u,rfl,r1⟩:=vals1 r;cases r1;exact call_int_bool ⟨.int (if k then 1 else 0),H,I.tok _,⟨_,rfl⟩,q⟩
def Mx(K:PySem.W.Frag)(x:V)(H:Hp)(n:Nat):Prop:=
 match x with
 | .str y=>y.length<=sizeLine/\n=y.length
 | .byt y=>y.size<=sizeLine/\n=y.size
 | .ref p=>(∃xs,SqL K H p xs/\n=xs.length)\/∃xs,SqT K H p xs/\n=xs.length
 |_=>False
def Er:gF X (.builtin "len") (fun xs H Q=>∃x n,xs=[x]/\Mx X.K x H n/\Q (.int n) H):=by
 intro pins s σ H xs us Q I r h;obtain⟨x,n,rfl,e,q⟩:=h;obtain⟨u,rfl,rx⟩:=vals1 r;have hl:=qZ;have hs:sizeLine=16777216:=sizeLine_eq;cases x with
 |str y=>obtain⟨t,rfl⟩:=rx;obtain⟨hy,e'⟩:y.length<=sizeLine/\n=y.length:=e;subst e';exact len_str (by omega) ⟨.int _,H,I.tok _,⟨_,rfl⟩,q⟩
 |byt y=>obtain⟨t,rfl⟩:=rx;obtain⟨hy,e'⟩:y.size<=sizeLine/\n=y.size:=e;subst e';exact PySem.W.len_bytes (by omega) ⟨.int _,H,I.tok _,⟨_,rfl⟩,q⟩
 |ref p=>
  cases rx;have e':(∃xs,SqL X.K H p xs/\n=xs.length)\/∃xs,SqT X.K H p xs/\n=xs.length:=e;rcases e' with ⟨xs,hx,e'⟩ |⟨xs,hx,e'⟩
  · subst e';obtain⟨aJ,r',pl,hz⟩:=I.list hx;have hlen:=r'.length;exact Calls.call_len_list pl.isList (by simp only[qW_];omega) ⟨.int xs.length,H,I.tok _,⟨_,by simp only[qW_];rw[hlen]⟩,q⟩
  · subst e';obtain⟨aJ,r',pl,hz⟩:=I.tuple hx;have hlen:=r'.length;exact len_tuple pl (by simp only[qW_];omega) ⟨.int xs.length,H,I.tok _,⟨_,by simp only[qW_];rw[hlen]⟩,q⟩
 |_=>exact(show False from e).elim
end
structure yU (h:Heap) (x dx C:Addr) (mA:Str->Option Value):Prop where
 obj:h.get? x=some (PySem.W.instObj C dx)
 ns:h.Ns1 dx mA
 ne:dx≠x
def AL{h:Heap}{mA:Str->Option Value}(n:h.Ns1 dx mA):∃od,h.get? dx=some od/\∀name,PySem.W.lookIn name od=some (mA name):=by
 obtain⟨o,es,ep,ho,hd,hk,_,hm⟩:=n;refine⟨o,ho,fun name=>?_⟩;have e:=hm name;unfold nsFind findBy at e;rw[<-Array.find?_toList]at e;unfold PySem.W.lookIn;rw[hd];dsimp only;split
 · rename_i y q;rw[q]at e;exact congrArg some e
 · rename_i q;rw[q]at e;have a:es.toList.any (·.refKey)=false:=by
    rw[List.any_eq_false];intro y hy;obtain⟨z,t,LB⟩:=hk y (Array.mem_toList_iff.mp hy);simp [DictEntry.refKey,LB]
   have a':¬es.toList.any (·.refKey)=true:=by rw[a];exact qC_
   rw[if_neg a'];exact congrArg some e
def yU.look{mA:Str->Option Value}(I:yU h x dx C mA):∃od,PySem.W.InstAt h x (PySem.W.instObj C dx) C (some od)/\∀name,PySem.W.lookIn name od=some (mA name):=
 let ⟨od,ho,hl⟩:=AL I.ns
 ⟨od,⟨I.obj,rfl,rfl,ho⟩,hl⟩
section
variable{prog:Program}{w:World}{A:Around}{E:Value->Shared->Prop}{s:Shared}{K:PySem.W.Frag}{x dx C f:Addr}{mA:Str->Option Value}{name:Str}{v:Value}
def get_map{Q:Value->Shared->Prop}(X:K.In s.heap)(I:yU s.heap x dx C mA)(hg:PySem.W.plainGet K C name=true)(hh:PySem.W.hasDictIn K C=true)
 (ha:PySem.W.findIn K (.ref C) name=some none) (hv:mA name=some v) (U5:PySem.W.handedIn v=true) (h:Q v {s with toks:=s.toks+1}):
 wpAny (model prog w) A (getAttr (.ref x) name expr) Q E s:=by
 obtain⟨od,J,hl⟩:=I.look;exact PySem.W.get_value X J (PySem.W.plainGet_of hg).1 (PySem.W.findObj_own hh ha rfl (by rw[hl,hv])) U5 h
def Cn{Q:Value×List Value->Shared->Prop}(X:K.In s.heap)(I:yU s.heap x dx C mA)(hg:PySem.W.plainGet K C name=true)
 (hf:PySem.W.findIn K (.ref C) name=some (some (.ref f))) (ht:PySem.W.isFn K (.ref f)=true) (hv:mA name=none) (h:Q (.ref f,[.ref x]) s):
 wpAny (model prog w) A (getMethod (.ref x) name pl) Q E s:=by
 obtain⟨od,J,hl⟩:=I.look;exact PySem.W.method_fn X J (PySem.W.plainGet_of hg).1 (PySem.W.plainGet_of hg).2 hf (beq_iff_eq.mp ht) (by show (PySem.W.lookIn name od).map (·.isSome)=some false;rw[hl,hv];rfl) h
def Fz{ns:List Str}{Q:Unit->Shared->Prop}(X:K.In s.heap)(I:yU s.heap x dx C mA)
 (hs:PySem.W.findIn K (.ref C) "__setattr__"=some (some (.builtin "object.__setattr__"))) (hp:PySem.W.plainOver K C=true) (ht:PySem.W.takerIn K C name=some none) (hh:PySem.W.hasDictIn K C=true)
 (hw:PySem.Within mA ns) (hsz:ns.length<=sizeLine)
 (h:∀h',yU h' x dx C (fun y=>if y=name then some v else mA y)->Heap.SameBut dx s.heap h'->Q () {s with heap:=h',toks:=s.toks+2}):
 wpAny (model prog w) A (setAttr (.ref x) name v) Q E s:=by
 obtain⟨od,J,hl⟩:=I.look;refine PySem.W.set_plain X J hs (PySem.W.osa_open (s:={s with toks:=s.toks+1}) (r:=none) X J hp ht fun b=>?_);obtain⟨cd,hc,Me⟩:=PySem.W.any_some hh;have hx:s.heap.get? x=some ⟨.ref C,some dx,.plain,#[]⟩:=I.obj;refine wpAny_bind (wpAny_pure (wpAny_bind (wpAny_bind (wpAny_loadPart hx (wpAny_bind (PySem.W.Looks.here (s:={s with toks:=s.toks+1}) (PySem.W.looks_clsIn X hc) ?_))))));rw[Me];refine wpAny_pure (a:=some dx) (wpAny_bind (wpAny_pure (wpAny_bind ?_)));refine wpAny_nsSet1 (s:={s with toks:=s.toks+1}) I.ns fun h' BL Pd=>?_;obtain⟨oD,WS,WX,V9,Wh,VH⟩:=BL.count (PySem.Within.cons name v hw);refine wpAny_bind (wpAny_lookBehind V9 (by rw[Wh];exact pastItsLine_dict (Nat.le_trans VH (by rw[List.length_cons];omega))) ?_);exact wpAny_pure (h _ ⟨(Pd.2 _ (Ne.symm I.ne)).trans I.obj,BL,I.ne⟩ Pd)
def B0{R:Result->Shared->Prop}(X:K.In s.heap)(hm:PySem.W.makesIn K C=true)
 (hi:PySem.W.findIn K (.ref C) "__init__"=some (some (.ref f))) (hf:PySem.W.typeIn K (.ref f)=some (.type "function"))
 (h:codeAny (model prog w) (A.under (.builtin "type.__call__" ⟨.ref C :: vs,kw⟩)) (.call (.ref f) ⟨.ref (s.heap.objs.size+1) :: vs,kw⟩) (PySem.W.InitBack (s.heap.objs.size+1) R)
   {s with heap:=(s.heap.push PySem.W.emptyDict).push (PySem.W.instObj C s.heap.objs.size)}):
 codeAny (model prog w) A (.call (.ref C) ⟨vs,kw⟩) R s:=by
 obtain⟨hh,g,d,t,os⟩:=s;exact PySem.W.make_core (PySem.W.makes_of X hm) (PySem.W.looks_findIn X hi) (fun self=>PySem.W.bind_fn X self hf) (.inl rfl) h
end
def jn(f:Str)(v:V):List (Str×V)->List (Str×V)
 | []=>[(f,v)]
 |(g,x) :: r=>if g=f then (g,v) :: r else (g,x) :: jn f v r
theorem pP(f g:Str)(v:V):∀fs:List (Str×V),(jn f v fs).lookup g=if g=f then some v else fs.lookup g
 | []=>by
   show List.lookup g [(f,v)]=_;by_cases h:g=f
   · have hb:(g==f)=true:=beq_iff_eq.mpr h;simp only[List.lookup,hb,if_pos h]
   · have hb:(g==f)=false:=beq_eq_false_iff_ne.mpr h;simp only[List.lookup,hb,if_neg h]
 |(k,x) :: r=>by
  have ih:=pP f g v r;rw[show jn f v ((k,x) :: r)=(if k=f then (k,v) :: r else (k,x) :: jn f v r)from rfl];by_cases hk:k=f
  · rw[if_pos hk];by_cases h:g=k
    · have hb:(g==k)=true:=beq_iff_eq.mpr h;simp only[List.lookup,hb,if_pos (h.trans hk)]
    · have hb:(g==k)=false:=beq_eq_false_iff_ne.mpr h;simp only[List.lookup,hb,if_neg (fun e:g=f=>h (e.trans hk.symm))]
  · rw[if_neg hk];by_cases h:g=k
    · have hb:(g==k)=true:=beq_iff_eq.mpr h;simp only[List.lookup,hb,if_neg (fun e:g=f=>hk (h.symm.trans e))]
    · have hb:(g==k)=false:=beq_eq_false_iff_ne.mpr h;simp only[List.lookup,hb];exact ih
theorem pz(f:Str)(v:V):∀fs:List (Str×V),f∈(jn f v fs).map (·.1)/\∀g,g∈fs.map (·.1)->g∈(jn f v fs).map (·.1)
 | []=>⟨by simp [jn],fun g h=>by simp at h⟩
 |(k,x) :: r=>by
  obtain⟨i1,i2⟩:=pz f v r;rw[show jn f v ((k,x) :: r)=(if k=f then (k,v) :: r else (k,x) :: jn f v r)from rfl];by_cases hk:k=f
  · rw[if_pos hk];subst hk;exact⟨by simp,fun g h=>by simpa using h⟩
  · rw[if_neg hk];refine⟨?_,fun g h=>?_⟩
    · rw[List.map_cons];exact qR_ _ i1
    · rw[List.map_cons]at h ⊢;rcases qS_.mp h with e |e
      · exact qS_.mpr (.inl e)
      · exact qR_ _ (i2 g e)
theorem qd(f:Str)(v:V):∀fs:List (Str×V),(jn f v fs).length<=fs.length+1
 | []=>by simp [jn]
 |(k,x) :: r=>by
  have ih:=qd f v r;rw[show jn f v ((k,x) :: r)=(if k=f then (k,v) :: r else (k,x) :: jn f v r)from rfl];by_cases hk:k=f
  · rw[if_pos hk,List.length_cons,List.length_cons];omega
  · rw[if_neg hk,List.length_cons,List.length_cons];omega
def mI.some_of(r:mI (some v) o):∃u,o=some u/\RelV v u:=by
 cases o with
 |none=>exact(show False from r).elim
 |some u=>exact⟨u,rfl,r⟩
def mI.none_of(r:mI none o):o=none:=by
 cases o with
 |none=>rfl
 |some u=>exact(show False from r).elim
def BH(r:RelV v u):PySem.W.handedIn u=true:=by
 cases v with
 |non=>cases (show u=Value.none from r);rfl
 |bl b=>cases (show u=Value.bool b from r);rfl
 |int i=>obtain⟨t,e⟩:=(show ∃t,u=Value.int i t from r);cases e;rfl
 |str x=>obtain⟨t,e⟩:=(show ∃t,u=Value.str x t from r);cases e;rfl
 |byt b=>obtain⟨t,e⟩:=(show ∃t,u=Value.bytes b t from r);cases e;rfl
 |flt b=>obtain⟨t,e⟩:=(show ∃t,u=Value.float b t from r);cases e;rfl
 |ref a=>cases (show u=Value.ref a from r);rfl
 |ty n=>cases (show u=Value.type n from r);rfl
section
variable{P:Program}{w:World}{H H':Hp}{h h':Heap}{a C dx:Addr}{fs WI:List (Str×V)}
def vB(hok:HOk P w H h)(e:H a=some (.ins C dx fs)):∃mA,yU h a dx C mA/\(∀f,mI (fs.lookup f) (mA f))/\PySem.Within mA (fs.map (·.1))/\fs.length<=1000/\H dx=some (.own a):=by
 obtain⟨d,z,ne,ob,mA,n,r,q⟩:=(show bO P w H h a (.ins C dx fs)from hok a _ e);exact⟨mA,⟨ob,n,ne⟩,r,q,z,d⟩
end
structure Cls (K:PySem.W.Frag) (C:Addr):Prop where
 pg:PySem.W.plainGet K C Str.empty=true
 hd:PySem.W.hasDictIn K C=true
 po:PySem.W.plainOver K C=true
 sa:PySem.W.findIn K (.ref C) "__setattr__"=some (some (.builtin "object.__setattr__"))
def Cls.get{K:PySem.W.Frag}{C:Addr}(c:Cls K C)(f:Str):PySem.W.plainGet K C f=true:=c.pg
def jE(K:PySem.W.Frag)(C:Addr)(f:Str):Prop:=PySem.W.findIn K (.ref C) f=some none
def jE.NZ{K:PySem.W.Frag}{C:Addr}{f:Str}(n:jE K C f):PySem.W.takerIn K C f=some none:=by
 unfold PySem.W.takerIn;rw[show PySem.W.findIn K (.ref C) f=some none from n];rfl
structure Meth (K:PySem.W.Frag) (C:Addr) (m:Str) (f:Addr):Prop where
 at_:PySem.W.findIn K (.ref C) m=some (some (.ref f))
 fn:PySem.W.isFn K (.ref f)=true
 kp:PySem.W.keepIn K (.ref f)=true
section
variable{X:Cx}{pins:List (Addr×Obj)}{σ:St}{H:Hp}{s:Shared}{a C dx:Addr}{fs:List (Str×V)}{f:Str}{v:V}{A:Around}{E:Value->Shared->Prop}
def zp{Q:Value->Shared->Prop}(I:Inv X pins σ H s)(e:H a=some (.ins C dx fs))(c:Cls X.K C)(n:jE X.K C f)(l:fs.lookup f=some v)
 (h:∀u s',Inv X pins σ H s'->RelV v u->Q u s'):wpAny (model X.prog X.w) A (getAttr (.ref a) f b) Q E s:=by
 obtain⟨mA,O,r,_,_,_⟩:=vB I.hok e;obtain⟨u,hu,ru⟩:=mI.some_of (v:=v) (o:=mA f) (by rw[<-l];exact r f);exact get_map I.kIn O (c.get f) c.hd n hu (BH ru) (h u _ (I.tok _) ru)
def m7{Q:Value×List Value->Shared->Prop}(I:Inv X pins σ H s)(e:H a=some (.ins C dx fs))(c:Cls X.K C)(k:Meth X.K C m g)(l:fs.lookup m=none)
 (h:Q (.ref g,[.ref a]) s):wpAny (model X.prog X.w) A (getMethod (.ref a) m pl) Q E s:=by
 obtain⟨mA,O,r,_,_,_⟩:=vB I.hok e;have hn:mA m=none:=mI.none_of (by rw[<-l];exact r m);exact Cn I.kIn O (c.get m) k.at_ k.fn hn h
def yz{Q:Unit->Shared->Prop}(I:Inv X pins σ H s)(e:H a=some (.ins C dx fs))(c:Cls X.K C)(n:jE X.K C f)(hl:fs.length < 1000)(ry:RelV y u)
 (h:∀s',Inv X pins σ (upd H a (.ins C dx (jn f y fs))) s'->Q () s'):wpAny (model X.prog X.w) A (setAttr (.ref a) f u) Q E s:=by
 obtain⟨mA,O,r,wi,_,ho⟩:=vB I.hok e;have hz:(fs.map (·.1)).length<=sizeLine:=by rw[qM_,sizeLine_eq];omega
 refine Fz I.kIn O c.sa c.po n.NZ c.hd wi hz fun h' O' sb=>h _ ?_;have hd:∃o,h'.get? dx=some o:=let ⟨o,_,_,e',_⟩:=O'.ns;⟨o,e'⟩;refine I.write (x:=a) (e:=dx) (by rw[e];exact True.intro) (.inr ho) (fun b q hb z=>(sb.2 b hb).trans z) hd ?_;refine⟨by rw[aI O.ne];exact ho,?_,O.ne,O'.obj,_,O'.ns,fun g=>?_,fun g hg=>?_⟩
 · have:=qd f y fs;omega
 · show mI ((jn f y fs).lookup g) (if g=f then some u else mA g);rw[pP];by_cases q:g=f
   · rw[if_pos q,if_pos q];exact ry
   · rw[if_neg q,if_neg q];exact r g
 · by_cases q:g=f
   · rw[q];exact(pz f y fs).1
   · refine(pz f y fs).2 g (wi g fun z=>hg ?_);show (if g=f then some u else mA g)=none;rw[if_neg q];exact z
def Inv.made(I:Inv X pins σ H s):Inv X pins σ (upd (upd H s.heap.objs.size (.own (s.heap.objs.size+1))) (s.heap.objs.size+1) (.ins C s.heap.objs.size []))
 {s with heap:=(s.heap.push PySem.W.emptyDict).push (PySem.W.instObj C s.heap.objs.size)}:=by
 have e1:(s.heap.push PySem.W.emptyDict).get? s.heap.objs.size=some PySem.W.emptyDict:=Heap.get?_push_size s.heap rfl;have e2:((s.heap.push PySem.W.emptyDict).push (PySem.W.instObj C s.heap.objs.size)).get? (s.heap.objs.size+1)=some (PySem.W.instObj C s.heap.objs.size):=by
  have:=Heap.get?_push_size (s.heap.push PySem.W.emptyDict) (o:=PySem.W.instObj C s.heap.objs.size) rfl
  rwa [Heap.size_push]at this
 have e3:(s.heap.push PySem.W.emptyDict).Ns s.heap.objs.size (fun _=>none):=⟨PySem.W.emptyDict,#[],_,e1,rfl,(fun e he=>absurd he (by simp)),fun _=>rfl⟩;have I1:=I.laid (a:=s.heap.objs.size) (o:= .own (s.heap.objs.size+1)) (h':=s.heap.push PySem.W.emptyDict) (t':=s.toks) (fun b u q=>Heap.get?_push_of_some _ q) (qO_ _) ⟨_,e1⟩;refine I1.laid (a:=s.heap.objs.size+1) (o:= .ins C s.heap.objs.size []) (t':=s.toks) (fun b u q=>Heap.get?_push_of_some _ q) (Nat.le_of_eq (Heap.size_push _ _)) ?_;have ne:s.heap.objs.size≠s.heap.objs.size+1:=Nat.ne_of_lt (Nat.lt_succ_self _);refine⟨by rw[aI ne,aH],qf_ _,ne,e2,fun _=>none,(Heap.Ns1.of_empty e3).at fun o q=>Heap.get?_push_of_some _ q,fun _=>True.intro,fun y hy=>absurd rfl hy⟩
def FF{Q:Value->Shared->Prop}(hb:attributeBase e f env (eval e env)=eval e env)
 (h:wpAny (model prog w) A (eval e env) (fun o s₁=>wpAny (model prog w) A (getAttr o f true) Q E s₁) E s):wpAny (model prog w) A (eval (.Attribute e f pos) env) Q E s:=
 Attribute_any_ h (by rw[arm_eval_Attribute,hb])
end
def P8(K:PySem.W.Frag)(ta:TE)(f:Str):TE:=fun σ H Q=>ta σ H fun x H1=>∃a C dx fs v,x= .ref a/\H1 a=some (.ins C dx fs)/\Cls K C/\jE K C f/\fs.lookup f=some v/\Q v H1
def PM(K:PySem.W.Frag)(ta tv:TE)(f:Str):TS:=fun D σ H=>tv σ H fun y H1=>ta σ H1 fun x H2=>∃a C dx fs,x= .ref a/\H2 a=some (.ins C dx fs)/\Cls K C/\jE K C f/\fs.length < 1000/\
 D.nx σ (upd H2 a (.ins C dx (jn f y fs)))
section
variable{X:Cx}{o e value:Expr}{f:Str}{pos pos' WC:Pos}{ta tv:TE}
def Jo(he:PE X e ta)(hb:attributeBase e f X.env (eval e X.env)=eval e X.env):PE X (.Attribute e f pos) (P8 X.K ta f):=by
 intro pins s σ H Q I h;refine FF hb (thn (he pins s σ H _ I h) fun u s1 ⟨x,H1,I1,rx,a,C,dx,fs,v,ex,ea,c,n,l,q⟩=>?_);subst ex;obtain rfl:u=Value.ref a:=rx;exact zp I1 ea c n l fun u' s2 I2 ru=>⟨v,H1,I2,ru,q⟩
def JE(ha:PE X o ta)(hv:PE X value tv)(hs:swapsWith value (some (.Attribute o f pos')) pos.line X.env=pure false):PS X (.Assign [.Attribute o f pos'] value pos) (PM X.K ta tv f):=by
 intro pins s σ H D I h;refine plainObj_wpAny_Assign_Attribute (thn (hv pins s σ H _ I h) fun u s1 ⟨y,H1,I1,ry,q⟩=>thn (ha pins s1 σ H1 _ I1 q) fun ov s2 ⟨x,H2,I2,rx,a,C,dx,fs,ex,ea,c,n,l,q2⟩=>?_) hs;subst ex;obtain rfl:ov=Value.ref a:=rx;exact yz I2 ea c n l ry fun s3 I3=>⟨σ,_,I3,q2⟩
end
structure dR (k:Nat) (A:Around):Prop where
 hd:A.handled=none
 dp:A.depth+3*k+5 < recursionLimit
 un:A.units+16*k+200 < cLine
def dR.mono{j k:Nat}{A:Around}(r:dR k A)(h:j<=k):dR j A:=⟨r.hd,by have:=r.dp;omega,by have:=r.un;omega⟩
theorem dR.deeper{A:Around}(r:dR (k+1) A)(env:Env):dR k (A.deeper env):=
 ⟨r.hd,by have:=r.dp;show A.depth+1+3*k+5 < _;omega,by have:=r.un;show A.units+3+16*k+200 < _;omega⟩
def zi{A:Around}:(A.under (.builtin "type.__call__" ⟨.ref C :: us,kw⟩)).depth=A.depth+1:=by
 first |rfl |simp [Around.under,Code.weight,Code.isCreation,Code.isGuard,Code.isCaller,Code.frames,Code.isFrame,guardIds]
def yL{A:Around}:(A.under (.builtin "type.__call__" ⟨.ref C :: us,kw⟩)).units=A.units+1:=by
 first |rfl |simp [Around.under,Code.cUnits,Code.frames,Code.isFrame]
def dR.make{A:Around}(r:dR (k+1) A)(C:Addr)(us:List Value)(kw:List (Str×Value)):dR k (A.under (.builtin "type.__call__" ⟨.ref C :: us,kw⟩)):=
 ⟨r.hd,by have:=r.dp;rw[zi];omega,by have:=r.un;rw[yL];omega⟩
theorem dR.depth{A:Around}(r:dR k A):A.depth < recursionLimit:=by have:=r.dp;omega
theorem dR.units{k:Nat}{A:Around}(r:dR k A):A.units+64 < cLine:=by have:=r.un;omega
def JG:TA:=fun _ H Q=>Q [] H
def NF(ta:TE)(tr:TA):TA:=fun σ H Q=>ta σ H fun x H1=>tr σ H1 fun xs H2=>Q (x :: xs) H2
section
variable{X:Cx}{e:Expr}{es:List Expr}{te:TE}{t:TA}{pos:Pos}
def je:PA X [] JG:=fun _ _ _ _ H Q I h=>Calls.spliced_nil ⟨[],H,I,.nil,h⟩
def eB(ha:PE X e te)(hr:PA X es t)(hs:starEach (e :: es) X.env=(false,eval e X.env) :: starEach es X.env:=by rfl):PA X (e :: es) (NF te t):=by
 intro pos pins s σ H Q I h;rw[hs];show wpAny _ _ (spliced ((false,eval e X.env) :: backTo pos (starEach es X.env))) _ _ s;refine Calls.spliced_cons (thn (ha pins s σ H _ I h) fun u s1 ⟨x,H1,I1,r1,q1⟩=>?_);exact thn (hr pos pins s1 σ H1 _ I1 q1) fun us s2 ⟨xs,H2,I2,r2,q2⟩=>⟨x :: xs,H2,I2,.cons r1 r2,q2⟩
def PJ(t:TA):TE:=fun σ H Q=>t σ H fun xs H1=>xs.length<=sizeLine/\∀p,H1 p=none->Q (.ref p) (upd H1 p (.tup xs))
def Pq(t:TA):TE:=fun σ H Q=>t σ H fun xs H1=>xs.length<=sizeLine/\∀p,H1 p=none->Q (.ref p) (upd H1 p (.lst xs))
def CI{x1}(h:PA X es t):PE X (.Tuple es x1 pos) (PJ t):=by
 intro pins s σ H Q I hq;refine wpAny_Tuple_spliced (thn (h pos pins s σ H _ I hq) fun us s1 ⟨xs,H1,I1,r,z,q⟩=>⟨by rw[<-r.length];exact z,?_⟩);have hf:H1 s1.heap.objs.size=none:=I1.hok.fresh (qO_ _);refine⟨.ref s1.heap.objs.size,upd H1 s1.heap.objs.size (.tup xs),I1.laid (t':=s1.toks) (fun b u e=>Heap.get?_push_of_some _ e) (qO_ _) ?_,rfl,q _ hf⟩;exact⟨z,us,r,⟨_,Heap.get?_push_size _ rfl,rfl,_,rfl⟩⟩
def IX(h:PA X es t):PE X (.List es pos) (Pq t):=by
 intro pins s σ H Q I hq;refine wpAny_List_spliced (thn (h pos pins s σ H _ I hq) fun us s1 ⟨xs,H1,I1,r,z,q⟩=>⟨by rw[<-r.length];exact z,?_⟩);have hf:H1 s1.heap.objs.size=none:=I1.hok.fresh (qO_ _);refine⟨.ref s1.heap.objs.size,upd H1 s1.heap.objs.size (.lst xs),I1.laid (t':=s1.toks) (fun b u e=>Heap.get?_push_of_some _ e) (qO_ _) ?_,rfl,q _ hf⟩;exact⟨z,us,0,r,Heap.get?_push_size _ rfl⟩
end
abbrev Sp:=List V->Hp->VK->XK->Prop
abbrev CXT:=List Env->Hp->Shared->XK->Value->Shared->Prop
structure yF (P:Program) (w:World) (K:PySem.W.Frag) (mg:Str->Option Value) (base:Heap) (A:Around) (outer:List Env) (s:Shared) (H:Hp):Prop where
 frames:A.frames=some outer
 mod:Mod K mg base
 bs:∀b o,base.get? b=some o->s.heap.get? b=some o/\H b=none
 bsz:base.objs.size<=s.heap.objs.size
 nQ:s.heap.FunFrames base outer
 frf:∀b∈frs outer,H b=none
 hok:HOk P w H s.heap
 bare:AllBare s.gens
def CE(outer:List Env)(P:Program)(w:World)(H:Hp)(s:Shared)(Q:VK)(u:Value)(s':Shared):Prop:=
 ∃v H',s'.os=s.os/\AllBare s'.gens/\Un (frs outer) [] H H' s.heap s'.heap/\HOk P w H' s'.heap/\RelV v u/\Q v H'
def CR(CX:CXT)(outer:List Env)(P:Program)(w:World)(H:Hp)(s:Shared)(Q:VK)(E:XK)(r:Result)(s':Shared):Prop:=
 match r with
 | .ok (.ret u)=>CE outer P w H s Q u s'
 | .ok _=>False
 | .error e=>CX outer H s E e s'
structure cj (P:Program) (w:World) (K:PySem.W.Frag) (mg:Str->Option Value) (base:Heap) (CX:CXT) (k:Nat) (f:Addr) (fd:FuncData) (ps:List Str) (sp:Sp):Prop where
 len:∀vs H Q E,sp vs H Q E->vs.length=ps.length
 run:∀(A:Around) (outer:List Env) (s:Shared) (H:Hp) (args:Args) (us:List Value) (vs:List V) (Q:VK) (E:XK),dR k A->yF P w K mg base A outer s H->BindsTo s fd args (ps.zip us)->Vals vs us->sp vs H Q E->
  codeAny (model P w) A (.call (.ref f) args) (CR CX outer P w H s Q E) s
def cj.imp{P:Program}{w:World}{K:PySem.W.Frag}{mg:Str->Option Value}{base:Heap}{CX:CXT}{k:Nat}{f:Addr}{fd:FuncData}{ps:List Str}{sp sp':Sp}(F:cj P w K mg base CX k f fd ps sp)
 (h:∀vs H Q E,sp' vs H Q E->sp vs H Q E):cj P w K mg base CX k f fd ps sp':=
 ⟨fun vs H Q E q=>F.len vs H Q E (h _ _ _ _ q),fun A outer s H args us vs Q E hr he hb hv hs=>F.run A outer s H args us vs Q E hr he hb hv (h _ _ _ _ hs)⟩
def yF.make{P:Program}{w:World}{K:PySem.W.Frag}{mg:Str->Option Value}{base:Heap}{A:Around}{outer:List Env}{s:Shared}{H:Hp}(e:yF P w K mg base A outer s H)(C:Addr)(us:List Value)(kw:List (Str×Value)):
 yF P w K mg base (A.under (.builtin "type.__call__" ⟨.ref C :: us,kw⟩)) outer s H:=⟨by first |exact e.frames |(simpa [Around.under,Code.envs,Code.isFrame,pushEnvs] using e.frames),e.mod,e.bs,e.bsz,e.nQ,e.frf,e.hok,e.bare⟩
section
variable{X:Cx}{pins:List (Addr×Obj)}{σ:St}{H:Hp}{s s':Shared}
def Inv.Jc(I:Inv X pins σ H s):yF X.prog X.w X.K X.mg X.base X.A X.stack s H:=
 ⟨I.ok.frames,I.ok.mod,I.bs,Nat.le_trans I.ok.bsz I.sz,I.stack,I.qF,I.hok,I.bare⟩
def Inv.after{Q:VK}(I:Inv X pins σ H s)(h:CE X.stack X.prog X.w H s Q u s'):EP X pins σ Q u s':=by
 obtain⟨v,H',os,bare,un,hok,r,q⟩:=h;obtain⟨hh,g,d,t,Vg⟩:=s';obtain rfl:Vg=s.os:=os;exact⟨v,H',I.call (h':=hh) (g':=g) (d':=d) (t':=t) (ch:=[]) un hok bare (fun b z=>absurd z (by simp)),r,q⟩
end
def M0(sp:Sp)(sI:List V)(E:XK)(t:TA):TE:=fun σ H Q=>t σ H fun vs H1=>sp (vs++sI) H1 Q E
def Ci(C:Addr)(m:Str)(sp:Sp)(sI:List V)(E:XK)(ta:TE)(t:TA):TE:=fun σ H Q=>ta σ H fun x H1=>∃a dx fs,x= .ref a/\H1 a=some (.ins C dx fs)/\fs.lookup m=none/\
 t σ H1 fun vs H2=>sp (x :: (vs++sI)) H2 Q E
def ID(C:Addr)(sp:Sp)(sI:List V)(E:XK)(t:TA):TE:=fun σ H Q=>t σ H fun vs H1=>∀x dx,H1 x=none->H1 dx=none->dx≠x->
 sp (.ref x :: (vs++sI)) (upd (upd H1 dx (.own x)) x (.ins C dx [])) (fun v H2=>v= .non/\Q (.ref x) H2) E
def Binds(K:PySem.W.Frag)(fd:FuncData)(ps:List Str)(ds:List Value):Prop:=
 ∀(s:Shared) (us:List Value),K.In s.heap->(us++ds).length=ps.length->BindsTo s fd ⟨us,[]⟩ (ps.zip (us++ds))
def Binds.all{K:PySem.W.Frag}{fd:FuncData}{ps:List Str}(h:∀us:List Value,us.length=ps.length->bindArgs fd ⟨us,[]⟩=pure (ps.zip us)):Binds K fd ps []:=fun s us _ hl=>by
 rw[qY_]at hl ⊢;exact .of_eq (h us hl)
def fQ(CX:CXT)(X:Cx)(E:XK):Prop:=∀(pins:List (Addr×Obj)) (σ:St) (H:Hp) (s:Shared) (e:Value) (s':Shared),Inv X pins σ H s->CX X.stack H s E e s'->X.xe e s'
section
variable{X:Cx}{CX:CXT}{k:Nat}{f C:Addr}{fd:FuncData}{ps:List Str}{sp:Sp}{sI:List V}{ds:List Value}{E:XK}{x m:Str}{p pos apos:Pos}{e o:Expr}{es:List Expr}{ta:TE}{t:TA}
def zm{H:Hp}{Q:VK}(F:cj X.prog X.w X.K X.mg X.base CX k f fd ps sp)(hr:dR k X.A)(hb:Binds X.K fd ps ds)(hd:Vals sI ds)(hx:fQ CX X E)
 (I:Inv X pins σ H s) (r:Vals vs us) (h:sp (vs++sI) H Q E):wpAny (model X.prog X.w) X.A (call (.ref f) us) (EP X pins σ Q) X.xe s:=by
 have r2:Vals (vs++sI) (us++ds):=r.append hd;have hl:(us++ds).length=ps.length:=by rw[<-r2.length];exact F.len _ _ _ _ h
 refine wpAny_call (codeAny_mono (F.run X.A X.stack s H ⟨us,[]⟩ (us++ds) (vs++sI) Q E hr I.Jc (hb s us I.kIn hl) r2 h) fun r s' hq=>?_);cases r with
 |error e=>exact hx pins σ H s e s' I hq
 |ok fl=>
  cases fl with
  |ret u=>exact I.after hq
  |next=>cases hq
  |brk=>cases hq
  |cont=>cases hq
def Ha(F:cj X.prog X.w X.K X.mg X.base CX k f fd ps sp)(hr:dR k X.A)(hg:Gl X x)(hm:X.mg x=some (.ref f))(hk:PySem.W.keepIn X.K (.ref f)=true)(hb:Binds X.K fd ps ds)(hd:Vals sI ds)(hx:fQ CX X E)
 (ha:PA X (e :: es) t) (qg:(x==("__debug__":Str))=false:=by decide) (he:starEach (e :: es) X.env=(false,eval e X.env) :: starEach es X.env:=by rfl) (gZ:(backTo pos (starEach es X.env)).any (·.1)=false:=by rfl):
 PE X (.Call (.Name x p) (e :: es) [] pos) (M0 sp sI E t):=by
 intro pins s σ H Q I h;refine wpAny_Call_Name_kw (mj I hg hm ?_ qg);refine PySem.W.callWith_K (h₀:=X.base) I.ok.mod.kin hk (thn (ha pos pins s σ H _ I h) fun us s1 ⟨vs,H1,I1,r,q⟩=>⟨I1.kIn,?_⟩) he gZ;exact zm F hr hb hd hx I1 r q
def Fo(he:PE X o ta)(c:Cls X.K C)(hm:Meth X.K C m f)(F:cj X.prog X.w X.K X.mg X.base CX k f fd ps sp)(hr:dR k X.A)(hb:Binds X.K fd ps ds)(hd:Vals sI ds)(hx:fQ CX X E)(ha:PA X (e :: es) t)
 (HE:starEach (e :: es) X.env=(false,eval e X.env) :: starEach es X.env:=by rfl) (gZ:(backTo pos (starEach es X.env)).any (·.1)=false:=by rfl)
 (ht:eval (.Call (.Attribute o m apos) (e :: es) [] pos) X.env=(do
   let ov <-eval o X.env
   standAt apos.atName
   let (f,first) <-holding [ov] (getMethod ov m pl)
   callWith pos f first (backTo pos (starEach (e :: es) X.env)) (backToKw pos (keywordEach [] X.env))):=by rfl):
 PE X (.Call (.Attribute o m apos) (e :: es) [] pos) (Ci C m sp sI E ta t):=by
 intro pins s σ H Q I h;refine PySem.W.methodCall_KW (pl:=pl) (thn (he pins s σ H _ I h) fun u s1 ⟨x,H1,I1,rx,a,dx,fs,ex,ea,l,q⟩=>?_) ht;subst ex;obtain rfl:u=Value.ref a:=rx;refine m7 I1 ea c hm l ?_;refine PySem.W.callWith_K (first:=[.ref a]) (h₀:=X.base) I.ok.mod.kin hm.kp (thn (ha pos pins s1 σ H1 _ I1 q) fun us s2 ⟨vs,H2,I2,r,q2⟩=>⟨I2.kIn,?_⟩) HE gZ
 exact zm (us:= .ref a :: us) (vs:= .ref a :: vs) F hr hb hd hx I2 (.cons rfl r) q2
def DJ(he:PE X o ta)(c:Cls X.K C)(hm:Meth X.K C m f)(F:cj X.prog X.w X.K X.mg X.base CX k f fd ps sp)(hr:dR k X.A)(hb:Binds X.K fd ps ds)(hd:Vals sI ds)(hx:fQ CX X E)
 (ht:eval (.Call (.Attribute o m apos) [] [] pos) X.env=(do
   let ov <-eval o X.env
   standAt apos.atName
   let (f,first) <-holding [ov] (getMethod ov m pl)
   callWith pos f first (backTo pos (starEach [] X.env)) (backToKw pos (keywordEach [] X.env))):=by rfl):
 PE X (.Call (.Attribute o m apos) [] [] pos) (Ci C m sp sI E ta JG):=by
 intro pins s σ H Q I h;refine PySem.W.methodCall_KW (pl:=pl) (thn (he pins s σ H _ I h) fun u s1 ⟨x,H1,I1,rx,a,dx,fs,ex,ea,l,q⟩=>?_) ht;subst ex;obtain rfl:u=Value.ref a:=rx;refine m7 I1 ea c hm l ?_;exact PySem.W.callWith_K0 (first:=[.ref a]) I1.kIn hm.kp (zm (us:=[.ref a]) (vs:=[.ref a]) F hr hb hd hx I1 (.cons rfl .nil) q)
structure Mk (K:PySem.W.Frag) (C f:Addr):Prop where
 makes:PySem.W.makesIn K C=true
 init:PySem.W.findIn K (.ref C) "__init__"=some (some (.ref f))
 fn:PySem.W.isFn K (.ref f)=true
 kp:PySem.W.keepIn K (.ref C)=true
def wH{H:Hp}{Q:VK}(M:Mk X.K C f)(F:cj X.prog X.w X.K X.mg X.base CX k f fd ps sp)(hr:dR (k+1) X.A)(hb:Binds X.K fd ps ds)(hd:Vals sI ds)
 (hx:fQ CX X E) (I:Inv X pins σ H s) (r:Vals vs us)
 (h:∀x dx,H x=none->H dx=none->dx≠x->sp (.ref x :: (vs++sI)) (upd (upd H dx (.own x)) x (.ins C dx [])) (fun v H2=>v= .non/\Q (.ref x) H2) E):
 wpAny (model X.prog X.w) X.A (call (.ref C) us) (EP X pins σ Q) X.xe s:=by
 have hq:=h (s.heap.objs.size+1) s.heap.objs.size (I.hok.fresh (Nat.le_succ _)) (I.hok.fresh (qO_ _)) (Nat.ne_of_lt (Nat.lt_succ_self _));have I2:=Inv.made (C:=C) I;have r2:Vals (V.ref (s.heap.objs.size+1) :: (vs++sI)) (Value.ref (s.heap.objs.size+1) :: (us++ds)):= .cons rfl (r.append hd);have hl:(Value.ref (s.heap.objs.size+1) :: us++ds).length=ps.length:=by have e:=r2.length;rw[F.len _ _ _ _ hq]at e;exact e.symm
 refine wpAny_call (B0 (f:=f) I.kIn M.makes M.init (beq_iff_eq.mp M.fn) (codeAny_mono (F.run _ X.stack _ _ ⟨Value.ref (s.heap.objs.size+1) :: us,[]⟩ (Value.ref (s.heap.objs.size+1) :: (us++ds)) _ _ E (hr.make C us [])
  (I2.Jc.make C us []) (hb _ (Value.ref (s.heap.objs.size+1) :: us) I2.kIn hl) r2 hq) fun r s' sH=>?_))
 cases r with
 |error e=>exact hx pins σ _ _ e s' I2 sH
 |ok fl=>
  cases fl with
  |ret u=>obtain⟨v,H',I3,rv,ev,q3⟩:=I2.after sH;subst ev;exact⟨rv,⟨V.ref (s.heap.objs.size+1),H',I3,rfl,q3⟩⟩
  |next=>cases sH
  |brk=>cases sH
  |cont=>cases sH
def Gj(M:Mk X.K C f)(F:cj X.prog X.w X.K X.mg X.base CX k f fd ps sp)(hr:dR (k+1) X.A)(hg:Gl X x)(hm:X.mg x=some (.ref C))(hb:Binds X.K fd ps ds)(hd:Vals sI ds)(hx:fQ CX X E)
 (ha:PA X (e :: es) t) (qg:(x==("__debug__":Str))=false:=by decide) (he:starEach (e :: es) X.env=(false,eval e X.env) :: starEach es X.env:=by rfl) (gZ:(backTo pos (starEach es X.env)).any (·.1)=false:=by rfl):
 PE X (.Call (.Name x p) (e :: es) [] pos) (ID C sp sI E t):=by
 intro pins s σ H Q I h;refine wpAny_Call_Name_kw (mj I hg hm ?_ qg);refine PySem.W.callWith_K (h₀:=X.base) I.ok.mod.kin M.kp (thn (ha pos pins s σ H _ I h) fun us s1 ⟨vs,H1,I1,r,q⟩=>⟨I1.kIn,?_⟩) he gZ;exact wH M F hr hb hd hx I1 r q
def B8(M:Mk X.K C f)(F:cj X.prog X.w X.K X.mg X.base CX k f fd ps sp)(hr:dR (k+1) X.A)(hg:Gl X x)(hm:X.mg x=some (.ref C))(hb:Binds X.K fd ps ds)(hd:Vals sI ds)(hx:fQ CX X E)
 (qg:(x==("__debug__":Str))=false:=by decide):PE X (.Call (.Name x p) [] [] pos) (ID C sp sI E JG):=by
 intro pins s σ H Q I h;refine wpAny_Call_Name_kw (mj I hg hm ?_ qg);exact PySem.W.callWith_K0 I.kIn M.kp (wH (us:=[]) M F hr hb hd hx I .nil h)
end
structure iG (N P:List Str) (sc:Scope):Prop where
 kind:sc.kind= .function
 co:sc.isCoroutine=false
 gen:sc.isGenerator=false
 nd:N.Nodup
 pre:N.take P.length=P
 par:∀x∈P,sc.names.lookup x=some .local\/sc.names.lookup x=some .cell
 KW:∀y∈sc.names,y.2≠.free
theorem t8{kindOf:Str->Option NameKind}:∀{binds:List (Str×Value)} {m:Str->Option Value},(∀v,(x,v)∉binds)->bindL kindOf binds m x=m x
 | [],_,_=>rfl
 |(n,v) :: r,m,h=>by
  unfold bindL;rw[t8 fun w hw=>h w (qR_ _ hw)];split
  · have:x≠n:=by rintro rfl;exact h v qI_
    simp [this]
  · rfl
theorem tH{kindOf:Str->Option NameKind}:∀{binds:List (Str×Value)} {m:Str->Option Value},(∀v,(x,v)∉binds)->bindC kindOf binds m x=m x
 | [],_,_=>rfl
 |(n,v) :: r,m,h=>by
  unfold bindC;rw[tH fun w hw=>h w (qR_ _ hw)];split
  · rfl
  · have:x≠n:=by rintro rfl;exact h v qI_
    simp [this]
theorem uh{kindOf:Str->Option NameKind}:∀{P:List Str} {vs:List Value} {i:Nat} {m:Str->Option Value},P.Nodup->P[i]? =some x->vs[i]? =some v->kindOf x=some .local->
 bindL kindOf (P.zip vs) m x=some v
 | [],_,_,_,_,h,_,_=>by simp at h
 |_ :: _,[],_,_,_,_,h,_=>by simp at h
 |p :: P,w :: vs,0,m,nd,h1,h2,hk=>by
  simp at h1 h2;subst h1;subst h2;show bindL kindOf ((p,w) :: P.zip vs) m p=_;unfold bindL;rw[t8 fun v hv=>(List.nodup_cons.mp nd).1 (List.of_mem_zip hv).1,if_pos hk];simp
 |p :: P,w :: vs,i+1,m,nd,h1,h2,hk=>by
  show bindL kindOf ((p,w) :: P.zip vs) m x=_;unfold bindL;exact uh (i:=i) (List.nodup_cons.mp nd).2 (by simpa using h1) (by simpa using h2) hk
theorem t6{kindOf:Str->Option NameKind}:∀{P:List Str} {vs:List Value} {i:Nat} {m:Str->Option Value},P.Nodup->P[i]? =some x->vs[i]? =some v->kindOf x≠some .local->
 bindC kindOf (P.zip vs) m x=some v
 | [],_,_,_,_,h,_,_=>by simp at h
 |_ :: _,[],_,_,_,_,h,_=>by simp at h
 |p :: P,w :: vs,0,m,nd,h1,h2,hk=>by
  simp at h1 h2;subst h1;subst h2;show bindC kindOf ((p,w) :: P.zip vs) m p=_;unfold bindC;rw[tH fun v hv=>(List.nodup_cons.mp nd).1 (List.of_mem_zip hv).1,if_neg hk];simp
 |p :: P,w :: vs,i+1,m,nd,h1,h2,hk=>by
  show bindC kindOf ((p,w) :: P.zip vs) m x=_;unfold bindC;exact t6 (i:=i) (List.nodup_cons.mp nd).2 (by simpa using h1) (by simpa using h2) hk
def start(N:List Str)(vs:List V):St:=vs.map some++List.replicate (N.length - vs.length) none
def mK(CX:CXT)(P:Program)(w:World)(K:PySem.W.Frag)(mg:Str->Option Value)(base:Heap)(N:List Str)(qual:Str)(scope:Scope)(f:Addr)(cd:Value)(A:Around)(outer:List Env)(s:Shared)(H:Hp)(E:XK):Cx where
 prog:=P
 w:=w
 K:=K
 mg:=mg
 base:=base
 A:=A.deeper (envOfC qual scope s.heap.objs.size f cd)
 N:=N
 s₀:=s
 H₀:=H
 env:=envOfC qual scope s.heap.objs.size f cd
 outer:=outer
 stack:=envOfC qual scope s.heap.objs.size f cd :: outer
 ex:=[]
 calm:=true
 fn:=fun _=>true
 pn:=[]
 xe:=fun e s'=>wpAny (model P w) (A.deeper (envOfC qual scope s.heap.objs.size f cd)) (leaving (envOfC qual scope s.heap.objs.size f cd) e) (fun _ HC=>CX outer H s E e HC) (fun e' HC=>CX outer H s E e' HC) s'
def xf{sc:Scope}(h:sc.names.lookup x=some .cell):∃c,(cellsFrom n sc.names []).lookup x=some c:=by
 have q:=PySem.W.cellsFrom_some sc.names n [] (.inl h);exact Option.isSome_iff_exists.mp q
def Bd{CX:CXT}{P:Program}{w:World}{K:PySem.W.Frag}{mg:Str->Option Value}{base:Heap}{N ps:List Str}{qual:Str}{scope:Scope}{f:Addr}{cd:Value}{A:Around}{outer:List Env}{s s1:Shared}{H:Hp}{E:XK}{us:List Value}{vs:List V}
 (S:iG N ps scope) (hd:A.handled=none) (e0:yF P w K mg base A outer s H) (hl:vs.length=ps.length) (r:Vals vs us)
 (x:InCallC s s.heap.objs.size (bindL (envOfC qual scope s.heap.objs.size f cd).kindOf (ps.zip us) fun _=>none) (cellsFrom (s.heap.objs.size+1) scope.names []) (bindC (envOfC qual scope s.heap.objs.size f cd).kindOf (ps.zip us) fun _=>none) s1):
 Inv (mK CX P w K mg base N qual scope f cd A outer s H E) [] (start N vs) H s1:=by
 have gZ:ps.length<=N.length:=by have:=congrArg List.length S.pre;rw[List.length_take]at this;omega
 obtain⟨h1,tk,rfl,hk⟩:=x.done;have Oi:∀b:Addr,b∉(mK CX P w K mg base N qual scope f cd A outer s H E).ex:=fun b z=>absurd (show b∈([]:List Addr)from z) (by simp);refine⟨⟨e0.mod,S.kind,rfl,rfl,qO_ _,fun y z c h1 h2=>?_,fun y hy=>?_,fun y c _ h=>?_,fun _=>hd,Around.frames_deeper e0.frames,.inr ⟨rfl,rfl⟩,fun b z=>absurd z (Oi b),e0.bs,e0.bsz,fun b _ _=>Oi b,fun b z=>absurd z (Oi b),e0.nQ,e0.frf⟩,
  rfl,e0.bare,Un.kept hk,⟨_,x.toInCall.ns,fun i y v h1 h2 h3=>?_⟩,fun y c h=>⟨_,x.cell y c h⟩,e0.hok.fresh (qO_ _),fun y c h=>?_,fun p hp=>absurd (show p∈([]:List (Addr×Obj))from hp) (by simp),e0.hok.kept hk,?_⟩
 · exact name_of_addr x.apart (PySem.mem_of_lookup h1) (PySem.mem_of_lookup h2)
 · have hy:scope.names.lookup y=some .cell\/scope.names.lookup y=some .free:=hy;rcases hy with hy |hy
   · exact xf hy
   · exact absurd rfl (S.KW _ (PySem.mem_of_lookup hy))
 · exact Nat.le_of_lt (x.above y c (PySem.mem_of_lookup h))
 · have hi:i < vs.length:=by
    unfold start at h2;by_cases hi:i < vs.length
    · exact hi
    · rw[List.getElem?_append_right (by simpa using hi)]at h2;rw[List.getElem?_replicate]at h2;split at h2 <;> cases h2
   have ha:vs[i]? =some v:=by
    unfold start at h2;rw[qK_ (by simpa using hi),qQ_]at h2;cases e:vs[i]? with
    |none=>rw[e]at h2;cases h2
    |some a=>rw[e]at h2;cases h2;rfl
   obtain⟨u,hu,rv⟩:=r.get ha;have hp:ps[i]? =some y:=by rw[<-S.pre,List.getElem?_take_of_lt (by omega)];exact h1
   have Uj:ps.Nodup:=by rw[<-S.pre];exact S.nd.sublist (List.take_sublist _ _)
   refine⟨u,rv,?_⟩;rcases S.par y (qD_ hp)with k |k
   · exact .inl ⟨k,uh Uj hp hu k⟩
   · obtain⟨c,e⟩:=xf (n:=s.heap.objs.size+1) k;refine .inr ⟨.inl k,c,e,?_⟩;have q:=x.cell y c e;rw[t6 Uj hp hu (by show scope.names.lookup y≠_;rw[k];decide)]at q;exact q
 · exact e0.hok.fresh (Nat.le_of_lt (x.above y c (PySem.mem_of_lookup h)))
 · unfold start;show _=N.length;rw[qN_,qM_,List.length_replicate];omega
def Ie{CX:CXT}{P:Program}{w:World}{K:PySem.W.Frag}{mg:Str->Option Value}{base:Heap}{k:Nat}{f:Addr}{name qual:Str}{params:Arguments}{body:List Stmt}{scope:Scope}{dV kV doc pm jC ct oc:Value}{an od:Option Addr}
 {E5:Array (Option Value)} {N ps:List Str} {sp:Sp} (lk:K.lookup f=some ⟨oc,od,.func (PySem.W.fnOf name qual params body scope dV kV doc pm an jC ct),E5⟩) (BN:PySem.W.codeIn K jC qual=true) (S:iG N ps scope)
 (len:∀vs H Q E,sp vs H Q E->vs.length=ps.length)
 (EV:∀(A:Around) (outer:List Env) (s:Shared) (H:Hp) (vs:List V) (Q:VK) (E:XK),dR k (A.deeper (envOfC qual scope s.heap.objs.size f jC))->sp vs H Q E->
   ∃t,PSs (mK CX P w K mg base N qual scope f jC A outer s H E) body t/\t {nx:=fun _ H'=>Q .non H',rt:=Q} (start N vs) H):
 cj P w K mg base CX (k+1) f (PySem.W.fnOf name qual params body scope dV kV doc pm an jC ct) ps sp:=by
 refine⟨len,fun A outer s H args us vs Q E hr e0 hb r IM=>?_⟩;have hl:=len _ _ _ _ IM;have KX:K.In s.heap:=e0.mod.kin.keeps fun b o e=>(e0.bs b o e).1;have lim:s.heap.NoLimit:=e0.mod.nolimit.keeps fun b o e=>(e0.bs b o e).1;have EK:∀y∈ps.zip us,scope.names.lookup y.1=some .local\/(scope.names.lookup y.1=some .cell/\((cellsFrom (s.heap.objs.size+1) scope.names []).lookup y.1).isSome=true):=fun⟨n,v⟩ hy=>by
  rcases S.par n (List.of_mem_zip hy).1 with q |q
  · exact .inl q
  · exact .inr ⟨q,PySem.W.cellsFrom_some _ _ _ (.inl q)⟩
 refine codeAny_call_function hr.depth (KX _ _ lk) rfl S.co S.gen rfl (PySem.W.codeRec_of KX BN) (hb _ _ _ _ ?_);refine wpAny_newFunctionEnv_cells S.kind EK fun env he s1 x=>?_;subst he;refine⟨lim.keeps x.toInCall.keep,codeAny_func ?_⟩;obtain⟨t,ht,hq⟩:=EV A outer s H vs Q E (hr.deeper _) IM;have I:Inv (mK CX P w K mg base N qual scope f jC A outer s H E) [] (start N vs) H s1:=Bd S hr.hd e0 hl r x;refine wpAny_mono (ht [] s1 (start N vs) H _ I hq) (fun fl s' hs=>?_) fun e s' hs=>hs;have fin:∀{σ':St} {H':Hp} {v:V} {u:Value},Inv (mK CX P w K mg base N qual scope f jC A outer s H E) [] σ' H' s'->RelV v u->Q v H'->CE outer P w H s Q u s':=
  fun {σ' H' v u} J rv q=>⟨v,H',J.os,J.bare,J.base,J.hok,rv,q⟩
 cases fl with
 |ret u=>obtain⟨v,σ',H',J,rv,q⟩:=hs;exact fin J rv q
 |next=>obtain⟨σ',H',J,q⟩:=hs;exact fin (v:=V.non) (u:=Value.none) J rfl q
 |brk=>obtain⟨_,_,_,q⟩:=hs;cases q
 |cont=>obtain⟨_,_,_,q⟩:=hs;cases q
section
variable{X:Cx}{x:Str}{p pos:Pos}{e:Expr}{es:List Expr}{t:TA}{id T:String}{r:List V->Hp->VK->Prop}
def tCB(r:List V->Hp->VK->Prop)(t:TA):TE:=fun σ H Q=>t σ H fun vs H1=>r vs H1 Q
def q8(hc:gF X (.builtin id) r)(hg:Gl X x)(hm:X.mg x=none)(hv:bootBuiltins x=some (.builtin id))(ha:PA X (e :: es) t)(hn:x≠"__name__":=by decide)(qg:(x==("__debug__":Str))=false:=by decide)
 (he:starEach (e :: es) X.env=(false,eval e X.env) :: starEach es X.env:=by rfl) (gZ:(backTo pos (starEach es X.env)).any (·.1)=false:=by rfl):PE X (.Call (.Name x p) (e :: es) [] pos) (tCB r t):=by
 intro pins s σ H Q I h;refine wpAny_Call_Name_kw (nO I hg hm hv ?_ hn qg);exact PyProof.Rows.callWith_builtin1 (thn (ha pos pins s σ H _ I h) fun us s1 ⟨vs,H1,I1,r1,q1⟩=>hc pins s1 σ H1 vs us Q I1 r1 q1) he gZ
def Bb(hc:gF X (.type T) r)(hg:Gl X x)(hm:X.mg x=none)(hv:bootBuiltins x=some (.type T))(ha:PA X (e :: es) t)(hn:x≠"__name__":=by decide)(qg:(x==("__debug__":Str))=false:=by decide)
 (he:starEach (e :: es) X.env=(false,eval e X.env) :: starEach es X.env:=by rfl) (gZ:(backTo pos (starEach es X.env)).any (·.1)=false:=by rfl):PE X (.Call (.Name x p) (e :: es) [] pos) (tCB r t):=by
 intro pins s σ H Q I h;refine wpAny_Call_Name_kw (nO I hg hm hv ?_ hn qg);exact PyProof.Rows.callWith_type1 (thn (ha pos pins s σ H _ I h) fun us s1 ⟨vs,H1,I1,r1,q1⟩=>hc pins s1 σ H1 vs us Q I1 r1 q1) he gZ
end
end L2
namespace HT
open PySem PyProof.Rows
def lexLt:List Int->List Int->Bool
 | [],[]=>false
 | [],_ :: _=>true
 |_ :: _,[]=>false
 |x :: xs,y :: ys=>if x=y then lexLt xs ys else decide (x < y)
def rJ(x y:Int)(xs ys:List Int):lexLt (x :: xs) (y :: ys)=if x=y then lexLt xs ys else decide (x < y):=rfl
def mX:lexLt [] []=false:=rfl
def lE(y:Int)(ys:List Int):lexLt [] (y :: ys)=true:=rfl
def lQ(x:Int)(xs:List Int):lexLt (x :: xs) []=false:=rfl
def xE(A:Around)(s:Shared)(a:Int)(t:Tok)(c:Int)(u:Tok):∃e,SeqAt.EqAt A s (.int a t) (.int c u) e/\(e=true↔a=c):=
 ⟨(a==c),SeqAt.EqAt.int_int a t c u,by simp⟩
def Dr(A:Around)(s:Shared)(a:Int)(t:Tok)(c:Int)(u:Tok)(prog:Program)(w:World)(E:Value->Shared->Prop)(Q:Value->Shared->Prop)(h:Q (.bool (decide (a < c))) s):
 wpAny (model prog w) A (richCompare .Lt (.int a t) (.int c u)) Q E s:=
 (PyProof.Rows.lt_int h:wpAny (model prog w) A (compareOp .Lt (.int a t) (.int c u)) Q E s)
section
open PySem.SeqAt
open PySem.AutoSeq1 (wpAny_loadPart')
open PySem.MeetsSeq PySem.MeetsSeq2 PySem.MeetsSeq3
def tw(l b:Addr)(items cA:Array Value)(n n2:Nat)(dd E6:Option Addr)(sl AJ:Array (Option Value))(ns ms:List Int)(hi:IntsAre items.toList ns)(hj:IntsAre cA.toList ms):
 Meets (Builtin.«tuple.__lt__» ⟨[.ref l,.ref b],[]⟩)
  (fun _ R s=>s.heap.get? l=some {cls:= .type "tuple",dict:=dd,data:= .seq items n,slots:=sl}/\s.heap.get? b=some {cls:= .type "tuple",dict:=E6,data:= .seq cA n2,slots:=AJ}/\
    R (.ok (.ret (.bool (lexLt ns ms)))) s):=
 .of_wp fun prog w A R s h=>by
  obtain⟨hp,g,d,tk,os⟩:=s;obtain⟨hl,hb,h⟩:=h;have f2:=AutoSeq1.sub_tuple_tuple;have z1:items.size=ns.length:=by rw[<-hi.length];simp
  have z2:cA.size=ms.length:=by rw[<-hj.length];simp
  wp_walk using wpAny_loadPart' hl,wpAny_loadPart' hb,wpAny_forIn_list _ (fun rest b s'=>b.1=none/\s'=⟨hp,g,d,tk,os⟩/\∃(vs ws:List Value) (BS BU:List Int),rest=vs.zip ws/\
   IntsAre vs BS/\IntsAre ws BU/\BS.length+cA.size=BU.length+items.size/\R (.ok (.ret (.bool (lexLt BS BU)))) ⟨hp,g,d,tk,os⟩) _
  case turn=>
   rintro⟨y,x⟩ rest b s' ⟨E9,rfl,vs,ws,BS,BU,hz,LH,Hr,hlen,hR⟩;cases LH with
   |nil=>rw[List.zip_nil_left]at hz;cases hz
   |cons a t hvi'=>
    cases Hr with
    |nil=>rw[List.zip_nil_right]at hz;cases hz
    |cons c u hwi'=>
     rw[List.zip_cons_cons]at hz
     injection hz with hyx hrest
     injection hyx with hy hx
     subst hy hx;rw[rJ]at hR;simp only[List.length_cons]at hlen;obtain⟨e,he,EZ⟩:=xE A.in1 ⟨hp,g,d,tk,os⟩ a t c u;refine wpAny_bind (he prog w _ _ ?_);cases e with
     |true=>
      rw[if_pos (EZ.mp rfl)]at hR
      wp_walk
      exact⟨rfl,rfl,_,_,_,_,hrest,hvi',hwi',by omega,hR⟩
     |false=>
      rw[if_neg (fun q=>absurd (EZ.mpr q) qC_)]at hR;have Rr:=Dr A.in1 ⟨hp,g,d,tk,os⟩ a t c u prog w
      wp_walk using Rr
      exact⟨_,rfl,by simpa using hR⟩
  case fin=>
   rintro⟨b1,b2⟩ s' ⟨E9,rfl,vs,ws,BS,BU,hz,LH,Hr,hlen,hR⟩;simp only at E9;subst E9;have hv:lexLt BS BU=decide (items.size < cA.size):=by
    cases LH with
    |nil=>
     cases Hr with
     |nil=>simp only[List.length_nil]at hlen;rw[mX];exact(qa_ (by omega)).symm
     |cons c u hw=>simp only[List.length_nil,List.length_cons]at hlen;rw[lE];exact(qZ_ (by omega)).symm
    |cons a t hv=>
     cases Hr with
     |nil=>simp only[List.length_nil,List.length_cons]at hlen;rw[lQ];exact(qa_ (by omega)).symm
     |cons c u hw=>rw[List.zip_cons_cons]at hz;cases hz
   rw[hv]at hR
   wp_walk
   exact⟨_,rfl,by simpa [Builtin.Tuple.tupleCompareSizes] using hR⟩
  case h=>exact⟨rfl,rfl,items.toList,cA.toList,ns,ms,rfl,hi,hj,by omega,h⟩
end
section
variable{prog:Program}{w:World}{A:Around}{E:Value->Shared->Prop}{s:Shared}
def y8{items cA:Array Value}{Q:Value->Shared->Prop}(hl:IsTup s.heap l items)(hb:IsTup s.heap b cA)(hi:IntsAre items.toList ns)(hj:IntsAre cA.toList ms)
 (hu:A.units < cLine) (h:Q (.bool (lexLt ns ms)) s):wpAny (model prog w) A (compareOp .Lt (.ref l) (.ref b)) Q E s:=by
 obtain⟨⟨cls,dd,data,sl⟩,ho,hc,n,hd⟩:=id hl;obtain⟨⟨OV,E6,data2,AJ⟩,zK,IP,n2,hd2⟩:=id hb;simp only at hc hd IP hd2;subst hc hd IP hd2;exact richCompare_meets_room (op:= .Lt) ⟨_,ho,rfl⟩ ⟨_,zK,rfl⟩ PySem.F.slot_tuple_lt PySem.F.entry_tuple_lt (PySem.F.args_tuple_lt_2 _ _) (tw l b items cA n n2 dd E6 sl AJ ns ms hi hj)
  ⟨ho,zK,show Value.bool (lexLt ns ms)≠Value.notImplemented/\Q (.bool (lexLt ns ms)) s from⟨(fun x=>nomatch x),h⟩⟩ hu
def GQ{vs ws:List Value}{Q:Value->Shared->Prop}(ht:IsTup s.heap t vs.toArray)(hb:IsTup s.heap b ws.toArray)(hv:vs≠ [])
 (h1:ws=[]->Q (.ref t) s) (h2:ws≠ []->Q (.ref s.heap.objs.size) {s with heap:=s.heap.push {cls:= .type "tuple",data:= .seq (vs++ws).toArray}})
 (hsz:vs.length+ws.length<=sizeLine):wpAny (model prog w) A (binaryOp .Add (.ref t) (.ref b)) Q E s:=by
 obtain⟨⟨cls,dd,data,sl⟩,ho,hc,n,hd⟩:=id ht;obtain⟨⟨OV,E6,data2,AJ⟩,zK,IP,n2,hd2⟩:=id hb;simp only at hc hd IP hd2;subst hc hd IP hd2;have e:vs.toArray++ws.toArray=(vs++ws).toArray:=by simp
 by_cases hw:ws=[]
 · exact concat_meets ⟨_,ho,rfl⟩ ⟨_,zK,rfl⟩ noFill_tuple_add seq_tuple_add PySem.F.slot_tuple_add PySem.F.entry_tuple_add (PySem.F.args_tuple_add_2 _ _)
    (tuple_addW1 t b vs.toArray ws.toArray n n2 dd E6 sl AJ (by simpa using hv) (by simp [hw])) ⟨ho,zK,h1 hw⟩
 · refine concat_meets ⟨_,ho,rfl⟩ ⟨_,zK,rfl⟩ noFill_tuple_add seq_tuple_add PySem.F.slot_tuple_add PySem.F.entry_tuple_add (PySem.F.args_tuple_add_2 _ _)
    (tuple_addW2 t b vs.toArray ws.toArray n n2 dd E6 sl AJ (by simpa using hv) (by simpa using hw) (by rw[qW_,qW_];exact hsz)) ⟨ho,zK,?_⟩
   rw[e];exact h2 hw
def sIx(n d:Nat):Option Int->Nat
 |none=>d
 |some v=>if v < 0 then (v+(n:Int)).toNat else min v.toNat n
def Kg(n d:Nat)(hd:d<=n)(o:Option Int):sIx n d o<=n:=by
 cases o with
 |none=>exact hd
 |some v=>
  show (if v < 0 then (v+(n:Int)).toNat else min v.toNat n)<=n;by_cases hv:v < 0
  · rw[if_pos hv];omega
  · rw[if_neg hv];exact Nat.min_le_right _ _
def zQ(v:Int)(n d:Nat):(if v < 0 then max (v+(n:Int)) 0 else min v (n:Int))=((sIx n d (some v):Nat):Int):=by
 show (if v < 0 then max (v+(n:Int)) 0 else min v (n:Int))=(((if v < 0 then (v+(n:Int)).toNat else min v.toNat n):Nat):Int);by_cases hv:v < 0
 · simp only[if_pos hv];omega
 · simp only[if_neg hv];omega
def zj(lo hi:Option Int)(n:Nat):Builtin.Slice.sliceAdjust lo hi 1 (n:Int)=(((sIx n 0 lo:Nat):Int),((sIx n n hi:Nat):Int)):=by
 have h1:¬((1:Int) < 0):=by omega
 unfold Builtin.Slice.sliceAdjust;simp only[h1,if_false];refine Prod.ext ?_ ?_
 · cases lo with
   |none=>rfl
   |some v=>exact zQ v n 0
 · cases hi with
   |none=>rfl
   |some v=>exact zQ v n n
def yA(i j:Nat):Builtin.Slice.slicePlaces (i:Int) (j:Int) 1=j - i:=by
 unfold Builtin.Slice.slicePlaces;have h1:(1:Int) > 0:=by omega
 simp only[h1,if_true,Int.ediv_one];split <;> omega
def si{Q:Option Int->Shared->Prop}(p:IsPart v o)(h:Q o s):wpAny (model prog w) A (Builtin.Slice.slicePartIndex v) Q E s:=by
 cases p with
 |none=>exact slicePart_none h
 |int i t=>exact slicePart_int h
def oU{lo hi:Option Int}{n:Nat}{Q:Int×Int×Nat->Shared->Prop}(hs:s.heap.IsSliceOf sl vl vu .none)(pl:IsPart vl lo)(pu:IsPart vu hi)
 (h:Q (((sIx n 0 lo:Nat):Int),1,sIx n n hi - sIx n 0 lo) s):wpAny (model prog w) A (Builtin.Slice.sliceApplied (.ref sl) (pure (n:Int))) Q E s:=by
 obtain⟨os,N3,TB,Oq⟩:=id hs;unfold Builtin.Slice.sliceApplied Builtin.Slice.sliceFields;refine wpAny_bind (wpAny_bind (wpAny_field N3 Oq (x:=vl) rfl (wpAny_bind (wpAny_field N3 Oq (x:=vu) rfl (wpAny_bind (wpAny_field N3 Oq (x:= .none) rfl (wpAny_pure ?_)))))));refine wpAny_bind (slicePart_none ?_);show wpAny _ _ (if ((1:Int)==0)=true then _ else _) _ _ s;rw[if_neg (by decide)];refine wpAny_bind (si pl (wpAny_bind (si pu (wpAny_bind (wpAny_pure ?_)))));show wpAny _ _ (match Builtin.Slice.sliceAdjust lo hi 1 (n:Int)with |(lo,hi)=>pure (lo,(1:Int),Builtin.Slice.slicePlaces lo hi 1)) _ _ s
 rw[zj lo hi n];show wpAny _ _ (pure (((sIx n 0 lo:Nat):Int),(1:Int),Builtin.Slice.slicePlaces ((sIx n 0 lo:Nat):Int) ((sIx n n hi:Nat):Int) 1)) _ _ s;rw[yA];exact wpAny_pure h
def Dh(xs:Array Value)(i k:Nat):((List.range k).filterMap fun(m:Nat)=>xs[((i:Int)+(m:Int)*1).toNat]?).toArray=((xs.toList.drop i).take k).toArray:=by
 have e:(fun(m:Nat)=>xs[((i:Int)+(m:Int)*1).toNat]?)=fun m=>xs[i+m]?:=by
  funext m;have:((i:Int)+(m:Int)*1).toNat=i+m:=by omega
  rw[this]
 rw[e];have:=pick_run xs i k;rw[List.filterMap_map]at this;have e2:((fun x=>xs[x]?) ∘ fun x=>i+x)=fun m=>xs[i+m]?:=rfl;rw[e2]at this;rw[this]
def ox{items:Array Value}{lo hi:Option Int}{Q:Value->Shared->Prop}(ht:IsTup s.heap t items)(hs:s.heap.IsSliceOf sl vl vu .none)(pl:IsPart vl lo)(pu:IsPart vu hi)
 (hw:¬(sIx items.size 0 lo=0/\sIx items.size items.size hi=items.size))
 (h:Q (.ref s.heap.objs.size) {s with heap:=s.heap.push {cls:= .type "tuple",data:= .seq ((items.toList.drop (sIx items.size 0 lo)).take (sIx items.size items.size hi - sIx items.size 0 lo)).toArray}})
 (hsz:items.size<=sizeLine):wpAny (model prog w) A (getItem (.ref t) (.ref sl)) Q E s:=by
 have AG:sizeOk (.seq ((items.toList.drop (sIx items.size 0 lo)).take (sIx items.size items.size hi - sIx items.size 0 lo)).toArray):=by show ((items.toList.drop (sIx items.size 0 lo)).take (sIx items.size items.size hi - sIx items.size 0 lo)).toArray.size<=sizeLine;rw[qW_,List.length_take,List.length_drop,Array.length_toList];omega
 have hj:sIx items.size items.size hi<=items.size:=Kg _ _ (qO_ _) hi;obtain⟨os,N3,TB,Oq⟩:=id hs;have VD:s.TypeIs (.ref sl) "slice":=⟨os,N3,TB⟩;unfold getItem
 try with_reducible refine wpAny_holding ?_
 first |refine wpAny_bind (wpAny_pure ?_) |skip
 refine wpAny_bind (wpAny_sequenceKey ht.typeIs (by decide) ?_);refine wpAny_bind (wpAny_callSpecial?_slot (name:=Str.ofString "__getitem__") ht.typeIs PyProof.Rows.slot_tuple_getitem
  (wpAny_call_entry PyProof.Rows.slot_tuple_getitem ht.typeIs entry_tuple_getitem ?_ (args_tuple_getitem _ _)))
 show wpAny _ _ (Builtin.Tuple.tupleItemsOf (.ref t) >>= _) _ _ s;refine wpAny_bind (tupleItemsOf_ ht ?_);refine wpAny_bind (wpAny_typeOf VD ?_);rw[if_pos (by decide)];refine wpAny_bind (oU hs pl pu ?_);have HL:¬((((sIx items.size 0 lo:Nat):Int)==0&&(1:Int)==1&&(sIx items.size items.size hi - sIx items.size 0 lo)==items.size)=true):=by intro q;rw[Bool.and_eq_true,Bool.and_eq_true]at q;have q1:((sIx items.size 0 lo:Nat):Int)=0:=eq_of_beq q.1.1;have q2:sIx items.size items.size hi - sIx items.size 0 lo=items.size:=eq_of_beq q.2;exact hw ⟨by omega,by omega⟩
 show wpAny _ _ (if (((sIx items.size 0 lo:Nat):Int)==0&&(1:Int)==1&&(sIx items.size items.size hi - sIx items.size 0 lo)==items.size)=true then _ else _) _ _ s;rw[if_neg HL,Dh]
 first
  |exact wpAny_bind (m:=Builtin.Tuple.tupleExact _) (wpAny_newObj_type (wpAny_pure ⟨_,rfl,wpAny_pure h⟩) AG)
  |exact wpAny_bind (m:=Builtin.Tuple.tupleExact _) (wpAny_newObj_type (wpAny_bind (wpAny_pure (wpAny_pure ⟨_,rfl,wpAny_pure h⟩))) AG)
  |exact wpAny_bind (wpAny_bind (m:=Builtin.Tuple.tupleExact _) (wpAny_newObj_type (wpAny_pure (wpAny_pure ⟨_,rfl,wpAny_pure h⟩)) AG))
  |exact wpAny_bind (wpAny_bind (m:=Builtin.Tuple.tupleExact _) (wpAny_newObj_type (wpAny_pure ⟨_,rfl,wpAny_pure h⟩) AG))
end
end HT
namespace L2
open PySem PySem.Spec PyProof.Rows
abbrev TO:=St->Hp->(Option Int->Hp->Prop)->Prop
def PO(X:Cx)(e:Option Expr)(t:TO):Prop:=
 ∀(pins:List (Addr×Obj)) (s:Shared) (σ:St) (H:Hp) (Q:Option Int->Hp->Prop),Inv X pins σ H s->t σ H Q->
  wpAny (model X.prog X.w) X.A (evalPart e X.env) (fun u s'=>∃o H',Inv X pins σ H' s'/\IsPart u o/\Q o H') X.xe s
def FP:TO:=fun _ H Q=>Q none H
def Nj(t:TE):TO:=fun σ H Q=>t σ H fun x H1=>∃i,x= .int i/\Q (some i) H1
def intsAre_of{ns:List Int}:∀{us:List Value},Vals (ns.map V.int) us->IntsAre us ns:=by
 induction ns with
 |nil=>intro us r;rw[List.map_nil]at r;cases r;exact .nil
 |cons n ns ih=>
  intro us r;rw[List.map_cons]at r;cases r with
  |cons r1 r2=>obtain⟨t,e⟩:=r1;subst e;exact .cons n t (ih r2)
section
variable{X:Cx}{e:Expr}{te:TE}{lo hi:Option Expr}{tl th:TO}{pos p2:Pos}
def Gk:PO X none FP:=by
 intro pins s σ H Q I h;rw[evalPart_none];exact wpAny_pure ⟨none,H,I,.none,h⟩
def Hg(h:PE X e te):PO X (some e) (Nj te):=by
 intro pins s σ H Q I hw;rw[evalPart_some];refine thn (h pins s σ H _ I hw) fun u s1 ⟨x,H1,I1,r1,q1⟩=>?_;obtain⟨i,rfl,q⟩:=q1;obtain⟨t,rfl⟩:=r1;exact⟨some i,H1,I1,.int i t,q⟩
def SlR(X:Cx)(r:V->Option Int->Option Int->Hp->VK->Prop):Prop:=
 ∀(pins:List (Addr×Obj)) (s:Shared) (σ:St) (H:Hp) (x:V) (v vl vu:Value) (lo hi:Option Int) (sl:Addr) (Q:VK),Inv X pins σ H s->RelV x v->s.heap.IsSliceOf sl vl vu .none->IsPart vl lo->IsPart vu hi->r x lo hi H Q->
  ∃T id,typeLookup (.type T) "__getitem__"=pure (some (.builtin id))/\s.TypeIs v T/\wpAny (model X.prog X.w) X.A (getItem v (.ref sl)) (EP X pins σ Q) X.xe s
def SlR.or{r r':V->Option Int->Option Int->Hp->VK->Prop}(h:SlR X r)(h':SlR X r'):SlR X (fun x lo hi H Q=>r x lo hi H Q\/r' x lo hi H Q):=by
 intro pins s σ H x v vl vu lo hi sl Q I rx hs pl pu q;rcases q with q |q
 · exact h pins s σ H x v vl vu lo hi sl Q I rx hs pl pu q
 · exact h' pins s σ H x v vl vu lo hi sl Q I rx hs pl pu q
def tSl(r:V->Option Int->Option Int->Hp->VK->Prop)(te:TE)(tl th:TO):TE:=fun σ H Q=>te σ H fun x H1=>tl σ H1 fun l H2=>th σ H2 fun u H3=>r x l u H3 Q
def CT{r:V->Option Int->Option Int->Hp->VK->Prop}(hr:SlR X r)(he:PE X e te)(hl:PO X lo tl)(hu:PO X hi th):PE X (.Subscript e (.Slice lo hi none p2) pos) (tSl r te tl th):=by
 intro pins s σ H Q I h;refine Subscript_ (thn (he pins s σ H _ I h) fun v s1 ⟨x,H1,I1,r1,q1⟩=>?_);refine wpAny_Slice (thn (hl pins s1 σ H1 _ I1 q1) fun vl s2 ⟨l,H2,I2,pl,q2⟩=>thn (hu pins s2 σ H2 _ I2 q2) fun vu s3 ⟨u,H3,I3,pu,q3⟩=>?_);rw[evalPart_none];refine wpAny_pure ?_;have I4:Inv X pins σ H3 {s3 with heap:=s3.heap.push {cls:= .type "slice",data:= .fields #[vl,vu,.none]}}:=I3.kept (t':=s3.toks) fun b ob q=>Heap.get?_push_of_some _ q;obtain⟨T,id,hT,ht,hg⟩:=hr pins {s3 with heap:=s3.heap.push {cls:= .type "slice",data:= .fields #[vl,vu,.none]}} σ H3 x v vl vu l u s3.heap.objs.size Q I4 r1 (Heap.IsSliceOf.new ..) pl pu q3;show wpAny (model X.prog X.w) X.A (subscriptTail e (.Slice lo hi none p2) v (.ref s3.heap.objs.size)) (EP X pins σ Q) X.xe {s3 with heap:=s3.heap.push {cls:= .type "slice",data:= .fields #[vl,vu,.none]}};exact tail_any (ops:=[.ref s3.heap.objs.size,v]) ht hT hg (by with_unfolding_all rfl)
def sQ(xs:List V)(lo hi:Option Int):List V:=(xs.drop (HT.sIx xs.length 0 lo)).take (HT.sIx xs.length xs.length hi - HT.sIx xs.length 0 lo)
def pQ(xs:List V)(lo hi:Option Int):(sQ xs lo hi).length<=xs.length:=by
 unfold sQ;rw[List.length_take,List.length_drop];omega
def Py(K:PySem.W.Frag):V->Option Int->Option Int->Hp->VK->Prop:=fun x lo hi H Q=>∃a xs,x= .ref a/\SqT K H a xs/\
 ¬(HT.sIx xs.length 0 lo=0/\HT.sIx xs.length xs.length hi=xs.length)/\∀p,H p=none->Q (.ref p) (upd H p (.tup (sQ xs lo hi)))
def Jd:SlR X (Py X.K):=by
 intro pins s σ H x v vl vu lo hi sl Q I rx hs pl pu h;obtain⟨a,xs,rfl,hx,hw,q⟩:=h;cases rx;obtain⟨aJ,r,ht,hz⟩:=I.tuple hx;have hlen:aJ.toArray.size=xs.length:=by rw[qW_];exact r.length.symm
 refine⟨"tuple",_,PyProof.Rows.slot_tuple_getitem.lookup,ht.typeIs,?_⟩;refine HT.ox ht hs pl pu (by rw[hlen];exact hw) ?_ (by rw[hlen];exact hz);rw[hlen];refine⟨.ref s.heap.objs.size,_,I.laid (t':=s.toks) (o:= .tup (sQ xs lo hi)) (fun b ob q=>Heap.get?_push_of_some _ q) (qO_ _) ?_,rfl,q _ (I.hok.fresh (qO_ _))⟩;exact⟨Nat.le_trans (pQ xs lo hi) hz,_,(r.drop (HT.sIx xs.length 0 lo)).take (HT.sIx xs.length xs.length hi - HT.sIx xs.length 0 lo),IsTup.new _ _⟩
def Np(K:PySem.W.Frag):R2:=fun x y H Q=>∃a b ns ms,x= .ref a/\y= .ref b/\SqT K H a (ns.map V.int)/\SqT K H b (ms.map V.int)/\Q (.bl (HT.lexLt ns ms)) H
def Lv(hu:X.A.units < cLine):OpR X (compareOp .Lt) (Np X.K):=by
 intro pins s σ H x y v u Q I rx ry h;obtain⟨a,b,ns,ms,rfl,rfl,ha,hb,q⟩:=h;cases rx;cases ry;obtain⟨aJ,r1,p1,_⟩:=I.tuple ha;obtain⟨pI,r2,p2,_⟩:=I.tuple hb;have i1:IntsAre aJ.toArray.toList ns:=intsAre_of r1;have i2:IntsAre pI.toArray.toList ms:=intsAre_of r2;exact HT.y8 p1 p2 i1 i2 hu ⟨.bl (HT.lexLt ns ms),H,I,rfl,q⟩
def II(K:PySem.W.Frag):R2:=fun x y H Q=>∃a b xs ys,x= .ref a/\y= .ref b/\SqT K H a xs/\SqT K H b ys/\xs≠ []/\xs.length+ys.length<=sizeLine/\
 (ys=[]->Q (.ref a) H)/\(ys≠ []->∀p,H p=none->Q (.ref p) (upd H p (.tup (xs++ys))))
def Vals.uI(r:Vals xs us):us=[]↔xs=[]:=by
 cases r with
 |nil=>simp
 |cons _ _=>simp
def FD:OpR X (binaryOp .Add) (II X.K):=by
 intro pins s σ H x y v u Q I rx ry h;obtain⟨a,b,xs,ys,rfl,rfl,ha,hb,hx,hz,q1,q2⟩:=h;cases rx;cases ry;obtain⟨aJ,r1,p1,_⟩:=I.tuple ha;obtain⟨pI,r2,p2,_⟩:=I.tuple hb;refine HT.GQ p1 p2 (fun z=>hx (r1.uI.mp z)) (fun z=>⟨.ref a,H,I,rfl,q1 (r2.uI.mp z)⟩) (fun z=>?_) (by rw[<-r1.length,<-r2.length];exact hz);refine⟨.ref s.heap.objs.size,_,I.laid (t':=s.toks) (o:= .tup (xs++ys)) (fun b ob q=>Heap.get?_push_of_some _ q) (qO_ _) ?_,rfl,q2 (fun w=>z (r2.uI.mpr w)) _ (I.hok.fresh (qO_ _))⟩;exact⟨by rw[qN_];exact hz,_,r1.append r2,IsTup.new _ _⟩
end
def ixN(n:Nat)(i:Int):Option Nat:=if 0<=i then (if i < n then some i.toNat else none)else if -(n:Int)<=i then some (i+n).toNat else none
def atI{α:Type}(xs:List α)(i:Int):Option α:=(ixN xs.length i).bind fun j=>xs[j]?
def uH(h:ixN n i=some j):seqIndex? i n=some j/\j < n/\-(n:Int)<=i/\i < n:=by
 unfold ixN at h;by_cases h0:0<=i
 · rw[if_pos h0]at h;by_cases h1:i < n
   · rw[if_pos h1]at h;have e:i.toNat=j:=Option.some.inj h;exact⟨by rw[seqIndex_of h0 h1,e],by omega,by omega,h1⟩
   · rw[if_neg h1]at h;cases h
 · rw[if_neg h0]at h;by_cases h1:-(n:Int)<=i
   · rw[if_pos h1]at h;have e:(i+n).toNat=j:=Option.some.inj h;exact⟨by rw[seqIndex_neg (by omega) h1,e],by omega,h1,by omega⟩
   · rw[if_neg h1]at h;cases h
def Av{α:Type}{xs:List α}{i:Int}{v:α}(h:atI xs i=some v):∃j,seqIndex? i xs.length=some j/\xs[j]? =some v/\j < xs.length/\-(xs.length:Int)<=i/\i < xs.length:=by
 unfold atI at h;cases e:ixN xs.length i with
 |none=>rw[e]at h;cases h
 |some j=>rw[e]at h;obtain⟨h1,h2,h3,h4⟩:=uH e;exact⟨j,h1,h,h2,h3,h4⟩
def vO(b:Expr):Prop:=∀o i,subscripted b false o i=operate [o,i] (getItem o i)
def IxR(X:Cx)(r:R2):Prop:=
 ∀(value slice:Expr) (pins:List (Addr×Obj)) (s:Shared) (σ:St) (H:Hp) (x y:V) (v u:Value) (Q:VK),Inv X pins σ H s->RelV x v->RelV y u->r x y H Q->
  subscripted slice false v u=operate [v,u] (getItem v u)->wpAny (model X.prog X.w) X.A (subscriptTail value slice v u) (EP X pins σ Q) X.xe s
def MtR(X:Cx)(id:String)(r:V->List V->Hp->VK->Prop):Prop:=
 ∀(pins:List (Addr×Obj)) (s:Shared) (σ:St) (H:Hp) (x:V) (xs:List V) (v:Value) (us:List Value) (Q:VK),Inv X pins σ H s->RelV x v->Vals xs us->r x xs H Q->
  wpAny (model X.prog X.w) X.A (call (.builtin id) (v :: us)) (EP X pins σ Q) X.xe s
section
variable{X:Cx}{a b:Expr}{ta tb:TE}{pos:Pos}
def IxR.or{r r':R2}(h:IxR X r)(h':IxR X r'):IxR X (fun x y H Q=>r x y H Q\/r' x y H Q):=by
 intro value slice pins s σ H x y v u Q I rx ry q hs;rcases q with q |q
 · exact h value slice pins s σ H x y v u Q I rx ry q hs
 · exact h' value slice pins s σ H x y v u Q I rx ry q hs
def NJ{r:R2}(hr:IxR X r)(ha:PE X a ta)(hb:PE X b tb)(hs:vO b):PE X (.Subscript a b pos) (tOp r ta tb):=by
 intro pins s σ H Q I h;exact Subscript_ (Jr ha hb I h fun v u s2 x y H2 I2 rx ry q=>hr a b pins s2 σ H2 x y v u Q I2 rx ry q (hs _ _))
def NS(K:PySem.W.Frag):R2:=fun x y H Q=>∃p xs i v,x= .ref p/\y= .int i/\SqL K H p xs/\atI xs i=some v/\Q v H
def Nf(K:PySem.W.Frag):R2:=fun x y H Q=>∃p xs i v,x= .ref p/\y= .int i/\SqT K H p xs/\atI xs i=some v/\Q v H
def FQ:IxR X (NS X.K):=by
 intro value slice pins s σ H x y v u Q I rx ry h hs;obtain⟨p,xs,i,z,rfl,rfl,hq,he,q⟩:=h;cases rx;obtain⟨t,rfl⟩:=ry;obtain⟨aJ,r,pl,hz⟩:=I.list hq;obtain⟨j,h1,h2,h3,h4,h5⟩:=Av he;obtain⟨w,ew,E2⟩:=r.get h2;have hl:=r.length;have hn:=qZ;have fin:EP X pins σ Q w s:=⟨z,H,I,E2,q⟩;by_cases h0:0<=i
 · have hj:i.toNat=j:=by
    rw[seqIndex_of h0 h5]at h1;exact Option.some.inj h1
   exact item_listR pl.isList h0 (by omega) (by rw[hj];simpa using ew) fin hs
 · have hj:(i+(aJ.toArray.size:Int)).toNat=j:=by
    rw[seqIndex_neg (by omega) h4]at h1;rw[qW_,<-hl];exact Option.some.inj h1
   exact subscriptTail_builtinR (x:=w) pl.isList.typeIs slot_list_getitem.lookup
    (wpAny_getItem_list_neg (Q:=fun r s'=>r=w/\EP X pins σ Q r s') pl.isList (by omega) (by rw[qW_] <;> omega) (by omega) (by rw[hj];simpa using ew) ⟨rfl,fin⟩) hs
def JB:IxR X (Nf X.K):=by
 intro value slice pins s σ H x y v u Q I rx ry h hs;obtain⟨p,xs,i,z,rfl,rfl,hq,he,q⟩:=h;cases rx;obtain⟨t,rfl⟩:=ry;obtain⟨aJ,r,pl,hz⟩:=I.tuple hq;obtain⟨j,h1,h2,h3,h4,h5⟩:=Av he;obtain⟨w,ew,E2⟩:=r.get h2;have hl:=r.length;have hn:=qZ;have fin:EP X pins σ Q w s:=⟨z,H,I,E2,q⟩;exact subscriptTail_builtinR (x:=w) pl.typeIs slot_tuple_getitem.lookup
  (getItem_tuple (j:=j) (Q:=fun r s'=>r=w/\EP X pins σ Q r s') pl (by omega) (by omega) (by rw[qW_,<-hl];exact h1) (by simpa using ew) ⟨rfl,fin⟩) hs
def yB(aJ:List Value)(n j:Nat)(u:Value):Obj.mapSeq (·.setIfInBounds j u) {cls:= .type "list",data:= .seq aJ.toArray n}={cls:= .type "list",data:= .seq (aJ.set j u).toArray n}:=by
 simp [Obj.mapSeq]
theorem Inv.lst{pins:List (Addr×Obj)}{σ:St}{H:Hp}{s:Shared}{p:Addr}{xs:List V}(I:Inv X pins σ H s)(h:H p=some (.lst xs)):
 ∃(aJ:List Value) (n:Nat),Vals xs aJ/\s.heap.get? p=some {cls:= .type "list",data:= .seq aJ.toArray n}/\xs.length<=sizeLine:=by
 obtain⟨z,aJ,n,r,e⟩:=I.hok p _ h;exact⟨aJ,n,r,e,z⟩
def Inv.Jb{H:Hp}{s:Shared}{xs ys:List V}{aJ its':List Value}{f:Obj->Obj}(I:Inv X pins σ H s)(h:H p=some (.lst xs))
 (ho:s.heap.get? p=some {cls:= .type "list",data:= .seq aJ.toArray n}) (hf:f {cls:= .type "list",data:= .seq aJ.toArray n}={cls:= .type "list",data:= .seq its'.toArray n'}) (r:Vals ys its') (hz:ys.length<=sizeLine) (t:Nat):
 Inv X pins σ (upd H p (.lst ys)) {s with heap:=s.heap.update p f,toks:=t}:=by
 have e:(s.heap.update p f).get? p=some {cls:= .type "list",data:= .seq its'.toArray n'}:=by rw[Heap.get?_update_self f ho (by rw[hf] <;> rfl),hf]
 refine I.write (x:=p) (e:=p) (by rw[h];trivial) (.inl rfl) (fun b u hb q=>(Heap.get?_update_other _ _ (Ne.symm hb)).trans q) ⟨_,e⟩ ?_;exact⟨hz,its',n',r,e⟩
def MR:V->V->V->Hp->(Hp->Prop)->Prop:=fun o i v H Q=>∃p xs k j,o= .ref p/\i= .int k/\H p=some (.lst xs)/\ixN xs.length k=some j/\Q (upd H p (.lst (xs.set j v)))
def set_list:w4 X MR:=by
 intro pins s σ H o i v ov iv u Q I ro ri rv h;obtain⟨p,xs,k,j,rfl,rfl,hp,hj,q⟩:=h;cases ro;obtain⟨t,rfl⟩:=ri;obtain⟨aJ,n,r,ho,hz⟩:=I.lst hp;obtain⟨h1,h2,h3,h4⟩:=uH hj;have hl:=r.length;have hn:=qZ;have I':Inv X pins σ (upd H p (.lst (xs.set j v))) {s with heap:=s.heap.update p (Obj.mapSeq (·.setIfInBounds j u))}:=
  I.Jb hp ho (yB aJ n j u) (r.set rv j) (by rw[qX_];exact hz) s.toks
 by_cases h0:0<=k
 · have hk:k.toNat=j:=by
    rw[seqIndex_of h0 h4]at h1;exact Option.some.inj h1
   exact PySem.W.ki_setAt ho h0 (by omega) (by rw[qW_,<-hl];exact h4) (by rw[hk];exact⟨_,I',q⟩)
 · have hk:(k+(aJ.toArray.size:Int)).toNat=j:=by
    rw[seqIndex_neg (by omega) h3]at h1;rw[qW_,<-hl];exact Option.some.inj h1
   exact PySem.W.ki_setBack ho (by omega) (by rw[qW_,<-hl];exact h3) (by omega) (by rw[hk];exact⟨_,I',q⟩)
def uX(lo hi:Option Int)(n:Nat):(sliceBounds lo hi none n).1=((HT.sIx n 0 lo:Nat):Int)/\(sliceBounds lo hi none n).2.1=((HT.sIx n n hi:Nat):Int)/\(sliceBounds lo hi none n).2.2=1:=by
 refine⟨?_,?_,rfl⟩
 · cases lo with
   |none=>simp [sliceBounds,HT.sIx]
   |some i=>
    simp only[sliceBounds,HT.sIx,Option.getD_none,show (1:Int) > 0 by decide,if_true];by_cases h:i < 0
    · simp only[h,if_true] <;> omega
    · simp only[h,if_false] <;> omega
 · cases hi with
   |none=>simp [sliceBounds,HT.sIx]
   |some i=>
    simp only[sliceBounds,HT.sIx,Option.getD_none,show (1:Int) > 0 by decide,if_true];by_cases h:i < 0
    · simp only[h,if_true] <;> omega
    · simp only[h,if_false] <;> omega
def sM(aJ:List Value)(lo hi:Option Int):slicePick aJ.toArray lo hi none=((aJ.drop (HT.sIx aJ.length 0 lo)).take (HT.sIx aJ.length aJ.length hi - HT.sIx aJ.length 0 lo)).toArray:=by
 obtain⟨h1,h2,h3⟩:=uX lo hi aJ.toArray.size;unfold slicePick;rw[h1,h2,h3];simp only[sliceRange_one,pick_run,qW_] <;> rfl
def M2(K:PySem.W.Frag):V->Option Int->Option Int->Hp->VK->Prop:=fun x lo hi H Q=>∃a xs,x= .ref a/\SqL K H a xs/\∀p,H p=none->Q (.ref p) (upd H p (.lst (sQ xs lo hi)))
def F0:SlR X (M2 X.K):=by
 intro pins s σ H x v vl vu lo hi sl Q I rx hs pl pu h;obtain⟨a,xs,rfl,hx,q⟩:=h;cases rx;obtain⟨aJ,r,ht,hz⟩:=I.list hx;have hlen:=r.length;refine⟨"list",_,slot_list_getitem.lookup,ht.isList.typeIs,?_⟩;refine wpAny_getItem_list_slice ht.isList hs pl pu .none (by simp) ?_ (by rw[qW_] <;> omega);rw[sM,<-hlen];refine⟨.ref s.heap.objs.size,_,I.laid (t':=s.toks) (o:= .lst (sQ xs lo hi)) (fun b ob q=>Heap.get?_push_of_some _ q) (qO_ _) ?_,rfl,q _ (I.hok.fresh (qO_ _))⟩;exact⟨Nat.le_trans (pQ xs lo hi) hz,_,0,(r.drop (HT.sIx xs.length 0 lo)).take (HT.sIx xs.length xs.length hi - HT.sIx xs.length 0 lo),Heap.get?_push_size _ rfl⟩
def gF.or{f:Value}{r r':List V->Hp->VK->Prop}(h:gF X f r)(h':gF X f r'):gF X f (fun xs H Q=>r xs H Q\/r' xs H Q):=by
 intro pins s σ H xs us Q I rs q;rcases q with q |q
 · exact h pins s σ H xs us Q I rs q
 · exact h' pins s σ H xs us Q I rs q
def vS:gF X (.type "list") (fun xs H Q=>∃p ys,xs=[.ref p]/\(SqL X.K H p ys\/SqT X.K H p ys)/\∀l,H l=none->Q (.ref l) (upd H l (.lst ys))):=by
 intro pins s σ H xs us Q I r h;obtain⟨p,ys,rfl,hq,q⟩:=h;obtain⟨u,rfl,rx⟩:=vals1 r;cases rx;have fin:∀(aJ:List Value),Vals ys aJ->ys.length<=sizeLine->∀(h':Heap) (c':Nat),(∀b o',s.heap.get? b=some o'->h'.get? b=some o')->
  h'.get? s.heap.objs.size=some {cls:= .type "list",dict:=none,data:= .seq aJ.toArray c',slots:=#[]}->EP X pins σ Q (.ref s.heap.objs.size) {s with heap:=h'}:=fun aJ r' hz h' c' kp e=>
  ⟨.ref s.heap.objs.size,_,I.laid (t':=s.toks) kp (qO_ _) (show bO X.prog X.w _ h' _ (.lst ys)from⟨hz,aJ,c',r',e⟩),rfl,q _ (I.hok.fresh (qO_ _))⟩
 rcases hq with hq |hq
 · obtain⟨aJ,r',pl,hz⟩:=I.list hq;have hlen:=r'.length;obtain⟨o,ho,hc,n,hd⟩:=pl.isList;exact call_list_seq p (.inl rfl) ho hc hd (fun h' c' kp e=>fin aJ r' hz h' c' kp e) (by simp only[qW_] <;> omega)
 · obtain⟨aJ,r',pl,hz⟩:=I.tuple hq;have hlen:=r'.length;obtain⟨o,ho,hc,n,hd⟩:=pl;exact call_list_seq p (.inr rfl) ho hc hd (fun h' c' kp e=>fin aJ r' hz h' c' kp e) (by simp only[qW_] <;> omega)
def tyV(K:PySem.W.Frag)(T:String)(x:V)(H:Hp):Prop:=match x with
 | .str _=>T="str"
 | .int _=>T="int"
 | .ref p=>(T="list"/\∃xs,SqL K H p xs)\/(T="tuple"/\∃o,K.lookup p=some o/\o.cls= .type "tuple"/\o.dict=none)\/
    (T="dict"/\((∃kvs,H p=some (.dK kvs))\/∃kvs,H p=some (.dT kvs)))\/(T="set"/\∃S n,H p=some (.set S n))
 |_=>False
def ze{H:Hp}{s:Shared}(I:Inv X pins σ H s)(r:RelV x v)(ty:tyV X.K T x H):
 s.TypeIs v T/\∀a,v= .ref a->∃ob,s.heap.get? a=some ob/\ob.dict=none:=by
 cases x with
 |str z=>obtain⟨t,rfl⟩:=r;cases (show T="str" from ty);exact⟨typeIs_str s z t,fun _ e=>nomatch e⟩
 |int i=>obtain⟨t,rfl⟩:=r;cases (show T="int" from ty);exact⟨typeIs_int s i t,fun _ e=>nomatch e⟩
 |ref p=>
  cases r;rcases ty with ⟨rfl,xs,hq⟩ |⟨rfl,o,hk,hc,hd⟩ |⟨rfl,hk⟩ |⟨rfl,S,n,hk⟩
  · obtain⟨aJ,_,pl,_⟩:=I.list hq;refine⟨pl.isList.typeIs,fun a e=>?_⟩;cases e;obtain⟨o,n,e,c,hd,_⟩:=pl;exact⟨o,e,hd⟩
  · refine⟨⟨o,I.kIn p o hk,hc⟩,fun a e=>?_⟩;cases e;exact⟨o,I.kIn _ o hk,hd⟩
  · have z:∃o,s.heap.get? p=some o/\o.ExactDict:=by
     rcases hk with ⟨kvs,hk⟩ |⟨kvs,hk⟩
     · obtain⟨_,_,_,_,o,_,_,e,ex,_⟩:=I.hok p _ hk;exact⟨o,e,ex⟩
     · obtain⟨_,_,_,_,o,_,_,e,ex,_⟩:=I.hok p _ hk;exact⟨o,e,ex⟩
    obtain⟨o,e,ex⟩:=z;refine⟨⟨o,e,ex.1⟩,fun a e2=>?_⟩;cases e2;exact⟨o,e,ex.2.1⟩
  · obtain⟨o,_,_,_,e,ex,_⟩:=I.hok p _ hk;refine⟨⟨o,e,ex.1⟩,fun a e2=>?_⟩;cases e2;exact⟨o,e,ex.2.1⟩
 |_=>cases ty
def tBM(K:PySem.W.Frag)(T:String)(r:V->List V->Hp->VK->Prop)(to:TE)(t:TA):TE:=fun σ H Q=>to σ H fun x H1=>tyV K T x H1/\t σ H1 fun xs H2=>r x xs H2 Q
variable{o e:Expr}{es:List Expr}{to:TE}{t:TA}{name:Str}{apos qC:Pos}{T id:String}{r:V->List V->Hp->VK->Prop}
def Af(pa:PlainAttrs T)(slot:Slot T name id)(VB:typeOf (.builtin id)=pure (.type "method_descriptor"))(hm:MtR X id r)(ho:PE X o to)(ha:PA X (e :: es) t)
 (eO:attributeBase o name X.env (eval o X.env)=eval o X.env:=by rfl)
 (wj:((backTo qC (starEach (e :: es) X.env)).all (fun x=>!x.1)&&(backToKw qC (keywordEach [] X.env)).all (fun x=>x.1.isSome)
   &&decide ((e :: es).length+([]:List Keyword).length+(if ([]:List Keyword).isEmpty then 0 else 1) < 30))=true:=by rfl)
 (fR:(apos.endLine==qC.line)=true:=by rfl) (hs:starEach (e :: es) X.env=(false,eval e X.env) :: starEach es X.env:=by rfl) (kx:(backTo qC (starEach es X.env)).any (·.1)=false:=by rfl):
 PE X (.Call (.Attribute o name apos) (e :: es) [] qC) (tBM X.K T r to t):=by
 intro pins s σ H Q I h;refine wpAny_Call_method_late eO wj fR rfl (thn (ho pins s σ H _ I h) fun v s1 ⟨x,H1,I1,r1,ty,q1⟩=>?_);obtain⟨h1,h2⟩:=ze I1 r1 ty;refine⟨T,id,pa,slot,VB,h1,h2,?_⟩;have hA:=ha qC pins s1 σ H1 _ I1 q1;rw[hs]at hA ⊢;refine Calls.callWith_builtin (by show (false||(backTo qC (starEach es X.env)).any (·.1))=false;rw[kx] <;> rfl) (Calls.evalArgs_plain ?_);exact thn hA fun us s2 ⟨vs,H2,I2,r2,q2⟩=>hm pins s2 σ H2 x vs v us Q I2 r1 r2 q2
end
def MtM(X:Cx)(id:String)(r:V->List V->Hp->VK->Prop):Prop:=
 ∀(pins:List (Addr×Obj)) (s:Shared) (σ:St) (H:Hp) (x:V) (xs:List V) (v:Value) (us:List Value) (Q:VK),Inv X pins σ H s->RelV x v->Vals xs us->r x xs H Q->
  wpAny (model X.prog X.w) X.A (call (.builtin id) (v :: us)) (EP X pins σ Q) X.xe s
def Vals.one:∀{x:V} {us:List Value},Vals [x] us->∃u,us=[u]/\RelV x u
 |_,_,.cons r .nil=>⟨_,rfl,r⟩
theorem Vals.eraseIdx:∀{xs:List V} {us:List Value} (i:Nat),Vals xs us->Vals (xs.eraseIdx i) (us.eraseIdx i)
 |_,_,_,.nil=>.nil
 |_,_,0,.cons _ t=>t
 |_,_,i+1,.cons r t=>.cons r (Vals.eraseIdx i t)
theorem Vals.rep(h:Vals xs us):∀k:Nat,Vals (List.replicate k xs).flatten (List.replicate k us).flatten
 |0=>.nil
 |k+1=>by
  rw[List.replicate_succ,List.replicate_succ,List.flatten_cons,List.flatten_cons];exact Vals.append h (Vals.rep h k)
theorem pf{α:Type}:∀(l:List α) (i:Nat),(l.eraseIdx i).length<=l.length
 | [],_=>qO_ _
 |_ :: _,0=>Nat.le_succ _
 |_ :: r,i+1=>Nat.succ_le_succ (pf r i)
theorem foldl_rep(aJ:List Value):∀(k:Nat) (acc:List Value),
 List.foldl (fun x1 x2=>x1++x2) acc.toArray (List.replicate k aJ.toArray)=(acc++(List.replicate k aJ).flatten).toArray
 |0,acc=>by simp
 |k+1,acc=>by
  have e:acc.toArray++aJ.toArray=(acc++aJ).toArray:=by simp
  have e2:(acc++aJ)++(List.replicate k aJ).flatten=acc++(List.replicate (k+1) aJ).flatten:=by rw[List.replicate_succ,List.flatten_cons,List.append_assoc]
  rw[<-e2,<-foldl_rep aJ k (acc++aJ),<-e,List.replicate_succ,List.foldl_cons]
section
variable{X:Cx}{pins:List (Addr×Obj)}{σ:St}{H:Hp}{s:Shared}{l b:Addr}{xs ys zs:List V}
def Inv.Fg{aJ its':List Value}{f:Array Value->Array Value}(I:Inv X pins σ H s)(hH:H l=some (.lst xs))
 (e:s.heap.get? l=some {cls:= .type "list",data:= .seq aJ.toArray n}) (hf:f aJ.toArray=its'.toArray) (hv:Vals ys its') (hz:ys.length<=sizeLine):
 Inv X pins σ (upd H l (.lst ys)) {s with heap:=s.heap.update l (Obj.mapSeq f),toks:=t'}:=by
 have q:=PySem.IsL.update e f;rw[hf]at q;refine I.write (x:=l) (e:=l) (by rw[hH];exact trivial) (.inl rfl) (fun b' u hb hu=>(Heap.get?_update_other s.heap (Obj.mapSeq f) (Ne.symm hb)).trans hu) ⟨_,q⟩ ?_;exact⟨hz,its',_,hv,q⟩
def Inv.M5{aJ:List Value}(I:Inv X pins σ H s)(hv:Vals ys aJ)(hz:ys.length<=sizeLine):
 Inv X pins σ (upd H s.heap.objs.size (.lst ys)) {s with heap:=s.heap.push {cls:= .type "list",data:= .seq aJ.toArray},toks:=t'}:=
 I.laid (fun _ _ q=>Heap.get?_push_of_some _ q) (qO_ _) ⟨hz,aJ,0,hv,Heap.get?_push_size _ rfl⟩
theorem Inv.fresh(I:Inv X pins σ H s):H s.heap.objs.size=none:=I.hok.fresh (qO_ _)
def Inv.xS(I:Inv X pins σ H s)(hH:H l=some (.lst xs)):xs.length<=sizeLine/\∃(aJ:List Value) (n:Nat),Vals xs aJ/\xs.length=aJ.length/\s.heap.get? l=some {cls:= .type "list",data:= .seq aJ.toArray n}:=by
 obtain⟨z,aJ,n,r,e⟩:=I.hok l _ hH;exact⟨z,aJ,n,r,r.length,e⟩
def wB(h:n<=sizeLine):Builtin.List.listTooLong n=false:=by
 unfold Builtin.List.listTooLong;exact qa_ (by omega)
end
section
variable{X:Cx}
def Fx:V->List V->Hp->VK->Prop:=fun x vs H Q=>∃l xs y,x= .ref l/\vs=[y]/\H l=some (.lst xs)/\xs.length < sizeLine/\Q .non (upd H l (.lst (xs++[y])))
def uA:MtM X "list.append" Fx:=by
 intro pins s σ H x vs v us Q I rx rv h;obtain⟨l,xs,y,rfl,rfl,hH,hz,q⟩:=h;cases rx;obtain⟨u,rfl,ru⟩:=rv.one;obtain⟨z,aJ,n,r,hl,e⟩:=I.xS hH;refine call_meets F.slot_list_append ⟨_,e,rfl⟩ F.entry_list_append (F.args_list_append_2 _ _) (PySem.list_append l aJ.toArray n u (by rw[qW_];omega)) ⟨e,?_⟩;refine⟨.non,_,I.Fg (its':=aJ++[u]) hH e (by simp) (r.append (.cons ru .nil)) ?_,rfl,q⟩;rw[qN_,List.length_singleton];omega
def Gs:V->List V->Hp->VK->Prop:=fun x vs H Q=>∃l b xs zs,x= .ref l/\vs=[.ref b]/\H l=some (.lst xs)/\H b=some (.lst zs)/\xs.length+zs.length<=sizeLine/\Q .non (upd H l (.lst (xs++zs)))
def BF:MtM X "list.extend" Gs:=by
 intro pins s σ H x vs v us Q I rx rv h;obtain⟨l,b,xs,zs,rfl,rfl,hH,hB,hz,q⟩:=h;cases rx;obtain⟨u,rfl,ru⟩:=rv.one;cases ru;obtain⟨z,aJ,n,r,hl,e⟩:=I.xS hH;obtain⟨z2,pI,n2,r2,yn,e2⟩:=I.xS hB;have hsz:aJ.toArray.size+pI.toArray.size<=sizeLine:=by rw[qW_,qW_];omega
 have EI:¬(!aJ.toArray.isEmpty&&Builtin.List.listTooLong (aJ.toArray.size+pI.toArray.size))=true:=by rw[wB hsz,Bool.and_false];exact qC_
 refine call_meets F.slot_list_extend ⟨_,e,rfl⟩ F.entry_list_extend (F.args_list_extend_2 _ _)
  (AutoSeq1.list_extend_list_list_0 l aJ.toArray n b pI.toArray n2 EI (by rw[qW_];omega) (by omega)) ⟨e,e2,?_⟩
 refine⟨.non,_,I.Fg (its':=aJ++pI) hH e (by simp) (r.append r2) ?_,rfl,q⟩;rw[qN_];omega
def Lk:V->List V->Hp->VK->Prop:=fun x vs H Q=>∃l xs i k y,x= .ref l/\vs=[.int i]/\H l=some (.lst xs)/\-(2 ^ 63)<=i/\i < 2 ^ 63/\seqIndex? i xs.length=some k/\xs[k]? =some y/\Q y (upd H l (.lst (xs.eraseIdx k)))
def Es:MtM X "list.pop" Lk:=by
 intro pins s σ H x vs v us Q I rx rv h;obtain⟨l,xs,i,k,y,rfl,rfl,hH,h1,h2,hk,hy,q⟩:=h;cases rx;obtain⟨u,rfl,ru⟩:=rv.one;obtain⟨t,rfl⟩:=ru;obtain⟨z,aJ,n,r,hl,e⟩:=I.xS hH;obtain⟨w,hw,E2⟩:=r.get hy;refine call_meets F.slot_list_pop ⟨_,e,rfl⟩ F.entry_list_pop (F.args_list_pop_2 _ _)
  (MeetsSeq.list_pop_at l aJ.toArray n i t k w (fitsIndex_both h1 h2) (by rw[qW_,<-hl];exact hk) (by rw[<-Array.getElem?_toList];exact hw) (by rw[qW_];omega)) ⟨e,?_⟩
 refine⟨y,_,I.Fg (its':=aJ.eraseIdx k) hH e ?_ (r.eraseIdx k) ?_,E2,q⟩
 · show aJ.toArray.eraseIdxIfInBounds k=(aJ.eraseIdx k).toArray;rw[List.eraseIdxIfInBounds_toArray]
 · have:=pf xs k;omega
def MP:R2:=fun x y H Q=>∃l b xs zs,x= .ref l/\y= .ref b/\H l=some (.lst xs)/\H b=some (.lst zs)/\xs.length+zs.length<=sizeLine/\∀p,H p=none->Q (.ref p) (upd H p (.lst (xs++zs)))
def Jt:OpR X (binaryOp .Add) MP:=by
 intro pins s σ H x y v u Q I rx ry h;obtain⟨l,b,xs,zs,rfl,rfl,hH,hB,hz,q⟩:=h;cases rx;cases ry;obtain⟨z,aJ,n,r,hl,e⟩:=I.xS hH;obtain⟨z2,pI,n2,r2,yn,e2⟩:=I.xS hB;refine PySem.P.add_list e e2 ?_ (by rw[qW_,qW_];omega);have ea:aJ.toArray++pI.toArray=(aJ++pI).toArray:=by simp
 rw[ea];exact⟨.ref _,_,I.M5 (t':=s.toks) (r.append r2) (by rw[qN_];omega),rfl,q _ I.fresh⟩
def Nr:R2:=fun x y H Q=>∃l k xs,x= .ref l/\y= .int k/\H l=some (.lst xs)/\-(2 ^ 63)<=k/\k < 2 ^ 63/\xs.length*k.toNat<=sizeLine/\
 ∀p,H p=none->Q (.ref p) (upd H p (.lst (List.replicate k.toNat xs).flatten))
def len_rep{α:Type}(xs:List α)(k:Nat):(List.replicate k xs).flatten.length=k*xs.length:=by
 induction k with
 |zero=>simp
 |succ k ih=>rw[List.replicate_succ,List.flatten_cons,qN_,ih,Nat.succ_mul,Nat.add_comm]
def IU:OpR X (binaryOp .Mult) Nr:=by
 intro pins s σ H x y v u Q I rx ry h;obtain⟨l,k,xs,rfl,rfl,hH,h1,h2,hz,q⟩:=h;cases rx;obtain⟨t,rfl⟩:=ry;obtain⟨z,aJ,n,r,hl,e⟩:=I.xS hH;have hlen:aJ.toArray.size*k.toNat<=sizeLine:=by rw[qW_,<-hl];exact hz
 have Sg:¬aJ.toArray.size*k.toNat > (2 ^ 63 - 1) / 8:=by
  have:(sizeLine:Nat)<=(2 ^ 63 - 1) / 8:=by decide
  omega
 have QQ:¬(!Builtin.List.listFitsIndex k)=true:=by rw[fitsIndex_both h1 h2];exact qC_
 have EI:¬Builtin.List.listTooLong (aJ.toArray.size*k.toNat)=true:=by rw[wB hlen];exact qC_
 have SM:List.foldl (fun x1 x2=>x1++x2) #[] (List.replicate (if aJ.toArray.isEmpty=true then 0 else k.toNat) aJ.toArray)=(List.replicate k.toNat aJ).flatten.toArray:=by
  have f0:∀m:Nat,List.foldl (fun x1 x2=>x1++x2) #[] (List.replicate m aJ.toArray)=(List.replicate m aJ).flatten.toArray:=fun m=>by
   have:=foldl_rep aJ m [];rw[qc_]at this;exact this
  rw[f0];cases aJ with
  |nil=>simp
  |cons a r'=>rw[if_neg (by simp)]
 refine wpAny_binaryOp_repeat_ref (T:="list") (U:="int") (by decide) ⟨_,e,rfl⟩ (fun s'=>typeIs_int s' k t) noFill_list_mul F.fills_int_mul F.slot_int_rmul repeat_list F.slot_int_index.lookup
  (call_meets F.slot_int_rmul (typeIs_int s k t) F.entry_int_rmul (F.args_int_rmul_2 _ _) (int___rmul___int_list k t l aJ.toArray n)
    ⟨e,rfl,⟨_,e,rfl⟩,call_meets F.slot_list_mul ⟨_,e,rfl⟩ F.entry_list_mul (F.args_list_mul_2 _ _) (AutoListH.list___mul___list_int_3 l aJ.toArray n k t QQ Sg EI) ⟨e,?_⟩⟩)
 rw[SM];exact⟨.ref _,_,I.M5 (t':=s.toks) (r.rep k.toNat) (by rw[len_rep,Nat.mul_comm];exact hz),rfl,q _ I.fresh⟩
end
section
variable{prog:Program}{w:World}{A:Around}{E:Value->Shared->Prop}{s:Shared}
set_option maxRecDepth 100000 in
end
section
variable{κ:Type} [DecidableEq κ]
def kH(kvs:List (κ×V))(k:κ):Option V:=(kvs.find? fun kv=>decide (kv.1=k)).map (·.2)
def putK(kvs:List (κ×V))(k:κ)(v:V):List (κ×V):=
 if (kvs.any fun kv=>decide (kv.1=k))=true then kvs.map (fun kv=>if kv.1=k then (kv.1,v)else kv)else kvs++[(k,v)]
def se{p:κ×V}(e:p.1=k):kH (p :: r) k=some p.2:=by simp [kH,List.find?_cons,e]
def ra{p:κ×V}(e:¬p.1=k):kH (p :: r) k=kH r k:=by simp [kH,List.find?_cons,e]
theorem xg(k:κ):∀kvs:List (κ×V),(kvs.any fun kv=>decide (kv.1=k))=(kH kvs k).isSome
 | []=>rfl
 |p :: r=>by
  rw[List.any_cons];by_cases e:p.1=k
  · simp only[se e,qZ_ e,Bool.true_or,Option.isSome_some]
  · rw[ra e,qa_ e,Bool.false_or];exact xg k r
def lO(kvs:List (κ×V))(k:κ)(v:V):(putK kvs k v).length<=kvs.length+1:=by
 unfold putK;split
 · rw[qM_];omega
 · rw[qN_,List.length_cons,List.length_nil];omega
def mI.jz{o:Option V}{u:Option Value}(r:mI o u):o.isSome=u.isSome:=by
 cases o with
 |none=>cases u with
  |none=>rfl
  |some _=>exact(show False from r).elim
 |some _=>cases u with
  |none=>exact(show False from r).elim
  |some _=>rfl
def KV.val(r:KV kvs vs)(k:κ):mI (kH kvs k) (valueAt vs k):=by
 unfold KV at r
 induction r with
 |nil=>exact True.intro
 |@cons p q ps qs h t ih=>
  obtain⟨h1,h2⟩:=h;by_cases e:p.1=k
  · have e':q.1=k:=h1.symm.trans e;have b:valueAt (q :: qs) k=some q.2:=(by simp [valueAt,List.find?_cons,e']);rw[se e,b];exact h2
  · have e':¬q.1=k:=fun z=>e (h1.trans z);have b:valueAt (q :: qs) k=valueAt qs k:=(by simp [valueAt,List.find?_cons,e']);rw[ra e,b];exact ih
theorem KV.any{kvs:List (κ×V)}{vs:List (κ×Value)}(r:KV kvs vs)(k:κ):(kvs.any fun kv=>decide (kv.1=k))=vs.any fun kv=>decide (kv.1=k):=by
 unfold KV at r
 induction r with
 |nil=>rfl
 |cons h t ih=>rw[List.any_cons,List.any_cons,ih,h.1]
def KV.Kl{kvs:List (κ×V)}{vs:List (κ×Value)}(r:KV kvs vs)(k:κ)(ry:RelV y u):
 KV (kvs.map fun kv=>if kv.1=k then (kv.1,y)else kv) (vs.map fun kv=>if kv.1=k then (kv.1,u)else kv):=by
 unfold KV at r ⊢
 induction r with
 |nil=>exact .nil
 |@cons p q ps qs h t ih=>
  rw[List.map_cons,List.map_cons];refine .cons ?_ ih;obtain⟨h1,h2⟩:=h;by_cases e:p.1=k
  · rw[if_pos e,if_pos (h1.symm.trans e)];exact⟨h1,ry⟩
  · rw[if_neg e,if_neg (fun z=>e (h1.trans z))];exact⟨h1,h2⟩
def KV.put{kvs:List (κ×V)}{vs:List (κ×Value)}(r:KV kvs vs)(k:κ){y:V}{u:Value}(ry:RelV y u):KV (putK kvs k y) (stored vs k u):=by
 unfold putK stored;rw[r.any k];by_cases e:(vs.any fun kv=>decide (kv.1=k))=true
 · rw[if_pos e,if_pos e];exact r.Kl k ry
 · rw[if_neg e,if_neg e];exact Paired.snoc r ⟨rfl,ry⟩
theorem KV.length{kvs:List (κ×V)}{vs:List (κ×Value)}(r:KV kvs vs):kvs.length=vs.length:=Paired.length r
end
def ui(r:RelV (kV k) u):(bx P w).is k u=true:=by
 cases k with
 |inl i=>obtain⟨t,e⟩:=(show ∃t,u=Value.int i t from r);subst e;exact xb P w i t
 |inr x=>obtain⟨t,e⟩:=(show ∃t,u=Value.str x t from r);subst e;exact xP P w x t
theorem tY:∀{ks:List Key} {us:List Value},Vals (ks.map kV) us->ItemsAre (bx P w) ks us
 | [],_,r=>by rw[List.map_nil]at r;cases r;exact .nil
 |k :: ks,_,r=>by
  rw[List.map_cons]at r;cases r with
  |cons h t=>exact .cons (ui h) (tY t)
abbrev KT(H:Hp):List (List Key×V)->List (List Key×Addr×Value)->Prop:=Paired fun p q=>p.1=q.1/\H q.2.1=some (.tup (p.1.map kV))/\RelV p.2 q.2.2
def KT.val{H:Hp}(r:KT H kvs xs)(k:List Key):mI (kH kvs k) ((atKey xs k).map (·.2)):=by
 induction r with
 |nil=>exact True.intro
 |@cons p q ps qs h t ih=>
  obtain⟨h1,_,h2⟩:=h;by_cases e:p.1=k
  · have e':q.1=k:=h1.symm.trans e;have b:atKey (q :: qs) k=some q.2:=(by simp [atKey,List.find?_cons,e']);rw[se e,b];exact h2
  · have e':¬q.1=k:=fun z=>e (h1.trans z);have b:atKey (q :: qs) k=atKey qs k:=(by simp [atKey,List.find?_cons,e']);rw[ra e,b];exact ih
def KT.Kl{H:Hp}{kvs:List (List Key×V)}{xs:List (List Key×Addr×Value)}(r:KT H kvs xs)(k:List Key)(ry:RelV y u):
 KT H (kvs.map fun kv=>if kv.1=k then (kv.1,y)else kv) (xs.map (putAt k u)):=by
 induction r with
 |nil=>exact .nil
 |@cons p q ps qs h t ih=>
  rw[List.map_cons,List.map_cons];refine .cons ?_ ih;obtain⟨h1,h2,h3⟩:=h;unfold putAt;by_cases e:p.1=k
  · rw[if_pos e,if_pos (h1.symm.trans e)];exact⟨h1,h2,ry⟩
  · rw[if_neg e,if_neg (fun z=>e (h1.trans z))];exact⟨h1,h2,h3⟩
def KT.put{H:Hp}{kvs:List (List Key×V)}{xs:List (List Key×Addr×Value)}(r:KT H kvs xs)(k:List Key){b:Addr}{y:V}{u:Value}(hb:H b=some (.tup (k.map kV)))(ry:RelV y u):
 KT H (putK kvs k y) (storedH xs k b u):=by
 have e:(kvs.any fun kv=>decide (kv.1=k))=(atKey xs k).isSome:=by rw[xg,(r.val k).jz,Option.isSome_map]
 unfold putK storedH;rw[e];by_cases q:(atKey xs k).isSome=true
 · rw[if_pos q,if_pos q];exact r.Kl k ry
 · rw[if_neg q,if_neg q];exact Paired.snoc r ⟨rfl,hb,ry⟩
def KT.keeps{H H':Hp}{kvs:List (List Key×V)}{xs:List (List Key×Addr×Value)}(r:KT H kvs xs)(ht:∀b ys,H b=some (.tup ys)->H' b=some (.tup ys)):KT H' kvs xs:=
 Paired.GL r fun _ _ z=>⟨z.1,ht _ _ z.2.1,z.2.2⟩
section
variable{P:Program}{w:World}{H:Hp}{h:Heap}{a:Addr}
def Ib(ok:HOk P w H h)(e:Rd H a u):bO P w H h a u:=e.ok ok
def uv{kvs:List (Key×V)}(ok:HOk P w H h)(e:Rd H a (.dK kvs)):kvs.length<=sizeLine/\(a==sysModules)=false/\∃vs,KV kvs vs/\h.DictOf (bx P w) a vs:=
 show bO P w H h a (.dK kvs)from Ib ok e
def xA{kvs:List (Key×V)}(ok:HOk P w H h)(e:H a=some (.dK kvs)):kvs.length<=sizeLine/\(a==sysModules)=false/\∃vs,KV kvs vs/\h.DictOf (bx P w) a vs:=uv ok (.inl e)
def rb{ks:List Key}(ok:HOk P w H h)(e:H a=some (.tup (ks.map kV))):(tupleKind (bx P w)).is h ks a:=by
 obtain⟨_,aJ,r,o,h1,h2,n,h3⟩:=(show bO P w H h a (.tup (ks.map kV))from ok a _ e);exact⟨o,aJ.toArray,n,h1,h2,h3,by simpa using tY r⟩
def xV{kvs:List (List Key×V)}(ok:HOk P w H h)(e:Rd H a (.dT kvs)):kvs.length<=sizeLine/\(a==sysModules)=false/\
 ∃xs,KT H kvs xs/\h.DictOfH (tupleKind (bx P w)) a xs:=by
 obtain⟨z,y,xs,r,o,es,ep,h1,h2,h3,h4,h5⟩:=(show bO P w H h a (.dT kvs)from Ib ok e);refine⟨z,y,xs,r,o,es,ep,h1,h2,h3,h4,fun x hx=>?_,h5⟩;have all:∀{l:List (List Key×V)} {m:List (List Key×Addr×Value)},KT H l m->∀x∈m,(tupleKind (bx P w)).is h x.1 x.2.1:=by
  intro l m q
  induction q with
  |nil=>intro x hx;exact nomatch hx
  |@cons p q ps qs hq t ih=>
   intro x hx;rcases qS_.mp hx with e |hx
   · subst e;exact rb ok (by rw[<-hq.1];exact hq.2.1)
   · exact ih x hx
 exact all r x hx
def Nh{kvs:List (List Key×V)}(ok:HOk P w H h)(e:H a=some (.dT kvs)):kvs.length<=sizeLine/\(a==sysModules)=false/\
 ∃xs,KT H kvs xs/\h.DictOfH (tupleKind (bx P w)) a xs:=xV ok (.inl e)
end
def rm(H:Hp)(a:Addr)(y:V)(r:Option V):Prop:=
 (∃kvs k,Rd H a (.dK kvs)/\y=kV k/\r=kH kvs k)\/∃kvs k b,Rd H a (.dT kvs)/\y= .ref b/\H b=some (.tup (k.map kV))/\r=kH kvs k
def Cg(H:Hp)(a:Addr)(y v:V)(H':Hp):Prop:=
 (∃kvs k,H a=some (.dK kvs)/\y=kV k/\kvs.length < sizeLine/\H'=upd H a (.dK (putK kvs k v)))\/
 ∃kvs k b,H a=some (.dT kvs)/\y= .ref b/\H b=some (.tup (k.map kV))/\kvs.length < sizeLine/\H'=upd H a (.dT (putK kvs k v))
theorem rm.k{H:Hp}{a:Addr}{kvs:List (Key×V)}{k:Key}(e:H a=some (.dK kvs)):rm H a (kV k) (kH kvs k):= .inl ⟨kvs,k,.inl e,rfl,rfl⟩
theorem Cg.k{H:Hp}{a:Addr}{kvs:List (Key×V)}{k:Key}{v:V}(e:H a=some (.dK kvs))(hl:kvs.length < sizeLine):Cg H a (kV k) v (upd H a (.dK (putK kvs k v))):= .inl ⟨kvs,k,e,rfl,hl,rfl⟩
section
variable{X:Cx}{pins:List (Addr×Obj)}{σ:St}{H:Hp}{s:Shared}{a:Addr}{y v:V}{u r:Value}{o:Option V}{A:Around}{E:Value->Shared->Prop}
def Inv.big(I:Inv X pins σ H s):sysModules < s.heap.objs.size:=by
 have h:mainGlobals < s.heap.objs.size:=(I.mod.glob.keeps I.bk).lt;exact Nat.lt_trans (by decide) h
def Bv{Q:Value->Shared->Prop}(hu:A.units+1 < cLine)(I:Inv X pins σ H s)(g:rm H a y (some v))(ry:RelV y u)(h:∀w' s',Inv X pins σ H s'->RelV v w'->Q w' s'):
 wpAny (model X.prog X.w) A (getItem (.ref a) u) Q E s:=by
 rcases g with ⟨kvs,k,e,ey,l⟩ |⟨kvs,k,b,e,ey,eb,l⟩
 · subst ey;obtain⟨z,hd,vs,rel,dd⟩:=uv I.hok e;obtain⟨w',hw,E2⟩:=mI.some_of (v:=v) (o:=valueAt vs k) (by rw[l];exact rel.val k);exact wpAny_getItem_of (ui ry) dd.mapOf hw (h w' _ (I.tok _) E2)
 · subst ey;cases (show u=Value.ref b from ry);obtain⟨z,hd,xs,rel,dd⟩:=xV I.hok e;obtain⟨w',hw,E2⟩:=mI.some_of (v:=v) (o:=(atKey xs k).map (·.2)) (by rw[l];exact rel.val k);obtain⟨p,hp,Wm⟩:=Option.map_eq_some_iff.mp hw;refine wpAny_getItem_heap (tupleKind_room_in1 hu) (rb I.hok eb) dd hp ?_;rw[Wm];exact h w' _ (I.tok _) E2
def Pt{Q:Value->Shared->Prop}(hu:A.units+1 < cLine)(I:Inv X pins σ H s)(g:rm H a y o)(ry:RelV y u)(h:∀s',Inv X pins σ H s'->Q (.bool o.isSome) s'):
 wpAny (model X.prog X.w) A (compareOp .In u (.ref a)) Q E s:=by
 rcases g with ⟨kvs,k,e,ey,l⟩ |⟨kvs,k,b,e,ey,eb,l⟩
 · subst ey;obtain⟨z,hd,vs,rel,dd⟩:=uv I.hok e;refine wpAny_in_of (ui ry) hd dd.mapOf ?_;rw[<-(rel.val k).jz,<-l];exact h _ (I.tok _)
 · subst ey;cases (show u=Value.ref b from ry);obtain⟨z,hd,xs,rel,dd⟩:=xV I.hok e;refine wpAny_in_heap (tupleKind_room_in1 hu) (rb I.hok eb) hd dd ?_;have q:=(rel.val k).jz;rw[Option.isSome_map]at q;rw[<-q,<-l];exact h _ (I.tok _)
def F2{Q:Value->Shared->Prop}(hu:A.units+1 < cLine)(I:Inv X pins σ H s)(g:rm H a y o)(ry:RelV y u)(h:∀s',Inv X pins σ H s'->Q (.bool (!o.isSome)) s'):
 wpAny (model X.prog X.w) A (compareOp .NotIn u (.ref a)) Q E s:=by
 rcases g with ⟨kvs,k,e,ey,l⟩ |⟨kvs,k,b,e,ey,eb,l⟩
 · subst ey;obtain⟨z,hd,vs,rel,dd⟩:=uv I.hok e;refine wpAny_notIn_of (ui ry) hd dd.mapOf ?_;rw[<-(rel.val k).jz,<-l];exact h _ (I.tok _)
 · subst ey;cases (show u=Value.ref b from ry);obtain⟨z,hd,xs,rel,dd⟩:=xV I.hok e;refine wpAny_notIn_heap (tupleKind_room_in1 hu) (rb I.hok eb) hd dd ?_;have q:=(rel.val k).jz;rw[Option.isSome_map]at q;rw[<-q,<-l];exact h _ (I.tok _)
def vz{h':Heap}(I:Inv X pins σ H s)(mu:Mut (H a))(hs:Heap.SameBut a s.heap h')(he:∃q,h'.get? a=some q)(new:bO X.prog X.w (upd H a ob) h' a ob):
 Inv X pins σ (upd H a ob) {s with heap:=h',toks:=t'}:=
 I.write (x:=a) (e:=a) mu (.inl rfl) (fun b q hb z=>(hs.2 b hb).trans z) he new
def CV{H':Hp}{h':Heap}{kvs:List (Key×V)}(z:kvs.length<=sizeLine)(hd:(a==sysModules)=false)(rel:KV kvs vs)(dd:h'.DictOf (bx P w) a vs):
 bO P w H' h' a (.dK kvs):=⟨z,hd,vs,rel,dd⟩
def Bs{H':Hp}{Q:Unit->Shared->Prop}(hu:A.units+1 < cLine)(I:Inv X pins σ H s)(g:Cg H a y v H')(ry:RelV y u)(rv:RelV v r)(h:∀s',Inv X pins σ H' s'->Q () s'):
 wpAny (model X.prog X.w) A (setItem (.ref a) u r) Q E s:=by
 rcases g with ⟨kvs,k,e,ey,l,eH⟩ |⟨kvs,k,b,e,ey,eb,l,eH⟩
 · subst ey eH;obtain⟨z,hd,vs,rel,dd⟩:=xA I.hok e;have hz:vs.length<=sizeLine:=by rw[<-rel.length];exact z
   have hl:(putK kvs k v).length<=sizeLine:=by have:=lO kvs k v;omega
   refine wpAny_setItem_pairs (hsz:=hz) (ui ry) dd fun h' HI hs=>h _ ?_;have he:∃q,h'.get? a=some q:=let ⟨q,_,_,hq,_⟩:=HI;⟨q,hq⟩;exact vz I (by rw[e];exact True.intro) hs he (CV hl hd (rel.put k rv) HI)
 · subst ey eH;cases (show u=Value.ref b from ry);obtain⟨z,hd,xs,rel,dd⟩:=Nh I.hok e;have hz:xs.length<=sizeLine:=by rw[<-Paired.length rel];exact z
   have hl:(putK kvs k v).length<=sizeLine:=by have:=lO kvs k v;omega
   refine wpAny_setItem_heap (hsz:=hz) (tupleKind_room_in1 hu) (rb I.hok eb) dd fun h' HI hs=>h _ ?_;obtain⟨q,es,ep,hq,h2,h3,h4,_,h5⟩:=HI;refine vz I (by rw[e];exact True.intro) hs ⟨q,hq⟩ ⟨hl,hd,_,(rel.put k eb rv).keeps fun c ys ec=>?_,q,es,ep,hq,h2,h3,h4,h5⟩;rw[aI (Dm ec e (fun z=>nomatch z))];exact ec
end
section
variable{X:Cx}{pins:List (Addr×Obj)}{σ:St}{H:Hp}{s:Shared}{a:Addr}{kvs:List (Key×V)}{k:Key}{u:Value}{A:Around}{E:Value->Shared->Prop}
def Nx{Q:Value->Shared->Prop}(I:Inv X pins σ H s)(e:Rd H a (.dK kvs))(h:∀t s',Inv X pins σ H s'->Q (.int kvs.length t) s'):wpAny (model X.prog X.w) A (call (.builtin "len") [.ref a]) Q E s:=by
 obtain⟨z,hd,vs,rel,dd⟩:=uv I.hok e;refine call_len_dict hd dd (by rw[<-rel.length];rw[sizeLine_eq]at z;omega) ?_;rw[<-rel.length];exact h _ _ (I.tok _)
end
def xl{H:Hp}{s:Shared}(I:Inv X pins σ H s)(g:rm H a y o):s.TypeIs (.ref a) "dict":=by
 rcases g with ⟨kvs,k,e,_,_⟩ |⟨kvs,k,b,e,_,_,_⟩
 · obtain⟨_,_,vs,_,dd⟩:=uv I.hok e;exact dd.typeIs
 · obtain⟨_,_,xs,_,dd⟩:=xV I.hok e;exact dd.typeIs
def xD{H:Hp}(h:Heap)(hb:sysModules < h.objs.size):bO P w H (h.push {cls:= .type "dict",data:= .dict #[]}) h.objs.size (.dK []):=
 ⟨qf_ _,beq_eq_false_iff_ne.mpr (Ne.symm (Nat.ne_of_lt hb)),[],.nil,Heap.DictOf.new h⟩
def K2:TE:=fun _ H Q=>∀p,H p=none->Q (.ref p) (upd H p (.dK []))
section
variable{X:Cx}{pos:Pos}
def Cd:PE X (.Dict [] [] pos) K2:=fun pins s σ H Q I h=>
 wpAny_Dict_empty ⟨.ref s.heap.objs.size,_,I.laid (a:=s.heap.objs.size) (o:= .dK []) (t':=s.toks) (fun _ _ q=>Heap.get?_push_of_some _ q) (qO_ _) (xD s.heap I.big),rfl,h _ (I.hok.fresh (qO_ _))⟩
end
def vv:List (TE×TE)->St->Hp->(List (V×V)->Hp->Prop)->Prop
 | [],_,H,Q=>Q [] H
 |(tk,tv) :: r,σ,H,Q=>tk σ H fun x H1=>tv σ H1 fun y H2=>vv r σ H2 fun ps H3=>Q ((x,y) :: ps) H3
abbrev VV:List (V×V)->List (Value×Value)->Prop:=Paired fun p q=>RelV p.1 q.1/\RelV p.2 q.2
def PPs(X:Cx)(pos:Pos)(keys:List (Option Expr))(values:List Expr)(BM:List (TE×TE)):Prop:=
 ∀(pins:List (Addr×Obj)) (s:Shared) (σ:St) (H:Hp) (Q:List (V×V)->Hp->Prop),Inv X pins σ H s->vv BM σ H Q->
  wpAny (model X.prog X.w) X.A (evalPairs (pairTrees keys values X.env pos)) (fun vs s'=>∃ps H',Inv X pins σ H' s'/\VV ps vs/\Q ps H') X.xe s
def Fi:PPs X pos [] [] []:=fun pins s σ H Q I h=>pairTrees_nil_walk ⟨[],H,I,.nil,h⟩
def Dn{tk tv:TE}(hk:PE X k tk)(hv:PE X v tv)(hr:PPs X pos ks vs BM):
 PPs X pos (some k :: ks) (v :: vs) ((tk,tv) :: BM):=fun pins s σ H Q I h=>
 pairTrees_cons_walk (thn (hk pins s σ H _ I h) fun u s1 ⟨x,H1,I1,rx,q1⟩=>thn (hv pins s1 σ H1 _ I1 q1) fun w2 s2 ⟨y,H2,I2,ry,q2⟩=>
  thn (hr pins s2 σ H2 _ I2 q2) fun ws s3 ⟨ps,H3,I3,rel,q3⟩=>⟨(x,y) :: ps,H3,I3,.cons ⟨rx,ry⟩ rel,q3⟩)
def j7(kvs more:List (Key×V)):List (Key×V):=more.foldl (fun acc kv=>putK acc kv.1 kv.2) kvs
def KV.merge:∀{more:List (Key×V)} {rs:List (Key×Value)} {kvs:List (Key×V)} {vs:List (Key×Value)},KV more rs->KV kvs vs->KV (j7 kvs more) (merged vs rs):=by
 intro more rs kvs vs r;unfold KV at r
 induction r generalizing kvs vs with
 |nil=>intro q;exact q
 |@cons p q ps qs h t ih=>
  intro r0;have e:KV (putK kvs p.1 p.2) (stored vs q.1 q.2):=by have:=r0.put p.1 h.2;rw[<-h.1];exact this
  exact ih e
theorem mY:∀(more kvs:List (Key×V)),(j7 kvs more).length<=kvs.length+more.length
 | [],kvs=>by show kvs.length<=kvs.length+0;omega
 |p :: r,kvs=>by
  have h1:=mY r (putK kvs p.1 p.2);have h2:=lO kvs p.1 p.2;show (j7 (putK kvs p.1 p.2) r).length<=_;rw[List.length_cons];omega
theorem r6:∀{kvs:List (Key×V)} {ws:List (Value×Value)},VV (kvs.map fun kv=>(kV kv.1,kv.2)) ws->∃rs,Carries (bx P w) ws rs/\KV kvs rs
 | [],_,r=>by rw[List.map_nil]at r;cases r;exact⟨[],True.intro,.nil⟩
 |p :: kvs,_,r=>by
  rw[List.map_cons]at r;cases r with
  |@cons a b as bs h t=>obtain⟨rs,c,q⟩:=r6 (P:=P) (w:=w) t;obtain⟨b1,b2⟩:=b;exact⟨(p.1,b2) :: rs,⟨ui h.1,rfl,c⟩,.cons ⟨rfl,h.2⟩ q⟩
def NP(BM:List (TE×TE)):TE:=fun σ H Q=>∀p,H p=none->vv BM σ (upd H p (.dK [])) fun ps H2=>H2 p=some (.dK [])/\∃kvs:List (Key×V),ps=kvs.map (fun kv=>(kV kv.1,kv.2))/\kvs.length<=15/\Q (.ref p) (upd H2 p (.dK (j7 [] kvs)))
def Fh{keys:List (Option Expr)}{values:List Expr}(h:PPs X pos keys values BM)(af:keys.all (·.isSome)=true)(hl:keys.length=values.length)(h0:keys≠ [])
 (Qn:keys.length<=15):PE X (.Dict keys values pos) (NP BM):=by
 intro pins s σ H Q I q;have hn:=I.hok.fresh (qO_ s.heap.objs.size);have I1:=I.laid (a:=s.heap.objs.size) (o:= .dK []) (h':=s.heap.push {cls:= .type "dict",data:= .dict #[]}) (t':=s.toks) (fun _ _ q=>Heap.get?_push_of_some _ q) (qO_ _) (xD s.heap I.big);refine wpAny_Dict_walk (knd:=bx X.prog X.w) af hl h0 Qn (thn (h pins _ σ _ _ I1 (q _ hn)) fun ws s2 ⟨ps,H2,I2,rel,e,kvs,ep,lk,q2⟩=>?_);subst ep;obtain⟨rs,c,rk⟩:=r6 (P:=X.prog) (w:=X.w) rel;obtain⟨z,hd,WT,r0,dd⟩:=xA I2.hok e;cases r0;refine⟨rs,c,dd,fun h' HI hs=>⟨.ref s.heap.objs.size,_,?_,rfl,q2⟩⟩;have hz:(j7 [] kvs).length<=sizeLine:=by have h1:=mY kvs [];rw[List.length_nil]at h1;rw[sizeLine_eq];omega
 have he:∃q,h'.get? s.heap.objs.size=some q:=let ⟨q,_,_,hq,_⟩:=HI;⟨q,hq⟩;exact vz I2 (by rw[e];exact True.intro) hs he (CV hz hd (rk.merge .nil) HI)
end L2
namespace Att
open PySem PySem.W PySem.Calls PyProof.Rows
def qx:∀(ns:List Int) (vs:List Value),WellAll P h vs (ns.map WData.int)->IntsAre vs ns:=by
 intro ns
 induction ns with
 |nil=>intro vs w;rw[List.map_nil]at w;cases w;exact .nil
 |cons n ns ih=>
  intro vs w;rw[List.map_cons]at w;cases w with
  |cons a b=>cases a;exact .cons _ _ (ih _ b)
def AZ{l:OpenLaw}(hn:l.most=some n){h:Heap}
 (HK:l.row.toRowW.claim.pre args=true) (S5:WellAll P h vals args):
 ∃a vs ns,vals=[Value.ref a]/\args=[WData.list (ns.map WData.int)]/\h.get? a=some {cls:= .type "list",data:= .seq vs.toArray}/\IntsAre vs ns/\ns.length<=n:=by
 have Vc:WShape.hasAll [] args [.list .int]=true:=(pre_splitW HK).1;have hc:l.pre.holds [] {args:=args}=true:=(pre_splitW HK).2;obtain⟨d,r,rfl,h1,h2⟩:=hasAllW_cons Vc;obtain rfl:=hasAllW_nil h2;obtain⟨xs,rfl,h3⟩:=hasW_list h1;obtain⟨ns,rfl⟩:=items_int h3;have hlen:ns.length<=n:=by
  unfold OpenLaw.pre at hc;have h4:(WTm.not (.lt (.lit (.int (n:Int))) (.len (.arg 0)))).holds [] {args:=[.list (ns.map .int)]}=true:=by have h4:=(holds_andW hc).1;rw[hn]at h4;exact h4
  have h5:=condW_of h4 (w_not (w_lt w_lit (w_len_list (w_arg rfl))));rw[qM_]at h5;refine Nat.le_of_not_lt fun q=>?_;have q':(n:Int) < ((ns.length:Nat):Int):=by omega
  first
   |(rw[qZ_ q']at h5;exact absurd h5 (by decide))
   |(simp at h5;omega)
 cases S5 with
 |cons w1 w2=>
  cases w2;cases w1 with
  |list ho af=>exact⟨_,_,ns,rfl,rfl,ho,qx ns _ af,hlen⟩
def Be(l:OpenLaw)(args:List WData):l.row.toRowW.claim.post args (.bool true) args=true:=
 postW_of (r:=l.row.toRowW) (X:=(true==true))
  (show WShape.has [] (.bool true) .bool=true by first |rfl |decide |simp [WShape.has,WShape.arms,WShape.armsAll])
  (show (WTm.eq .res (.lit (.bool true))).value [] {args:=args,res:=some (.bool true),after:=args}=some (.bool (true==true))from w_eq_bool (w_res rfl) w_lit) rfl
def xY{l:OpenLaw}{XP:(Str->Option Value)->Heap->Prop}{YP:World->Heap->Prop}{d:DefRec}
 (hn:l.most=some n) (O1:d.params.defaults=[])
 (call:∀(w:World) (s₀ s₁:Shared) (mg mb:Str->Option Value) (fa:Addr) (o:Obj) (pm cd doc:Value) (a:Addr) (vs:List Value) (ns:List Int),
   Ground q loose [] XP w s₀ mg mb s₁.heap->YP w s₁.heap->
   s₁.heap.get? fa=some o->o.data= .func (docDef d.name d.params d.body d.scope pm cd doc)->s₁.heap.CodeRec cd d.name->mg d.name=some (.ref fa)->
   s₁.heap.get? a=some {cls:= .type "list",data:= .seq vs.toArray}->IntsAre vs ns->ns.length<=n->s₁.gens=#[]->
   codeAny (model l.prog w) callerA (.call (.ref fa) ⟨[.ref a],[]⟩) (fun r s'=>r= .ok (.ret (.bool true))/\OldK s₁.heap s'.heap/\s'.os=s₁.os/\AllBare s'.gens) s₁):
 WalkO q loose XP YP l.row.toRowW d [] (fun f vs=>PySem.call f vs):=by
 intro w s₀ s₁ mg mb G Y fa o pm cd doc dV kV ho hd BN hD Og hg args vals as HK V1 qB S5 W5;obtain rfl:dV= .none:=Dflts.none hD O1;obtain rfl:kV= .none:=Dflts.noKw hD;obtain⟨a,vs,ns,rfl,rfl,LC,ER,hlen⟩:=AZ hn HK S5;refine enter_call (codeAny_mono (call w s₀ s₁ mg mb fa o pm cd doc a vs ns G Y ho (fd_plain hd) BN Og LC ER hlen hg) fun r s' hq=>?_);obtain⟨rfl,h2,h3,h4⟩:=hq;exact⟨.inl ⟨.bool true,.bool true,[],rfl,fun _=>rfl,.bool true,Be l _,fun _=>⟨List.Pairwise.nil,fun _ hm=>(nomatch hm)⟩⟩,h2,h3,h4⟩
end Att
namespace L2
open PySem PySem.Spec PyProof.Rows
theorem ux:∀{vs:List Value} {ns:List Int},IntsAre vs ns->Vals (ns.map V.int) vs
 |_,_,.nil=>.nil
 |_,_,.cons n t h=>.cons ⟨t,rfl⟩ (ux h)
def CP(H:Hp):Prop:=∀b,H b=none\/∃o xs,H b=some (.frz o (.lst xs))
def Eg{K:PySem.W.Frag}{mg mb:Str->Option Value}{CX:CXT}{sp:Sp}{s₁:Shared}{vs:List Value}{ns:List Int}
 (KX:K.In s₁.heap) (IJ:s₁.heap.Ns mainGlobals mg) (hb:s₁.heap.Ns builtinsNs mb) (VF:∀x:Str,x≠"__name__"->mb x=bootBuiltins x) (SH:s₁.heap.NoLimit) (hg:s₁.gens=#[])
 (ha:s₁.heap.get? a=some {cls:= .type "list",data:= .seq vs.toArray}) (hi:IntsAre vs ns) (hl:ns.length<=sizeLine) (hr:dR k callerA)
 (F:∀base:Heap,K.In base->base.Ns mainGlobals mg->cj P w K mg base CX k fa fd [x] sp) (OS:∀(s:Shared) (u:Value),BindsTo s fd ⟨[u],[]⟩ [(x,u)])
 (IM:∀H:Hp,CP H->SqL K H a (ns.map V.int)->sp [.ref a] H (fun v _=>v= .bl true) fun _ _ _=>False)
 (QY:∀H e s',CX [] H s₁ (fun _ _ _=>False) e s'->False):
 codeAny (model P w) callerA (.call (.ref fa) ⟨[.ref a],[]⟩) (fun r s'=>r= .ok (.ret (.bool true))/\OldK s₁.heap s'.heap/\s'.os=s₁.os/\AllBare s'.gens) s₁:=by
 have rv:=ux hi;have Qt:=hi.length;have core:∀H:Hp,CP H->SqL K H a (ns.map V.int)->HOk P w H s₁.heap->(∀b,H b≠none->b=a)->(H a≠none->K.lookup a=none)->
  codeAny (model P w) callerA (.call (.ref fa) ⟨[.ref a],[]⟩) (fun r s'=>r= .ok (.ret (.bool true))/\OldK s₁.heap s'.heap/\s'.os=s₁.os/\AllBare s'.gens) s₁:=by
  intro H hO hS hok hA hK;have AH:∀{b:Addr} {o:Obj},s₁.heap.get? b=some o->H b=none->(vt s₁.heap H).get? b=some o:=fun e n=>Ct e n;have Oi:∀{b:Addr} {o:Obj} {es:Array DictEntry} {ep:Nat},s₁.heap.get? b=some o->o.data= .dict es ep->H b=none:=fun {b o es ep} e d=>by
   cases q:H b with
   |none=>rfl
   |some u=>have e':b=a:=hA b (by rw[q];simp);subst e';rw[ha]at e;cases e;have d':Data.seq vs.toArray _=Data.dict es ep:=d;cases d'
  have Pa:∀{b:Addr} {m:Str->Option Value},s₁.heap.Ns b m->(vt s₁.heap H).Ns b m:=fun {b m} ⟨o,es,ep,e,d,r⟩=>⟨o,es,ep,AH e (Oi e d),d,r⟩;have UE:K.In (vt s₁.heap H):=fun b o e=>AH (KX b o e) (by
   cases q:H b with
   |none=>rfl
   |some u=>
    have e':b=a:=hA b (by rw[q];simp);subst e'
    rw[hK (by rw[q];simp)]at e;cases e)
  have hM:Mod K mg (vt s₁.heap H):=⟨UE,Pa IJ,⟨mb,Pa hb,VF⟩,let ⟨mc,h1,h2⟩:=SH;⟨mc,Pa h1,h2⟩⟩;have e0:yF P w K mg (vt s₁.heap H) callerA [] s₁ H:=⟨rfl,hM,fun b o e=>Gu e,Nat.le_of_eq (Bu _ _),trivial,fun b hb=>absurd (show b∈([]:List Addr)from hb) (by simp),hok,.of_eq hg⟩;refine codeAny_mono ((F _ UE (Pa IJ)).run callerA [] s₁ H ⟨[.ref a],[]⟩ [.ref a] [.ref a] _ _ hr e0 (OS s₁ (.ref a)) (.cons rfl .nil) (IM H hO hS)) fun r s' h=>?_;cases r with
  |error e=>exact(QY H e s' h).elim
  |ok fl=>
   cases fl with
   |next=>cases h
   |brk=>cases h
   |cont=>cases h
   |ret u=>
    obtain⟨v,H',os,bare,un,Sj,r',q⟩:=h;have q':v= .bl true:=q;subst q';obtain rfl:u=Value.bool true:=r';refine⟨rfl,OldK.of_keep fun b o e=>?_,os,bare⟩;cases q:H b with
    |none=>exact un.keep b o e q (by intro z;exact absurd (show b∈([]:List Addr)from z) (by simp)) (by simp)
    |some u=>
     rcases hO b with z |⟨ob,xs,z⟩
     · rw[q]at z;cases z
     · have z2:=un.oV b ob _ z;obtain⟨e1,_⟩:=hok b _ z;obtain⟨e2,_⟩:=Sj b _ z2;rw[e]at e1;cases e1;exact e2
 cases hk:K.lookup a with
 |some o=>have e:=KX a o hk;rw[ha]at e;cases e;refine core (fun _=>none) (fun _=>.inl rfl) (.inr ⟨_,vs.toArray,_,hk,rfl,rfl,rfl,by rw[qW_,Qt];exact hl,by simpa using rv⟩) (fun b u z=>by have z':(none:Option HO)=some u:=z;cases z') (fun b z=>absurd rfl z) fun z=>absurd rfl z
 |none=>
  refine core (fun b=>if b=a then some (.frz {cls:= .type "list",data:= .seq vs.toArray} (.lst (ns.map V.int)))else none) (fun b=>?_) (.inl (.inr ⟨{cls:= .type "list",data:= .seq vs.toArray},if_pos rfl⟩)) (fun b u z=>?_) (fun b z=>?_) fun _=>hk
  · by_cases hb:b=a
    · exact .inr ⟨_,_,if_pos hb⟩
    · exact .inl (if_neg hb)
  · by_cases hb:b=a
    · have z':=(if_pos hb).symm.trans z;cases z';subst hb;exact⟨ha,by rw[qM_];exact hl,vs,_,rv,ha⟩
    · have z':=(if_neg hb).symm.trans z;cases z'
  · by_cases hb:b=a
    · exact hb
    · exact absurd (if_neg hb) z
def Fv{l:PySem.W.OpenLaw}{XP:(Str->Option Value)->Heap->Prop}{YP:World->Heap->Prop}{d:DefRec}{K:Params->PySem.W.Frag}{CX:World->CXT}{sp:World->Sp}
 (hn:l.most=some n) (BL:n<=sizeLine) (O1:d.params.defaults=[]) (hr:dR k callerA)
 (hY:∀(w:World) (h:Heap),YP w h->(K w.params).In h)
 (F:∀(w:World) (mg:Str->Option Value) (fa:Addr) (h:Heap),(K w.params).In h->h.Ns mainGlobals mg->mg d.name=some (.ref fa)->
   ∃fd:FuncData,(∀(s:Shared) (u:Value),BindsTo s fd ⟨[u],[]⟩ [(x,u)])/\
    ∀base:Heap,(K w.params).In base->base.Ns mainGlobals mg->cj l.prog w (K w.params) mg base (CX w) k fa fd [x] (sp w))
 (IM:∀(w:World) (H:Hp) (a:Addr) (ns:List Int),ns.length<=n->CP H->SqL (K w.params) H a (ns.map V.int)->sp w [.ref a] H (fun v _=>v= .bl true) fun _ _ _=>False)
 (QY:∀(w:World) (H:Hp) (s:Shared) (e:Value) (s':Shared),CX w [] H s (fun _ _ _=>False) e s'->False):
 PySem.W.WalkO q loose XP YP l.row.toRowW d [] (fun f vs=>PySem.call f vs):=by
 refine Att.xY hn O1 fun w s₀ s₁ mg mb fa o pm cd doc a vs ns G Y ho hd BN Og LC ER hlen hg=>?_;have KX:=hY w _ Y;obtain⟨fd,hb,hF⟩:=F w mg fa _ KX G.T.g Og;exact Eg KX G.T.g G.T.b G.T.builtins G.T.nolimit hg LC ER (Nat.le_trans hlen BL) hr hF hb (fun H hO hS=>IM w H a ns hlen hO hS) fun H e s'=>QY w H s₁ e s'
def inClass(s:Stmt)(j:Nat):Stmt:=match s with
 | .ClassDef _ _ _ body _ _ _ _ _ _ _=>body.getD j (.Pass ⟨0,0,0,0⟩)
 |_=>.Pass ⟨0,0,0,0⟩
def oF(s:Stmt):Arguments:=match s with
 | .FunctionDef _ a _ _ _ _ _ _ _ _=>a
 |_=>{posonlyargs:=[],args:=[],vararg:=none,kwonlyargs:=[],kw_defaults:=[],kwarg:=none,defaults:=[]}
def gO(s:Stmt):List Stmt:=match s with
 | .FunctionDef _ _ b _ _ _ _ _ _ _=>b
 |_=>[]
def bu(s:Stmt):Scope:=match s with
 | .FunctionDef _ _ _ _ _ _ sc _ _ _=>sc
 |_=>{kind:= .function,names:=[],isGenerator:=false,isCoroutine:=false}
abbrev CX0:CXT:=fun _ _ _ _ _ _=>False
structure Fun (K:PySem.W.Frag) (x qual:Str) (st:Stmt) (f:Addr) (fd:FuncData):Prop where
 ex:∃(oc:Value) (od:Option Addr) (kV doc pm:Value) (an:Option Addr) (jC ct:Value) (E5:Array (Option Value)),
  fd=PySem.W.fnOf x qual (oF st) (gO st) (bu st) .none kV doc pm an jC ct/\K.lookup f=some ⟨oc,od,.func fd,E5⟩/\PySem.W.codeIn K jC qual=true
 kp:PySem.W.keepIn K (.ref f)=true
section
variable{P:Program}{w:World}{K:PySem.W.Frag}{mg:Str->Option Value}{base:Heap}
def Fun.ok{x qual:Str}{st:Stmt}{f:Addr}{fd:FuncData}{N ps:List Str}{k:Nat}{sp:Sp}(F:Fun K x qual st f fd)(S:iG N ps (bu st))(len:∀vs H Q E,sp vs H Q E->vs.length=ps.length)
 (EV:∀(jC:Value) (A:Around) (outer:List Env) (s:Shared) (H:Hp) (vs:List V) (Q:VK) (E:XK),dR k (A.deeper (envOfC qual (bu st) s.heap.objs.size f jC))->sp vs H Q E->
   ∃t,PSs (mK CX0 P w K mg base N qual (bu st) f jC A outer s H E).nox (gO st) t/\t {nx:=fun _ H'=>Q .non H',rt:=Q} (start N vs) H):cj P w K mg base CX0 (k+1) f fd ps sp:=by
 obtain⟨oc,od,kV,doc,pm,an,jC,ct,E5,rfl,lk,BN⟩:=F.ex;refine Ie lk BN S len fun A outer s H vs Q E hr IM=>?_;obtain⟨t,h,q⟩:=EV jC A outer s H vs Q E hr IM;exact⟨t,h.nox,q⟩
def Fun.binds{x qual:Str}{st:Stmt}{f:Addr}{fd:FuncData}{ps:List Str}(F:Fun K x qual st f fd)
 (h:∀(kV doc pm:Value) (an:Option Addr) (jC ct:Value) (us:List Value),us.length=ps.length->bindArgs (PySem.W.fnOf x qual (oF st) (gO st) (bu st) .none kV doc pm an jC ct) ⟨us,[]⟩=pure (ps.zip us)):Binds K fd ps []:=by
 obtain⟨oc,od,kV,doc,pm,an,jC,ct,E5,rfl,lk,BN⟩:=F.ex;exact .all (h kV doc pm an jC ct)
def J5{x qual:Str}{st:Stmt}{f:Addr}{oc:Value}{od an:Option Addr}{E5:Array (Option Value)}{kV doc pm jC ct:Value}(l:K.lookup f=some ⟨oc,od,.func (PySem.W.fnOf x qual (oF st) (gO st) (bu st) .none kV doc pm an jC ct),E5⟩)
 (c:PySem.W.codeIn K jC qual=true) (k:PySem.W.keepIn K (.ref f)=true):Fun K x qual st f (PySem.W.fnOf x qual (oF st) (gO st) (bu st) .none kV doc pm an jC ct):=⟨⟨oc,od,kV,doc,pm,an,jC,ct,E5,rfl,l,c⟩,k⟩
end
section
variable{X:Cx}
def AQ:gF X (.builtin "len") (fun xs H Q=>∃a kvs,xs=[V.ref a]/\H a=some (.dK kvs)/\Q (.int kvs.length) H):=by
 intro pins s σ H xs us Q I r h;obtain⟨a,kvs,rfl,ha,q⟩:=h;obtain⟨u,rfl,ru⟩:=vals1 r;cases ru;exact Nx I (.inl ha) fun t s' I'=>⟨.int kvs.length,H,I',⟨t,rfl⟩,q⟩
end
def gH(H H':Hp):Prop:=∀b o,H b=some o->H' b=some o
end L2
namespace M3
open PySem
inductive D where
 |non |bl (b:Bool) |int (i:Int) |str (x:Str) |tup (xs:List D) |ref (n:Nat)
 deriving Inhabited
mutual
def D.beq:D->D->Bool
 | .non,.non=>true
 | .bl a,.bl b=>a==b
 | .int a,.int b=>a==b
 | .str a,.str b=>decide (a=b)
 | .tup a,.tup b=>D.Bn a b
 | .ref a,.ref b=>a==b
 |_,_=>false
def D.Bn:List D->List D->Bool
 | [],[]=>true
 |a :: r,b :: t=>D.beq a b&&D.Bn r t
 |_,_=>false
end
mutual
theorem D.beq_iff:∀(x y:D),D.beq x y=true↔x=y
 | .non,y=>by cases y <;> simp [D.beq]
 | .bl a,y=>by cases y <;> simp [D.beq]
 | .int a,y=>by cases y <;> simp [D.beq]
 | .str a,y=>by cases y <;> simp [D.beq]
 | .tup a,y=>by
   cases y with
   |tup b=>simp only[D.beq,D.tup.injEq];exact D.xX a b
   |_=>simp [D.beq]
 | .ref a,y=>by cases y <;> simp [D.beq]
theorem D.xX:∀(x y:List D),D.Bn x y=true↔x=y
 | [],y=>by cases y <;> simp [D.Bn]
 |a :: r,y=>by
  cases y with
  |nil=>simp [D.Bn]
  |cons b t=>simp only[D.Bn,Bool.and_eq_true,List.cons.injEq];rw[D.beq_iff a b,D.xX r t]
end
instance:DecidableEq D:=fun x y=>decidable_of_iff _ (D.beq_iff x y)
abbrev Key:=Sum Int Str
inductive O where
 |lst (xs:List D) |frz (xs:List D) |dK (kvs:List (Key×D)) |dF (kvs:List (Key×D)) |dT (kvs:List (List Int×D)) |ins (C:Nat) (fs:List (Nat×D))
 deriving Inhabited,DecidableEq
inductive Oc (α:Type) where
 |ok (a:α) |exc (c:Nat)
abbrev Hh:=List O
abbrev M(α:Type):=Hh->Option (Oc α×Hh)
def ret{α:Type}(a:α):M α:=fun G=>some (.ok a,G)
def fail{α:Type}:M α:=fun _=>none
def bnd{α β:Type}(m:M α)(k:α->M β):M β:=fun G=>match m G with
 |some (.ok a,G')=>k a G'
 |some (.exc c,G')=>some (.exc c,G')
 |none=>none
def run{α:Type}(m:M α)(G:Hh)(Q:α->Hh->Prop)(E:Nat->Hh->Prop):Prop:=match m G with
 |some (.ok a,G')=>Q a G'
 |some (.exc c,G')=>E c G'
 |none=>False
def aN{α β:Type}{m:M α}{k:α->M β}{G:Hh}{Q:β->Hh->Prop}{E:Nat->Hh->Prop}(h:run (bnd m k) G Q E):run m G (fun a G1=>run (k a) G1 Q E) E:=by
 unfold run bnd at*;cases e:m G with
 |none=>rw[e]at h;exact h
 |some p=>
  obtain⟨o,G1⟩:=p;rw[e]at h;cases o with
  |ok a=>exact h
  |exc c=>exact h
def ak{α:Type}{m:M α}{G:Hh}{Q Q':α->Hh->Prop}{E E':Nat->Hh->Prop}(h:run m G Q E)(hq:∀a G',Q a G'->Q' a G')(he:∀c G',E c G'->E' c G'):run m G Q' E':=by
 unfold run at*;cases e:m G with
 |none=>rw[e]at h;exact h
 |some p=>
  obtain⟨o,G1⟩:=p;rw[e]at h;cases o with
  |ok a=>exact hq _ _ h
  |exc c=>exact he _ _ h
@[simp] theorem bnd_ret {α β:Type} (a:α) (k:α->M β):bnd (ret a) k=k a:=rfl
def mx{α β γ:Type}(m:M α)(k:α->M β)(l:β->M γ):bnd (bnd m k) l=bnd m fun a=>bnd (k a) l:=by
 funext G;unfold bnd;cases m G with
 |none=>rfl
 |some p=>obtain⟨o,G1⟩:=p;cases o <;> rfl
abbrev St:=List (Option D)
abbrev E3:=St->M D
abbrev T3:=St->M Bool
abbrev A3:=St->M (List D)
inductive Fl where
 |next |brk |cont |ret (d:D)
abbrev S3:=St->M (Fl×St)
def ae(i:Nat):E3:=fun σ=>match σ[i]? with
 |some (some d)=>ret d
 |_=>fail
def eC(d:D):E3:=fun _=>ret d
def eOp(f:D->D->M D)(a b:E3):E3:=fun σ=>bnd (a σ) fun x=>bnd (b σ) fun y=>f x y
def eUn(f:D->M D)(a:E3):E3:=fun σ=>bnd (a σ) f
def ah:A3:=fun _=>ret []
def aa(e:E3)(r:A3):A3:=fun σ=>bnd (e σ) fun x=>bnd (r σ) fun xs=>ret (x :: xs)
def aw:Nat:=16777216
def new(o:O):M D:=fun G=>some (.ok (.ref G.length),G++[o])
def bE(a:A3):E3:=fun σ=>bnd (a σ) fun xs=>if xs.length<=aw then ret (.tup xs)else fail
def bW(a:A3):E3:=fun σ=>bnd (a σ) fun xs=>if xs.length<=aw then new (.lst xs)else fail
def aq(f:List D->M D)(a:A3):E3:=fun σ=>bnd (a σ) f
def eIf(t:T3)(a b:E3):E3:=fun σ=>bnd (t σ) fun c=>if c then a σ else b σ
def truth(d:D):M Bool:=fun G=>match d with
 | .non=>some (.ok false,G)
 | .bl b=>some (.ok b,G)
 | .int i=>some (.ok (i !=0),G)
 | .str x=>if x.length<=aw then some (.ok (x.length !=0),G)else none
 | .tup xs=>some (.ok (!xs.isEmpty),G)
 | .ref n=>match G[n]? with
   |some (.lst xs)=>some (.ok (!xs.isEmpty),G)
   |some (.frz xs)=>some (.ok (!xs.isEmpty),G)
   |some (.dK kvs)=>some (.ok (!kvs.isEmpty),G)
   |_=>none
def tOf(e:E3):T3:=fun σ=>bnd (e σ) truth
def asB(d:D):M Bool:=match d with
 | .bl b=>ret b
 |_=>fail
def tB(e:E3):T3:=fun σ=>bnd (e σ) asB
def sJ(t u:T3):T3:=fun σ=>bnd (t σ) fun c=>if c then u σ else ret false
def tOr(t u:T3):T3:=fun σ=>bnd (t σ) fun c=>if c then ret true else u σ
def eF(t:T3):T3:=fun σ=>bnd (t σ) fun c=>ret (!c)
def kF(a b:E3):E3:=fun σ=>bnd (a σ) fun x=>bnd (asB x) fun c=>if c then b σ else ret (.bl false)
def eOr(a b:E3):E3:=fun σ=>bnd (a σ) fun x=>bnd (asB x) fun c=>if c then ret (.bl true)else b σ
def DK(a:E3):E3:=fun σ=>bnd (a σ) fun x=>bnd (asB x) fun c=>ret (.bl (!c))
def small(i:Int):Bool:=decide (-(2 ^ 64) < i/\i < 2 ^ 64)
def eM(x y:D):M D:=match x,y with
 | .int i,.int j=>ret (.int (i+j))
 | .str a,.str b=>if a.length+b.length<=aw then ret (.str (a++b))else fail
 | .tup a,.tup b=>if a≠ []/\a.length+b.length<=aw then ret (.tup (a++b))else fail
 | .ref i,.ref j=>fun G=>match G[i]?,G[j]? with
   |some (.lst a),some (.lst b)=>if a.length+b.length<=aw then new (.lst (a++b)) G else none
   |_,_=>none
 |_,_=>fail
def yH(x y:D):M D:=match x,y with
 | .int i,.int j=>ret (.int (i - j))
 |_,_=>fail
def eN(x y:D):M D:=match x,y with
 | .int i,.int j=>if small i||small j then ret (.int (i*j))else fail
 | .str a,.int k=>if 0<=k/\k<=1000/\a.length<=1000 then ret (.str (Txt.mul a k))else fail
 | .ref n,.int k=>fun G=>match G[n]? with
   |some (.lst xs)=>if 0<=k/\k<=1000000/\xs.length*k.toNat<=aw then new (.lst (List.replicate k.toNat xs).flatten) G else none
   |_=>none
 |_,_=>fail
def oMod(x y:D):M D:=match x,y with
 | .int i,.int j=>if 0 < j then ret (.int (i % j))else fail
 |_,_=>fail
def sU:List Int->List Int->Bool
 | [],[]=>false
 | [],_ :: _=>true
 |_ :: _,[]=>false
 |a :: r,b :: t=>if a=b then sU r t else decide (a < b)
def intsOf:List D->Option (List Int)
 | []=>some []
 | .int i :: r=>(intsOf r).map (i :: ·)
 |_ :: _=>none
def oLt(x y:D):M D:=match x,y with
 | .int i,.int j=>ret (.bl (decide (i < j)))
 | .tup a,.tup b=>match intsOf a,intsOf b with
   |some m,some n=>ret (.bl (sU m n))
   |_,_=>fail
 |_,_=>fail
def oGt(x y:D):M D:=match x,y with
 | .int i,.int j=>ret (.bl (decide (j < i)))
 | .tup a,.tup b=>match intsOf a,intsOf b with
   |some m,some n=>ret (.bl (sU n m))
   |_,_=>fail
 |_,_=>fail
def oLe(x y:D):M D:=match x,y with
 | .int i,.int j=>ret (.bl (decide (i<=j)))
 |_,_=>fail
def oGe(x y:D):M D:=match x,y with
 | .int i,.int j=>ret (.bl (decide (j<=i)))
 |_,_=>fail
def eqZ(f:D->D->Option Bool):List D->List D->Option Bool
 |a :: r,b :: t=>match f a b,eqZ f r t with
  |some p,some q=>some (p&&q)
  |_,_=>none
 |_,_=>some true
def listOf(G:Hh)(n:Nat):Option (List D):=match G[n]? with
 |some (.lst xs)=>some xs
 |some (.frz xs)=>some xs
 |_=>none
def eqG(G:Hh):Nat->D->D->Option Bool
 |0,_,_=>none
 |k+1,x,y=>match x,y with
  | .non,.non=>some true
  | .bl a,.bl b=>some (a==b)
  | .int a,.int b=>some (decide (a=b))
  | .str a,.str b=>some (decide (a=b))
  | .tup a,.tup b=>(eqZ (eqG G k) a b).map (·&&decide (a.length=b.length))
  | .ref i,.ref j=>match listOf G i,listOf G j with
    |some a,some b=>if a.length=b.length then eqZ (eqG G k) a b else some false
    |_,_=>none
  | .non,.int _=>some false
  | .int _,.non=>some false
  | .non,.str _=>some false
  | .str _,.non=>some false
  | .non,.tup _=>some false
  | .tup _,.non=>some false
  | .int _,.str _=>some false
  | .str _,.int _=>some false
  | .int _,.tup _=>some false
  | .tup _,.int _=>some false
  |_,_=>none
def oEq(x y:D):M D:=fun G=>match eqG G 8 x y with
 |some b=>some (.ok (.bl b),G)
 |none=>none
def oNe(x y:D):M D:=fun G=>match eqG G 8 x y with
 |some b=>some (.ok (.bl (!b)),G)
 |none=>none
def kN(x:D):M D:=ret (.bl (decide (x= .non)))
def mV(x:D):M D:=ret (.bl (!decide (x= .non)))
def xr(G:Hh)(x:D):List D->Option Bool
 | []=>some false
 |y :: r=>match eqG G 8 y x,xr G x r with
  |some p,some q=>some (p||q)
  |_,_=>none
def qW(d:D):Option Key:=match d with
 | .int i=>some (.inl i)
 | .str x=>some (.inr x)
 |_=>none
def look{κ:Type} [DecidableEq κ](kvs:List (κ×D))(k:κ):Option D:=(kvs.find? fun kv=>decide (kv.1=k)).map (·.2)
def put{κ:Type} [DecidableEq κ](kvs:List (κ×D))(k:κ)(v:D):List (κ×D):=
 if (kvs.any fun kv=>decide (kv.1=k))then kvs.map fun kv=>if kv.1=k then (kv.1,v)else kv else kvs++[(k,v)]
def inG(G:Hh)(x y:D):Option Bool:=match y with
 | .tup ys=>xr G x ys
 | .ref n=>match G[n]? with
   |some (.lst ys)=>xr G x ys
   |some (.frz ys)=>xr G x ys
   |some (.dK kvs)=>match qW x with
    |some k=>some (look kvs k).isSome
    |none=>none
   |_=>none
 |_=>none
def lT(x y:D):M D:=fun G=>match inG G x y with
 |some b=>some (.ok (.bl (!b)),G)
 |none=>none
def ixN(n:Nat)(i:Int):Option Nat:=if 0<=i then (if i < n then some i.toNat else none)else if -(n:Int)<=i then some (i+n).toNat else none
def atI(xs:List D)(i:Int):Option D:=(ixN xs.length i).bind fun j=>xs[j]?
def oi(o:Option D):M D:=match o with
 |some d=>ret d
 |none=>fail
def oIx(x y:D):M D:=match x,y with
 | .tup xs,.int i=>oi (atI xs i)
 | .ref n,y=>fun G=>match G[n]?,y with
   |some (.lst xs),.int i=>oi (atI xs i) G
   |some (.frz xs),.int i=>oi (atI xs i) G
   |some (.dK kvs),y=>match qW y with
    |some k=>oi (look kvs k) G
    |none=>none
   |_,_=>none
 |_,_=>fail
inductive Kd where
 |non |bl |int |str |tup |lst |dic
def kdOf(G:Hh)(d:D):Option Kd:=match d with
 | .non=>some .non
 | .bl _=>some .bl
 | .int _=>some .int
 | .str _=>some .str
 | .tup _=>some .tup
 | .ref n=>match G[n]? with
   |some (.lst _)=>some .lst
   |some (.frz _)=>some .lst
   |some (.dK _)=>some .dic
   |_=>none
def iV:Kd->Kd->Bool
 | .non,.non=>true | .bl,.bl=>true | .bl,.int=>true | .int,.int=>true | .str,.str=>true | .tup,.tup=>true | .lst,.lst=>true | .dic,.dic=>true
 |_,_=>false
def bIs(c:Kd)(ds:List D):M D:=fun G=>match ds with
 | [d]=>match kdOf G d with
   |some k=>some (.ok (.bl (iV k c)),G)
   |none=>none
 |_=>none
def A8(cs:List Kd)(ds:List D):M D:=fun G=>match ds with
 | [d]=>match kdOf G d with
   |some k=>some (.ok (.bl (cs.any (iV k ·))),G)
   |none=>none
 |_=>none
def dh(ds:List D):M D:=fun G=>match ds with
 | [.tup xs]=>if xs.length<=aw then some (.ok (.int xs.length),G)else none
 | [.str x]=>if x.length<=aw then some (.ok (.int x.length),G)else none
 | [.ref n]=>match G[n]? with
   |some (.lst xs)=>some (.ok (.int xs.length),G)
   |some (.frz xs)=>some (.ok (.int xs.length),G)
   |some (.dK kvs)=>some (.ok (.int kvs.length),G)
   |_=>none
 |_=>none
def iB:Int->List Int->Int
 |m,[]=>m
 |m,x :: r=>iB (if x > m then x else m) r
def wQ(ds:List D):M D:=fun G=>match ds with
 | [.int i,.int j]=>some (.ok (.int (if j > i then j else i)),G)
 | [.ref n]=>match G[n]? with
   |some (.lst xs)=>match intsOf xs with
    |some (m :: r)=>some (.ok (.int (iB m r)),G)
    |_=>none
   |_=>none
 |_=>none
def nV(ds:List D):M D:=fun G=>match ds with
 | [.ref n]=>match G[n]? with
   |some (.lst xs)=>new (.lst xs) G
   |some (.frz xs)=>new (.lst xs) G
   |_=>none
 | [.tup xs]=>if xs.length<=aw then new (.lst xs) G else none
 |_=>none
def yW(ds:List D):M D:=fun G=>match ds with
 | [.int i]=>some (.ok (.int i),G)
 | [.bl b]=>some (.ok (.int (if b then 1 else 0)),G)
 | [.str x]=>match PySem.intText? x with
   |some n=>if x.length<=640 then some (.ok (.int n),G)else none
   |none=>none
 |_=>none
def kb(x y:D):M D:=fun G=>match x with
 | .ref n=>match G[n]? with
   |some (.lst xs)=>if xs.length < aw then some (.ok .non,G.set n (.lst (xs++[y])))else none
   |_=>none
 |_=>none
def isL(x:D):M Unit:=fun G=>match x with
 | .ref n=>match G[n]? with
   |some (.lst _)=>some (.ok (),G)
   |_=>none
 |_=>none
def rh(o a:E3):E3:=fun σ=>bnd (o σ) fun x=>bnd (isL x) fun _=>bnd (a σ) fun y=>kb x y
def putN(f:Nat)(v:D):List (Nat×D)->List (Nat×D)
 | []=>[(f,v)]
 |(g,x) :: r=>if g=f then (g,v) :: r else (g,x) :: putN f v r
def BX(x:D)(f:Nat):M D:=fun G=>match x with
 | .ref n=>match G[n]? with
   |some (.ins C fs)=>if C < 1000 then (match fs.lookup f with
    |some d=>some (.ok d,G)
    |none=>none)else none
   |_=>none
 |_=>none
def Bm(x:D)(f:Nat)(y:D):M Unit:=fun G=>match x with
 | .ref n=>match G[n]? with
   |some (.ins C fs)=>if C < 1000/\fs.length < 1000 then some (.ok (),G.set n (.ins C (putN f y fs)))else none
   |_=>none
 |_=>none
def isC(C:Nat)(x:D):M Unit:=fun G=>match x with
 | .ref n=>match G[n]? with
   |some (.ins C' _)=>if C'=C then some (.ok (),G)else none
   |_=>none
 |_=>none
def aT(o:E3)(f:Nat):E3:=fun σ=>bnd (o σ) fun x=>BX x f
def bt(o:E3)(f:Nat)(e:E3):S3:=fun σ=>bnd (e σ) fun y=>bnd (o σ) fun x=>bnd (Bm x f y) fun _=>ret (.next,σ)
def aK(C:Nat)(g:List D->M D)(o:E3)(a:A3):E3:=fun σ=>bnd (o σ) fun x=>bnd (isC C x) fun _=>bnd (a σ) fun ds=>g (x :: ds)
def Au(d:D):M Unit:=match d with
 | .non=>ret ()
 |_=>fail
def kC(C:Nat)(g:List D->M D)(a:A3):E3:=fun σ=>bnd (a σ) fun ds=>bnd (new (.ins C [])) fun x=>bnd (g (x :: ds)) fun r=>bnd (Au r) fun _=>ret x
def vE(x i v:D):M Unit:=fun G=>match x with
 | .ref n=>match G[n]? with
   |some (.lst xs)=>match i with
    | .int k=>match ixN xs.length k with
      |some j=>some (.ok (),G.set n (.lst (xs.set j v)))
      |none=>none
    |_=>none
   |some (.dK kvs)=>match qW i with
    |some k=>if kvs.length < aw then some (.ok (),G.set n (.dK (put kvs k v)))else none
    |none=>none
   |_=>none
 |_=>none
def dS(o i e:E3):S3:=fun σ=>bnd (e σ) fun v=>bnd (o σ) fun x=>bnd (i σ) fun y=>bnd (vE x y v) fun _=>ret (.next,σ)
def lR:E3:=fun _=>new (.dK [])
def sIx(n d:Nat):Option Int->Nat
 |none=>d
 |some v=>if v < 0 then (v+(n:Int)).toNat else min v.toNat n
def cutD(xs:List D)(lo hi:Option Int):List D:=(xs.drop (sIx xs.length 0 lo)).take (sIx xs.length xs.length hi - sIx xs.length 0 lo)
abbrev P3:=St->M (Option Int)
def wF:P3:=fun _=>ret none
def asI(d:D):M (Option Int):=match d with
 | .int i=>ret (some i)
 |_=>fail
def nP(e:E3):P3:=fun σ=>bnd (e σ) asI
def oSl(x:D)(lo hi:Option Int):M D:=fun G=>match x with
 | .tup xs=>if sIx xs.length 0 lo=0/\sIx xs.length xs.length hi=xs.length then none else some (.ok (.tup (cutD xs lo hi)),G)
 | .ref n=>match G[n]? with
   |some (.lst xs)=>new (.lst (cutD xs lo hi)) G
   |some (.frz xs)=>new (.lst (cutD xs lo hi)) G
   |_=>none
 |_=>none
def eSl(e:E3)(lo hi:P3):E3:=fun σ=>bnd (e σ) fun x=>bnd (lo σ) fun l=>bnd (hi σ) fun h=>oSl x l h
def jS(x y:D):M D:=fun G=>match x,y with
 | .ref n,.ref m=>match G[n]?,G[m]? with
   |some (.lst xs),some (.lst ys)=>if xs.length+ys.length<=aw then some (.ok .non,G.set n (.lst (xs++ys)))else none
   |_,_=>none
 |_,_=>none
def m6(x i:D):M D:=fun G=>match x,i with
 | .ref n,.int i=>match G[n]? with
   |some (.lst xs)=>match ixN xs.length i with
    |some k=>match xs[k]? with
     |some y=>if -(2 ^ 62)<=i/\i < 2 ^ 62 then some (.ok y,G.set n (.lst (xs.eraseIdx k)))else none
     |none=>none
    |none=>none
   |_=>none
 |_,_=>none
def vc(o a:E3):E3:=fun σ=>bnd (o σ) fun x=>bnd (isL x) fun _=>bnd (a σ) fun y=>jS x y
def rK(o a:E3):E3:=fun σ=>bnd (o σ) fun x=>bnd (isL x) fun _=>bnd (a σ) fun y=>m6 x y
def xT(x:D):M D:=fun G=>match x with
 | .ref n=>match G[n]? with
   |some (.dK kvs)=>new (.lst (kvs.map (·.2))) G
   |_=>none
 |_=>none
def Dx(o:E3):E3:=fun σ=>bnd (o σ) xT
structure Src where
 xs:List D
 ck:Hh->Bool
abbrev I3:=St->M Src
def srcOf(d:D):M Src:=match d with
 | .tup xs=>ret ⟨xs,fun _=>true⟩
 | .ref n=>fun G=>match G[n]? with
   |some (.lst xs)=>some (.ok ⟨xs,fun G'=>decide (G'[n]? =some (.lst xs))⟩,G)
   |some (.frz xs)=>some (.ok ⟨xs,fun G'=>decide (G'[n]? =some (.frz xs))⟩,G)
   |_=>none
 |_=>fail
def iOf(e:E3):I3:=fun σ=>bnd (e σ) srcOf
def ur(i:Int):Bool:=decide (-(2 ^ 62)<=i/\i < 2 ^ 62)
def rng(i:Int)(n:Nat):List D:=(List.range n).map fun(k:Nat)=>.int (i+(k:Int))
def Hj(x:D):M Src:=match x with
 | .int j=>if ur j then ret ⟨rng 0 j.toNat,fun _=>true⟩else fail
 |_=>fail
def jw(a:E3):I3:=fun σ=>bnd (a σ) Hj
def eZ(σ:St)(cap:List Nat):St:=cap.map fun i=>(σ[i]?).join
def cg(ck:Hh->Bool)(cond:D->M Bool)(elt:D->M D):List D->List D->M (List D)
 | [],acc=>fun G=>if ck G then some (.ok acc,G)else none
 |x :: r,acc=>fun G=>if ck G then bnd (cond x) (fun c=>if c then bnd (elt x) (fun y=>if acc.length < aw then cg ck cond elt r (acc++[y])else fail)else cg ck cond elt r acc) G else none
def ij(it:I3)(cap:List Nat)(cond:T3)(elt:E3):E3:=fun σ=>bnd (it σ) fun s=>
 bnd (cg s.ck (fun x=>cond (some x :: eZ σ cap)) (fun x=>elt (some x :: eZ σ cap)) s.xs []) fun ys=>new (.lst ys)
def k9:T3:=fun _=>ret true
def aO:S3:=fun σ=>ret (.next,σ)
def aj(a b:S3):S3:=fun σ=>bnd (a σ) fun r=>match r.1 with
 | .next=>b r.2
 |f=>ret (f,r.2)
def aV(i:Nat)(e:E3):S3:=fun σ=>bnd (e σ) fun d=>ret (.next,σ.set i (some d))
def nM:List Nat->List D->St->Option St
 | [],[],σ=>some σ
 |i :: r,d :: t,σ=>nM r t (σ.set i (some d))
 |_,_,_=>none
def gUn(is:List Nat)(d:D)(σ:St):M St:=match d with
 | .tup ds=>match nM is ds σ with
   |some σ'=>ret σ'
   |none=>fail
 |_=>fail
def gNm(i:Nat)(d:D)(σ:St):M St:=ret (σ.set i (some d))
def sUn(is:List Nat)(e:E3):S3:=fun σ=>bnd (e σ) fun d=>bnd (gUn is d σ) fun σ'=>ret (.next,σ')
def bq(e:E3):S3:=fun σ=>bnd (e σ) fun _=>ret (.next,σ)
def aA(e:E3):S3:=fun σ=>bnd (e σ) fun d=>ret (.ret d,σ)
def sIf(t:T3)(a b:S3):S3:=fun σ=>bnd (t σ) fun c=>if c then a σ else b σ
def forL(ck:Hh->Bool)(body:D->St->M (Fl×St)):List D->St->M (Fl×St)
 | [],σ=>fun G=>if ck G then some (.ok (.next,σ),G)else none
 |x :: r,σ=>fun G=>if ck G then bnd (body x σ) (fun p=>match p.1 with
    | .next=>forL ck body r p.2
    | .cont=>forL ck body r p.2
    | .brk=>ret (.next,p.2)
    | .ret d=>ret (.ret d,p.2)) G else none
def kc(t:T3)(body:S3):Nat->St->M (Fl×St)
 |0,_=>fail
 |k+1,σ=>bnd (t σ) fun c=>if c then bnd (body σ) (fun p=>match p.1 with
   | .next=>kc t body k p.2
   | .cont=>kc t body k p.2
   | .brk=>ret (.next,p.2)
   | .ret d=>ret (.ret d,p.2))else ret (.next,σ)
def vf:Nat:=1000000000
def rU(t:T3)(body:S3):S3:=fun σ=>kc t body vf σ
def li(it:I3)(g:D->St->M St)(body:S3):S3:=fun σ=>bnd (it σ) fun s=>forL s.ck (fun x σ=>bnd (g x σ) body) s.xs σ
def jv(xs:List D):List D:=xs.mapIdx fun i x=>.tup [.int (i:Int),x]
def sC(d:D):M Src:=fun G=>match d with
 | .ref n=>match G[n]? with
   |some (.lst xs)=>some (.ok ⟨jv xs,fun G'=>decide (G'[n]? =some (.lst xs))⟩,G)
   |some (.frz xs)=>some (.ok ⟨jv xs,fun G'=>decide (G'[n]? =some (.frz xs))⟩,G)
   |_=>none
 |_=>none
def D7(e:E3):I3:=fun σ=>bnd (e σ) sC
def vU:Key->D
 | .inl i=>.int i
 | .inr x=>.str x
def fF(kvs:List (Key×D)):List D:=kvs.map fun kv=>.tup [vU kv.1,kv.2]
def x3(n:Nat)(kvs:List (Key×D))(m:M (Fl×St)):M (Fl×St):=fun G=>match m (G.set n (.dF kvs))with
 |some (.ok p,G')=>if G'[n]? =some (.dF kvs)then some (.ok p,G'.set n (.dK kvs))else none
 |_=>none
def yD(body:D->St->M (Fl×St))(σ:St)(d:D):M (Fl×St):=fun G=>match d with
 | .ref n=>match G[n]? with
   |some (.dK kvs)=>x3 n kvs (forL (fun _=>true) body (fF kvs) σ) G
   |_=>none
 |_=>none
def yS(e:E3)(g:D->St->M St)(body:S3):S3:=fun σ=>bnd (e σ) (yD (fun x σ=>bnd (g x σ) body) σ)
def Df:E3:=fun _=>fail
def Im:S3:=fun _=>fail
def throw{α:Type}(c:Nat):M α:=fun G=>some (.exc c,G)
def nL(c:Nat)(a:A3):S3:=fun σ=>bnd (a σ) fun xs=>if xs.length<=aw then throw c else fail
def pick(c:Nat):List ((Nat->Bool)×S3)->Option S3
 | []=>none
 |(m,f) :: r=>if m c then some f else pick c r
def zh(e:E3)(k:D->St->Fl×St)(ms:List ((Nat->Bool)×S3)):S3:=fun σ G=>match e σ G with
 |some (.ok d,G')=>some (.ok (k d σ),G')
 |some (.exc c,G')=>match pick c ms with
  |some f=>f σ G'
  |none=>none
 |none=>none
def Gp{e:E3}{k:D->St->Fl×St}{ms:List ((Nat->Bool)×S3)}{Q:Fl×St->Hh->Prop}{Z:Nat->Hh->Prop}(h:run (zh e k ms σ) G Q Z):
 run (e σ) G (fun d G'=>Q (k d σ) G') fun c G'=>∃f,pick c ms=some f/\run (f σ) G' Q Z:=by
 unfold run zh at*;cases q:e σ G with
 |none=>rw[q]at h;exact h
 |some p=>
  obtain⟨o,G1⟩:=p;rw[q]at h;cases o with
  |ok d=>exact h
  |exc c=>
   dsimp only at h ⊢;cases z:pick c ms with
   |none=>rw[z]at h;cases h
   |some f=>rw[z]at h;exact⟨f,rfl,h⟩
def fnM(n:Nat)(pad:St)(body:S3):List D->M D:=fun ds=>if ds.length=n then bnd (body (ds.map some++pad)) (fun p=>match p.1 with
 | .ret d=>ret d
 | .next=>ret .non
 |_=>fail)else fail
def t9(ks:List Str)(x:D)(ds:List D):M D:=fun G=>match x with
 | .ref n=>match G[n]? with
   |some (.dK kvs)=>if kvs=[]/\ks.Nodup/\ks.length=ds.length/\ks.length<=15 then some (.ok x,G.set n (.dK ((ks.zip ds).map fun p=>(.inr p.1,p.2))))else none
   |_=>none
 |_=>none
def Ac(ks:List Str)(a:A3):E3:=fun σ=>bnd (new (.dK [])) fun x=>bnd (a σ) fun ds=>t9 ks x ds
def xc(x:D):M D:=fun G=>match x with
 | .ref n=>match G[n]? with
   |some (.dK kvs)=>new (.lst (kvs.map fun kv=>vU kv.1)) G
   |_=>none
 |_=>none
def Cu(o:E3):E3:=fun σ=>bnd (o σ) xc
def s9(G:Hh)(y:D):List D->Option Nat
 | []=>none
 |d :: r=>match eqG G 8 d y with
  |some true=>some 0
  |some false=>(s9 G y r).map (·+1)
  |none=>none
def oy(x y:D):M D:=fun G=>match x with
 | .ref n=>match G[n]? with
   |some (.lst xs)=>match s9 G y xs with
    |some j=>some (.ok .non,G.set n (.lst (xs.eraseIdx j)))
    |none=>none
   |_=>none
 |_=>none
def IS(o a:E3):E3:=fun σ=>bnd (o σ) fun x=>bnd (isL x) fun _=>bnd (a σ) fun y=>oy x y
section
variable{α β:Type}{G G':Hh}{E:Nat->Hh->Prop}{σ:St}
def aB{m:M α}{k:α->M β}{Q:β->Hh->Prop}(h:run m G (fun a G1=>run (k a) G1 Q E) E):run (bnd m k) G Q E:=by
 unfold run bnd at*;cases e:m G with
 |none=>rw[e]at h;exact h
 |some p=>
  obtain⟨o,G1⟩:=p;rw[e]at h;cases o with
  |ok a=>exact h
  |exc c=>exact h
def jA{Q:α->Hh->Prop}(h:Q a G):run (ret a) G Q E:=h
def w_ite{Q:α->Hh->Prop}(h1:c=true->run m G Q E)(h2:c=false->run m' G Q E):run (if c=true then m else m') G Q E:=by
 cases c with
 |true=>exact h1 rfl
 |false=>exact h2 rfl
def df{Q:α->Hh->Prop}(h1:run m G Q E):run (if true=true then m else m') G Q E:=h1
def dC{Q:α->Hh->Prop}(h1:run m' G Q E):run (if false=true then m else m') G Q E:=h1
def iD{Q:α->Hh->Prop}(h1:run m' G Q E):run (if (!true)=true then m else m') G Q E:=h1
def oz{Q:α->Hh->Prop}(h1:run m G Q E):run (if (!false)=true then m else m') G Q E:=h1
def aC{m:M α}{Q:α->Hh->Prop}{a:α}(h:m G=some (.ok a,G'))(q:Q a G'):run m G Q E:=by
 unfold run;rw[h];exact q
variable{Q:D->Hh->Prop}{QB:Bool->Hh->Prop}{QA:List D->Hh->Prop}{QS:Fl×St->Hh->Prop}
def w_var{i:Nat}{d:D}(e:σ[i]? =some (some d))(h:Q d G):run (ae i σ) G Q E:=by
 unfold ae;rw[e];exact h
def w_c{d:D}(h:Q d G):run (eC d σ) G Q E:=h
def aQ{f:D->D->M D}{a b:E3}(h:run (a σ) G (fun x G1=>run (b σ) G1 (fun y G2=>run (f x y) G2 Q E) E) E):run (eOp f a b σ) G Q E:=
 aB (ak h (fun _ _ q=>aB q) fun _ _ q=>q)
def yq{f:D->M D}{a:E3}(h:run (a σ) G (fun x G1=>run (f x) G1 Q E) E):run (eUn f a σ) G Q E:=aB h
def ax(h:QA [] G):run (ah σ) G QA E:=h
def ai{e:E3}{r:A3}(h:run (e σ) G (fun x G1=>run (r σ) G1 (fun xs G2=>QA (x :: xs) G2) E) E):run (aa e r σ) G QA E:=
 aB (ak h (fun _ _ q=>aB q) fun _ _ q=>q)
def As{a:A3}(h:run (a σ) G (fun xs G1=>xs.length<=aw/\Q (.tup xs) G1) E):run (bE a σ) G Q E:=
 aB (ak h (fun _ _ q=>by rw[if_pos q.1];exact q.2) fun _ _ q=>q)
def DV{a:A3}(h:run (a σ) G (fun xs G1=>xs.length<=aw/\Q (.ref G1.length) (G1++[.lst xs])) E):run (bW a σ) G Q E:=
 aB (ak h (fun _ _ q=>by rw[if_pos q.1];exact q.2) fun _ _ q=>q)
def bh{f:List D->M D}{a:A3}(h:run (a σ) G (fun ds G1=>run (f ds) G1 Q E) E):run (aq f a σ) G Q E:=aB h
def fD{e:E3}(h:run (e σ) G (fun x G1=>run (truth x) G1 QB E) E):run (tOf e σ) G QB E:=aB h
def mP{e:E3}(h:run (e σ) G (fun x G1=>run (asB x) G1 QB E) E):run (tB e σ) G QB E:=aB h
def gK{b:Bool}(h:QB b G):run (asB (.bl b)) G QB E:=h
def dP(h:QB b G):run (truth (.bl b)) G QB E:=h
def gj{t:T3}(h:run (t σ) G (fun c G1=>QB (!c) G1) E):run (eF t σ) G QB E:=aB h
def rz{t u:T3}(h:run (t σ) G (fun c G1=>run (if c=true then u σ else ret false) G1 QB E) E):run (sJ t u σ) G QB E:=aB h
def uq{t u:T3}(h:run (t σ) G (fun c G1=>run (if c=true then ret true else u σ) G1 QB E) E):run (tOr t u σ) G QB E:=aB h
def zf{a b:E3}(h:run (a σ) G (fun x G1=>run (asB x) G1 (fun c G2=>run (if c=true then b σ else ret (.bl false)) G2 Q E) E) E):run (kF a b σ) G Q E:=
 aB (ak h (fun _ _ q=>aB q) fun _ _ q=>q)
def D1{a b:E3}(h:run (a σ) G (fun x G1=>run (asB x) G1 (fun c G2=>run (if c=true then ret (.bl true)else b σ) G2 Q E) E) E):run (eOr a b σ) G Q E:=
 aB (ak h (fun _ _ q=>aB q) fun _ _ q=>q)
def K4{a:E3}(h:run (a σ) G (fun x G1=>run (asB x) G1 (fun c G2=>Q (.bl (!c)) G2) E) E):run (DK a σ) G Q E:=
 aB (ak h (fun _ _ q=>aB q) fun _ _ q=>q)
def NB{t:T3}{a b:E3}(h:run (t σ) G (fun c G1=>run (if c=true then a σ else b σ) G1 Q E) E):run (eIf t a b σ) G Q E:=aB h
def zq(h:Q (.int (i+j)) G):run (eM (.int i) (.int j)) G Q E:=h
def EG{a b:Str}(hl:a.length+b.length<=aw)(h:Q (.str (a++b)) G):run (eM (.str a) (.str b)) G Q E:=by
 show run (if a.length+b.length<=aw then ret (D.str (a++b))else fail) G Q E;rw[if_pos hl];exact h
def Ds{a b:List D}(h1:G[i]? =some (.lst a))(h2:G[j]? =some (.lst b))(hl:a.length+b.length<=aw)(h:Q (.ref G.length) (G++[.lst (a++b)])):run (eM (.ref i) (.ref j)) G Q E:=by
 refine aC (G':=G++[.lst (a++b)]) (a:= .ref G.length) ?_ h;show (match G[i]?,G[j]? with
  |some (.lst a),some (.lst b)=>if a.length+b.length<=aw then new (.lst (a++b)) G else none
  |_,_=>none)=_
 rw[h1,h2];show (if a.length+b.length<=aw then new (.lst (a++b)) G else none)=_;rw[if_pos hl];rfl
def Jf(h:Q (.int (i - j)) G):run (yH (.int i) (.int j)) G Q E:=h
def CU(c:(small i||small j)=true)(h:Q (.int (i*j)) G):run (eN (.int i) (.int j)) G Q E:=by
 show run (if (small i||small j)=true then ret (D.int (i*j))else fail) G Q E;rw[if_pos c];exact h
def JT(c:small i=true)(h:Q (.int (i*j)) G):run (eN (.int i) (.int j)) G Q E:=CU (by rw[c];rfl) h
def K6(c:small j=true)(h:Q (.int (i*j)) G):run (eN (.int i) (.int j)) G Q E:=CU (by rw[c];exact Bool.or_true _) h
def nE(c:0 < j)(h:Q (.int (i % j)) G):run (oMod (.int i) (.int j)) G Q E:=by
 show run (if 0 < j then ret (D.int (i % j))else fail) G Q E;rw[if_pos c];exact h
def Nk(h:Q (.bl (decide (i < j))) G):run (oLt (.int i) (.int j)) G Q E:=h
def HX(h:Q (.bl (decide (j < i))) G):run (oGt (.int i) (.int j)) G Q E:=h
def NE(h:Q (.bl (decide (i<=j))) G):run (oLe (.int i) (.int j)) G Q E:=h
def Ny(h:Q (.bl (decide (j<=i))) G):run (oGe (.int i) (.int j)) G Q E:=h
def NT(e1:intsOf a=some m)(e2:intsOf b=some n)(h:Q (.bl (sU n m)) G):run (oGt (.tup a) (.tup b)) G Q E:=by
 show run (match intsOf a,intsOf b with
  |some m,some n=>ret (.bl (sU n m))
  |_,_=>fail) G Q E
 rw[e1,e2];exact h
def w_eq(e:eqG G 8 x y=some b)(h:Q (.bl b) G):run (oEq x y) G Q E:=by
 refine aC (a:= .bl b) (G':=G) ?_ h;unfold oEq;rw[e]
def kE{x y:D}{b:Bool}(e:eqG G 8 x y=some b)(h:Q (.bl (!b)) G):run (oNe x y) G Q E:=by
 refine aC (a:= .bl (!b)) (G':=G) ?_ h;unfold oNe;rw[e]
def AA(e:inG G x y=some b)(h:Q (.bl (!b)) G):run (lT x y) G Q E:=by
 refine aC (a:= .bl (!b)) (G':=G) ?_ h;unfold lT;rw[e]
def aS(e:atI xs i=some d)(h:Q d G):run (oIx (.tup xs) (.int i)) G Q E:=by
 refine aC (a:=d) (G':=G) ?_ h;show oi (atI xs i) G=_;rw[e];rfl
def bL(hl:G[n]? =some (.lst xs))(e:atI xs i=some d)(h:Q d G):run (oIx (.ref n) (.int i)) G Q E:=by
 refine aC (a:=d) (G':=G) ?_ h;unfold oIx;dsimp only;rw[hl];show oi (atI xs i) G=_;rw[e];rfl
def NM(hl:G[n]? =some (.frz xs))(e:atI xs i=some d)(h:Q d G):run (oIx (.ref n) (.int i)) G Q E:=by
 refine aC (a:=d) (G':=G) ?_ h;unfold oIx;dsimp only;rw[hl];show oi (atI xs i) G=_;rw[e];rfl
def HN(h:Q (.bl (decide (x= .non))) G):run (kN x) G Q E:=h
def vH{x:D}(h:Q (.bl (!decide (x= .non))) G):run (mV x) G Q E:=h
def uB(h:Q (.bl true) G):run (bIs .int [(.int z)]) G Q E:=h
def vq(h:Q (.bl false) G):run (bIs .int [(.str z)]) G Q E:=h
def u5(h:Q (.bl false) G):run (bIs .int [(.tup z)]) G Q E:=h
def vk(hl:G[n]? =some (.lst xs))(h:Q (.bl false) G):run (bIs .int [.ref n]) G Q E:=by
 refine aC (a:= .bl false) (G':=G) ?_ h;unfold bIs kdOf;dsimp only;rw[hl];rfl
def zF(h:Q (.bl true) G):run (bIs .bl [(.bl z)]) G Q E:=h
def wZ(h:Q (.bl false) G):run (bIs .bl [(.int z)]) G Q E:=h
def xC(h:Q (.bl false) G):run (bIs .bl [(.str z)]) G Q E:=h
def xK(h:Q (.bl false) G):run (bIs .bl [(.tup z)]) G Q E:=h
def xW(hl:G[n]? =some (.lst xs))(h:Q (.bl false) G):run (bIs .bl [.ref n]) G Q E:=by
 refine aC (a:= .bl false) (G':=G) ?_ h;unfold bIs kdOf;dsimp only;rw[hl];rfl
def xJ(h:Q (.bl false) G):run (bIs .str [(.bl z)]) G Q E:=h
def uZ(h:Q (.bl false) G):run (bIs .str [(.int z)]) G Q E:=h
def vL(h:Q (.bl true) G):run (bIs .str [(.str z)]) G Q E:=h
def uJ(h:Q (.bl false) G):run (bIs .str [(.tup z)]) G Q E:=h
def ve(hl:G[n]? =some (.lst xs))(h:Q (.bl false) G):run (bIs .str [.ref n]) G Q E:=by
 refine aC (a:= .bl false) (G':=G) ?_ h;unfold bIs kdOf;dsimp only;rw[hl];rfl
def uN(h:Q (.bl false) G):run (bIs .tup [(.int z)]) G Q E:=h
def vK(h:Q (.bl true) G):run (bIs .tup [(.tup z)]) G Q E:=h
def oH(hl:G[n]? =some (.lst xs))(h:Q (.bl false) G):run (bIs .tup [.ref n]) G Q E:=by
 refine aC (a:= .bl false) (G':=G) ?_ h;unfold bIs kdOf;dsimp only;rw[hl];rfl
def vy(h:Q (.bl false) G):run (bIs .lst [(.int z)]) G Q E:=h
def vW(h:Q (.bl false) G):run (bIs .lst [(.tup z)]) G Q E:=h
def fE(hl:G[n]? =some (.lst xs))(h:Q (.bl true) G):run (bIs .lst [.ref n]) G Q E:=by
 refine aC (a:= .bl true) (G':=G) ?_ h;unfold bIs kdOf;dsimp only;rw[hl];rfl
def vJ(h:Q (.bl false) G):run (bIs .dic [(.tup z)]) G Q E:=h
def vP(hl:G[n]? =some (.lst xs))(h:Q (.bl false) G):run (bIs .dic [.ref n]) G Q E:=by
 refine aC (a:= .bl false) (G':=G) ?_ h;unfold bIs kdOf;dsimp only;rw[hl];rfl
def uM{xs:List D}(hl:xs.length<=aw)(h:Q (.int xs.length) G):run (dh [.tup xs]) G Q E:=by
 refine aC (a:= .int xs.length) (G':=G) ?_ h;show (if xs.length<=aw then some (Oc.ok (D.int xs.length),G)else none)=_;rw[if_pos hl]
def cX{xs:List D}(hl:G[n]? =some (.lst xs))(h:Q (.int xs.length) G):run (dh [.ref n]) G Q E:=by
 refine aC (a:= .int xs.length) (G':=G) ?_ h;unfold dh;dsimp only;rw[hl]
def Em{xs:List D}(hl:G[n]? =some (.frz xs))(h:Q (.int xs.length) G):run (dh [.ref n]) G Q E:=by
 refine aC (a:= .int xs.length) (G':=G) ?_ h;unfold dh;dsimp only;rw[hl]
def DT{o a:E3}(h:run (o σ) G (fun x G1=>run (isL x) G1 (fun _ G2=>run (a σ) G2 (fun y G3=>run (kb x y) G3 Q E) E) E) E):run (rh o a σ) G Q E:=
 aB (ak h (fun _ _ q=>aB (ak q (fun _ _ q=>aB q) fun _ _ q=>q)) fun _ _ q=>q)
def fM{n:Nat}{xs:List D}{QU:Unit->Hh->Prop}(hl:G[n]? =some (.lst xs))(h:QU () G):run (isL (.ref n)) G QU E:=by
 refine aC (a:=()) (G':=G) ?_ h;unfold isL;dsimp only;rw[hl]
def MQ(h:Q (.int (if j > i then j else i)) G):run (wQ [.int i,.int j]) G Q E:=h
def JY(hl:G[n]? =some (.lst xs))(e:intsOf xs=some (m :: r))(h:Q (.int (iB m r)) G):run (wQ [.ref n]) G Q E:=by
 refine aC (a:= .int (iB m r)) (G':=G) ?_ h;unfold wQ;dsimp only;rw[hl];dsimp only;rw[e]
def zX{n:Nat}{xs:List D}(hl:G[n]? =some (.lst xs))(h:Q (.ref G.length) (G++[.lst xs])):run (nV [.ref n]) G Q E:=by
 refine aC (a:= .ref G.length) (G':=G++[.lst xs]) ?_ h;unfold nV;dsimp only;rw[hl];rfl
def Ew{xs:List D}(hl:G[n]? =some (.lst xs))(hz:xs.length < aw)(h:Q .non (G.set n (.lst (xs++[y])))):run (kb (.ref n) y) G Q E:=by
 refine aC (a:= .non) (G':=G.set n (.lst (xs++[y]))) ?_ h;unfold kb;dsimp only;rw[hl];dsimp only;rw[if_pos hz]
def pO{e:E3}{QI:Src->Hh->Prop}(h:run (e σ) G (fun x G1=>run (srcOf x) G1 QI E) E):run (iOf e σ) G QI E:=aB h
def eP{QI:Src->Hh->Prop}(hl:G[n]? =some (.lst xs))(h:QI ⟨xs,fun G'=>decide (G'[n]? =some (.lst xs))⟩ G):run (srcOf (.ref n)) G QI E:=by
 refine aC (G':=G) ?_ h;unfold srcOf;dsimp only;rw[hl]
def qM{a:E3}{QI:Src->Hh->Prop}(h:run (a σ) G (fun x G1=>run (Hj x) G1 QI E) E):run (jw a σ) G QI E:=aB h
def nR(h:(rng i n)[k]? =some x):x= .int (i+k)/\k < n:=by
 unfold rng at h;rw[qQ_]at h;by_cases hk:k < n
 · rw[List.getElem?_range hk]at h;simp at h;exact⟨h.symm,hk⟩
 · rw[List.getElem?_eq_none (by simpa using hk)]at h;cases h
def qP:(rng i n).length=n:=by simp [rng]
theorem jX{ck:Hh->Bool}{cond:D->M Bool}{elt:D->M D}{xs:List D}(P:Nat->List D->Hh->Prop)
 (wo:∀i acc G,P i acc G->ck G=true)
 (hs:∀i x acc G,xs[i]? =some x->P i acc G->run (cond x) G (fun c G1=>if c=true then run (elt x) G1 (fun y G2=>acc.length < aw/\P (i+1) (acc++[y]) G2) E else P (i+1) acc G1) E)
 (hd:∀acc G,P xs.length acc G->QA acc G):∀(r:List D) (i:Nat) (acc:List D) (G:Hh),xs.drop i=r->i<=xs.length->P i acc G->run (cg ck cond elt r acc) G QA E
 | [],i,acc,G,e,hi,p=>by
   have hl:i=xs.length:=by have:=congrArg List.length e;simp at this;omega
   subst hl;refine aC (G':=G) (a:=acc) ?_ (hd acc G p);unfold cg;rw[if_pos (wo _ _ _ p)]
 |x :: r,i,acc,G,e,hi,p=>by
  have hx:xs[i]? =some x:=by
   have:=congrArg (fun l=>l[0]?) e
   simpa using this
  have gA:i < xs.length:=(qB_.mp hx).1;have er:xs.drop (i+1)=r:=by
   have:=congrArg List.tail e
   simpa using this
  have key:run (bnd (cond x) (fun c=>if c=true then bnd (elt x) (fun y=>if acc.length < aw then cg ck cond elt r (acc++[y])else fail)else cg ck cond elt r acc)) G QA E:=by
   refine aB (ak (hs i x acc G hx p) (fun c G1 q=>?_) fun _ _ q=>q);cases c with
   |false=>exact jX P wo hs hd r (i+1) acc G1 er gA q
   |true=>refine aB (ak q (fun y G2 q2=>?_) fun _ _ q=>q);rw[if_pos q2.1];exact jX P wo hs hd r (i+1) (acc++[y]) G2 er gA q2.2
  unfold run at key ⊢;rw[show cg ck cond elt (x :: r) acc G=bnd (cond x) (fun c=>if c=true then bnd (elt x) (fun y=>if acc.length < aw then cg ck cond elt r (acc++[y])else fail)else cg ck cond elt r acc) G by
   conv=>lhs;unfold cg
   rw[if_pos (wo _ _ _ p)]]
  exact key
def vh{it:I3}{cond:T3}{elt:E3}
 (h:run (it σ) G (fun s G1=>run (cg s.ck (fun x=>cond (some x :: eZ σ cap)) (fun x=>elt (some x :: eZ σ cap)) s.xs []) G1 (fun ys G2=>Q (.ref G2.length) (G2++[.lst ys])) E) E):run (ij it cap cond elt σ) G Q E:=
 aB (ak h (fun s G1 q=>aB q) fun _ _ q=>q)
def sK(b:S3)(r:Fl×St):M (Fl×St):=match r.1 with
 | .next=>b r.2
 |f=>ret (f,r.2)
def az{a b:S3}(h:run (a σ) G (fun r G1=>run (sK b r) G1 QS E) E):run (aj a b σ) G QS E:=aB h
def w_next{b:S3}{σ':St}(h:run (b σ') G QS E):run (sK b (.next,σ')) G QS E:=h
def Kj{b:S3}(h:QS (.ret d,σ') G):run (sK b (.ret d,σ')) G QS E:=h
def kU(h:QS (.next,σ) G):run (aO σ) G QS E:=h
def aY{i:Nat}{e:E3}(h:run (e σ) G (fun d G1=>QS (.next,σ.set i (some d)) G1) E):run (aV i e σ) G QS E:=aB h
def MS{e:E3}(h:run (e σ) G (fun d G1=>run (gUn is d σ) G1 (fun σ' G2=>QS (.next,σ') G2) E) E):run (sUn is e σ) G QS E:=
 aB (ak h (fun _ _ q=>aB q) fun _ _ q=>q)
def IG{QG:St->Hh->Prop}(e:nM is ds σ=some σ')(h:QG σ' G):run (gUn is (.tup ds) σ) G QG E:=by
 show run (match nM is ds σ with
  |some σ'=>ret σ'
  |none=>fail) G QG E
 rw[e];exact h
def dE{e:E3}(h:run (e σ) G (fun _ G1=>QS (.next,σ) G1) E):run (bq e σ) G QS E:=aB h
def bB{e:E3}(h:run (e σ) G (fun d G1=>QS (.ret d,σ) G1) E):run (aA e σ) G QS E:=aB h
def cJ{t:T3}{a b:S3}(h:run (t σ) G (fun c G1=>run (if c=true then a σ else b σ) G1 QS E) E):run (sIf t a b σ) G QS E:=aB h
theorem sh{ck:Hh->Bool}{body:D->St->M (Fl×St)}{xs:List D}(P:Nat->St->Hh->Prop)
 (wo:∀i σ G,P i σ G->ck G=true)
 (hs:∀i x σ G,xs[i]? =some x->P i σ G->run (body x σ) G (fun p G1=>match p.1 with
   | .next=>P (i+1) p.2 G1
   | .cont=>P (i+1) p.2 G1
   | .brk=>QS (.next,p.2) G1
   | .ret d=>QS (.ret d,p.2) G1) E)
 (hd:∀σ G,P xs.length σ G->QS (.next,σ) G):∀(r:List D) (i:Nat) (σ:St) (G:Hh),xs.drop i=r->i<=xs.length->P i σ G->run (forL ck body r σ) G QS E
 | [],i,σ,G,e,hi,p=>by
   have hl:i=xs.length:=by have:=congrArg List.length e;simp at this;omega
   subst hl;refine aC (G':=G) (a:=(.next,σ)) ?_ (hd σ G p);unfold forL;rw[if_pos (wo _ _ _ p)]
 |x :: r,i,σ,G,e,hi,p=>by
  have hx:xs[i]? =some x:=by
   have:=congrArg (fun l=>l[0]?) e
   simpa using this
  have gA:i < xs.length:=(qB_.mp hx).1;have er:xs.drop (i+1)=r:=by
   have:=congrArg List.tail e
   simpa using this
  have key:run (bnd (body x σ) (fun p=>match p.1 with
   | .next=>forL ck body r p.2
   | .cont=>forL ck body r p.2
   | .brk=>ret (.next,p.2)
   | .ret d=>ret (.ret d,p.2))) G QS E:=by
   refine aB (ak (hs i x σ G hx p) (fun c G1 q=>?_) fun _ _ q=>q);obtain⟨f,σ1⟩:=c;cases f with
   |next=>exact sh P wo hs hd r (i+1) σ1 G1 er gA q
   |cont=>exact sh P wo hs hd r (i+1) σ1 G1 er gA q
   |brk=>exact q
   |ret d=>exact q
  unfold run at key ⊢;rw[show forL ck body (x :: r) σ G=bnd (body x σ) (fun p=>match p.1 with
   | .next=>forL ck body r p.2
   | .cont=>forL ck body r p.2
   | .brk=>ret (.next,p.2)
   | .ret d=>ret (.ret d,p.2)) G by
   conv=>lhs;unfold forL
   rw[if_pos (wo _ _ _ p)]
   all_goals rfl]
  exact key
def CJ{it:I3}{g:D->St->M St}{body:S3}(h:run (it σ) G (fun s G1=>run (forL s.ck (fun x σ=>bnd (g x σ) body) s.xs σ) G1 QS E) E):run (li it g body σ) G QS E:=aB h
def kB{i:Nat}{d:D}{QG:St->Hh->Prop}(h:QG (σ.set i (some d)) G):run (gNm i d σ) G QG E:=h
def fK(p:Fl×St):M D:=match p.1 with
 | .ret d=>ret d
 | .next=>ret .non
 |_=>fail
def GW{body:S3}{ds:List D}(hl:ds.length=n)(h:run (body (ds.map some++pad)) G (fun p G1=>run (fK p) G1 Q E) E):run (fnM n pad body ds) G Q E:=by
 unfold fnM;rw[if_pos hl];exact aB h
def lx(h:Q d G):run (fK (.ret d,σ')) G Q E:=h
def uL(h:Q .non G):run (fK (.next,σ')) G Q E:=h
end
section
variable{α β:Type}{G G':Hh}{E:Nat->Hh->Prop}{σ:St}
variable{Q:D->Hh->Prop}{QB:Bool->Hh->Prop}{QA:List D->Hh->Prop}{QS:Fl×St->Hh->Prop}{QU:Unit->Hh->Prop}
def Gx{a:A3}(h:run (a σ) G (fun xs G1=>xs.length<=aw/\E c G1) E):run (nL c a σ) G QS E:=
 aB (ak h (fun xs G1 ⟨l,q⟩=>by show run (if xs.length<=aw then throw c else fail) G1 QS E;rw[if_pos l];exact q) fun _ _ z=>z)
def My{e:E3}{k:D->St->Fl×St}{ms:List ((Nat->Bool)×S3)}(h:run (e σ) G (fun d G'=>QS (k d σ) G') fun c G'=>∃f,pick c ms=some f/\run (f σ) G' QS E):run (zh e k ms σ) G QS E:=by
 unfold run zh at*;cases q:e σ G with
 |none=>rw[q]at h;exact h
 |some p=>
  obtain⟨o,G1⟩:=p;rw[q]at h;cases o with
  |ok d=>exact h
  |exc c=>obtain⟨f,hf,hr⟩:=h;dsimp only;rw[hf];exact hr
def w_fld{o:E3}{f:Nat}(h:run (o σ) G (fun x G1=>run (BX x f) G1 Q E) E):run (aT o f σ) G Q E:=aB h
def aX{n C f:Nat}{fs:List (Nat×D)}{d:D}(hn:G[n]? =some (.ins C fs))(hC:C < 1000)(hf:fs.lookup f=some d)(h:Q d G):run (BX (.ref n) f) G Q E:=by
 unfold run BX;dsimp only;rw[hn];dsimp only;rw[if_pos hC,hf];exact h
def Ld{fs:List (Nat×D)}(hn:G[n]? =some (.ins C fs))(hl:C < 1000/\fs.length < 1000)(h:QU () (G.set n (.ins C (putN f y fs)))):run (Bm (.ref n) f y) G QU E:=by
 unfold run Bm;dsimp only;rw[hn];dsimp only;rw[if_pos hl];exact h
def bS{n C:Nat}{fs:List (Nat×D)}(hn:G[n]? =some (.ins C fs))(h:QU () G):run (isC C (.ref n)) G QU E:=by
 unfold run isC;dsimp only;rw[hn];dsimp only;rw[if_pos rfl];exact h
def fU{o e:E3}(h:run (e σ) G (fun y G1=>run (o σ) G1 (fun x G2=>run (Bm x f y) G2 (fun _ G3=>QS (.next,σ) G3) E) E) E):run (bt o f e σ) G QS E:=
 aB (ak h (fun y G1 q=>aB (ak q (fun x G2 q=>aB q) fun _ _ z=>z)) fun _ _ z=>z)
def bb{C:Nat}{g:List D->M D}{o:E3}{a:A3}(h:run (o σ) G (fun x G1=>run (isC C x) G1 (fun _ G2=>run (a σ) G2 (fun ds G3=>run (g (x :: ds)) G3 Q E) E) E) E):run (aK C g o a σ) G Q E:=
 aB (ak h (fun x G1 q=>aB (ak q (fun _ G2 q=>aB q) fun _ _ z=>z)) fun _ _ z=>z)
def JI{g:List D->M D}{a:A3}(h:run (a σ) G (fun ds G1=>run (g (.ref G1.length :: ds)) (G1++[.ins C []]) (fun r G2=>r= .non/\Q (.ref G1.length) G2) E) E):run (kC C g a σ) G Q E:=
 aB (ak h (fun ds G1 q=>aB (show run (bnd (g (.ref G1.length :: ds)) fun r=>bnd (Au r) fun _=>ret (D.ref G1.length)) (G1++[.ins C []]) Q E from aB (ak q (fun r G2 ⟨e,q⟩=>by subst e;exact q) fun _ _ z=>z))) fun _ _ z=>z)
def ph{o i e:E3}(h:run (e σ) G (fun v G1=>run (o σ) G1 (fun x G2=>run (i σ) G2 (fun y G3=>run (vE x y v) G3 (fun _ G4=>QS (.next,σ) G4) E) E) E) E):run (dS o i e σ) G QS E:=
 aB (ak h (fun v G1 q=>aB (ak q (fun x G2 q=>aB (ak q (fun y G3 q=>aB q) fun _ _ z=>z)) fun _ _ z=>z)) fun _ _ z=>z)
def JS{xs:List D}(hn:G[n]? =some (.lst xs))(hj:ixN xs.length k=some j)(h:QU () (G.set n (.lst (xs.set j v)))):run (vE (.ref n) (.int k) v) G QU E:=by
 unfold run vE;dsimp only;rw[hn];dsimp only;rw[hj];exact h
def J6{kvs:List (Key×D)}(hn:G[n]? =some (.dK kvs))(hk:qW i=some k)(hl:kvs.length < aw)(h:QU () (G.set n (.dK (put kvs k v)))):run (vE (.ref n) i v) G QU E:=by
 unfold run vE;dsimp only;rw[hn];dsimp only;rw[hk];dsimp only;rw[if_pos hl];exact h
def aG(hn:G[n]? =some (.dK kvs))(hk:qW i=some k)(e:look kvs k=some d)(h:Q d G):run (oIx (.ref n) i) G Q E:=by
 unfold run oIx;dsimp only;rw[hn];cases i with
 |int z=>dsimp only;rw[hk];dsimp only;rw[e];exact h
 |str z=>dsimp only;rw[hk];dsimp only;rw[e];exact h
 |_=>cases hk
def tR{o a:E3}(h:run (o σ) G (fun x G1=>run (isL x) G1 (fun _ G2=>run (a σ) G2 (fun y G3=>run (jS x y) G3 Q E) E) E) E):run (vc o a σ) G Q E:=
 aB (ak h (fun x G1 q=>aB (ak q (fun _ G2 q=>aB q) fun _ _ z=>z)) fun _ _ z=>z)
def Bi{xs ys:List D}(hn:G[n]? =some (.lst xs))(hm:G[m]? =some (.lst ys))(hl:xs.length+ys.length<=aw)(h:Q .non (G.set n (.lst (xs++ys)))):run (jS (.ref n) (.ref m)) G Q E:=by
 unfold run jS;dsimp only;rw[hn,hm];dsimp only;rw[if_pos hl];exact h
def Ax{o a:E3}(h:run (o σ) G (fun x G1=>run (isL x) G1 (fun _ G2=>run (a σ) G2 (fun y G3=>run (m6 x y) G3 Q E) E) E) E):run (rK o a σ) G Q E:=
 aB (ak h (fun x G1 q=>aB (ak q (fun _ G2 q=>aB q) fun _ _ z=>z)) fun _ _ z=>z)
def BY{xs:List D}(hn:G[n]? =some (.lst xs))(hk:ixN xs.length i=some k)(hy:xs[k]? =some y)(hi:-(2 ^ 62)<=i/\i < 2 ^ 62)(h:Q y (G.set n (.lst (xs.eraseIdx k)))):run (m6 (.ref n) (.int i)) G Q E:=by
 unfold run m6;dsimp only;rw[hn];dsimp only;rw[hk];dsimp only;rw[hy];dsimp only;rw[if_pos hi];exact h
def J3{o:E3}(h:run (o σ) G (fun x G1=>run (xT x) G1 Q E) E):run (Dx o σ) G Q E:=aB h
def Fj{kvs:List (Key×D)}(hn:G[n]? =some (.dK kvs))(h:Q (.ref G.length) (G++[.lst (kvs.map (·.2))])):run (xT (.ref n)) G Q E:=by
 unfold run xT;dsimp only;rw[hn];exact h
def Nu{e:E3}(h:run (e σ) G (fun x G1=>run (lo σ) G1 (fun l G2=>run (hi σ) G2 (fun r G3=>run (oSl x l r) G3 Q E) E) E) E):run (eSl e lo hi σ) G Q E:=
 aB (ak h (fun x G1 q=>aB (ak q (fun l G2 q=>aB q) fun _ _ z=>z)) fun _ _ z=>z)
end
end M3
namespace L3
open PySem PySem.Spec PyProof.Rows L2
structure Tab where
 cls:Nat->Option Addr
 nm:Nat->Str
mutual
def Den(K:PySem.W.Frag)(H:Hp)(μ:List Addr):M3.D->V->Prop
 | .non,v=>v= .non
 | .bl b,v=>v= .bl b
 | .int i,v=>v= .int i
 | .str x,v=>v= .str x
 | .ref n,v=>∃a,μ[n]? =some a/\v= .ref a
 | .tup ds,v=>∃a vs,v= .ref a/\SqT K H a vs/\ay K H μ ds vs
def ay(K:PySem.W.Frag)(H:Hp)(μ:List Addr):List M3.D->List V->Prop
 | [],vs=>vs=[]
 |d :: ds,vs=>∃v r,vs=v :: r/\Den K H μ d v/\ay K H μ ds r
end
structure Keeps (H H':Hp):Prop where
 tup:∀b xs,H b=some (.tup xs)->H' b=some (.tup xs)
 frz:∀b o u,H b=some (.frz o u)->H' b=some (.frz o u)
def Keeps.refl(H:Hp):Keeps H H:=⟨fun _ _ h=>h,fun _ _ _ h=>h⟩
def Keeps.trans{A B C:Hp}(a:Keeps A B)(b:Keeps B C):Keeps A C:=⟨fun _ _ h=>b.tup _ _ (a.tup _ _ h),fun _ _ _ h=>b.frz _ _ _ (a.frz _ _ _ h)⟩
def Keeps.of_same{H H':Hp}(h:gH H H'):Keeps H H':=⟨fun _ _ e=>h _ _ e,fun _ _ _ e=>h _ _ e⟩
def gH.new{H:Hp}(o:HO)(h:H p=none):gH H (upd H p o):=fun b u e=>by rw[aI (cx e h)];exact e
def Keeps.write{H:Hp}(h:H a=some o)(ht:∀xs,o≠.tup xs)(hf:∀q u,o≠.frz q u):Keeps H (upd H a o'):=
 ⟨fun b xs e=>by rw[aI (Dm e h (fun z=>ht xs z.symm))];exact e,fun b q u e=>by rw[aI (Dm e h (fun z=>hf q u z.symm))];exact e⟩
def SqT.keeps{K:PySem.W.Frag}{H H':Hp}{a:Addr}{xs:List V}(k:Keeps H H')(h:SqT K H a xs):SqT K H' a xs:=by
 rcases h with (h |⟨o,h⟩) |h
 · exact .inl (.inl (k.tup _ _ h))
 · exact .inl (.inr ⟨o,k.frz _ _ _ h⟩)
 · exact .inr h
def SqF(K:PySem.W.Frag)(H:Hp)(a:Addr)(xs:List V):Prop:=
 (∃o,H a=some (.frz o (.lst xs)))\/
   ∃(o:Obj) (aJ:Array Value) (n:Nat),K.lookup a=some o/\o.cls= .type "list"/\o.dict=none/\o.data= .seq aJ n/\aJ.size<=sizeLine/\Vals xs aJ.toList
def SqF.keeps{K:PySem.W.Frag}{H H':Hp}{a:Addr}{xs:List V}(k:Keeps H H')(h:SqF K H a xs):SqF K H' a xs:=by
 rcases h with ⟨o,h⟩ |h
 · exact .inl ⟨o,k.frz _ _ _ h⟩
 · exact .inr h
def SqF.sq{K:PySem.W.Frag}{H:Hp}{a:Addr}{xs:List V}(h:SqF K H a xs):SqL K H a xs:=by
 rcases h with ⟨o,h⟩ |h
 · exact .inl (.inr ⟨o,h⟩)
 · exact .inr h
structure Up (μ μ':List Addr) (H H':Hp):Prop where
 pre:μ <+: μ'
 keeps:Keeps H H'
 rest:∀b o,H b=some o->b∉μ->H' b=some o/\b∉μ'
theorem Up.refl(μ:List Addr)(H:Hp):Up μ μ H H:=⟨List.prefix_refl _,Keeps.refl _,fun _ _ h n=>⟨h,n⟩⟩
theorem Up.trans{μ μ1 μ2:List Addr}{H H1 H2:Hp}(a:Up μ μ1 H H1)(b:Up μ1 μ2 H1 H2):Up μ μ2 H H2:=⟨a.pre.trans b.pre,a.keeps.trans b.keeps,fun c o h n=>let ⟨h1,n1⟩:=a.rest c o h n;b.rest c o h1 n1⟩
def Up.same{H H':Hp}(h:gH H H'):Up μ μ H H':=⟨List.prefix_refl _,Keeps.of_same h,fun c o e n=>⟨h c o e,n⟩⟩
theorem Up.new{H:Hp}(u:HO)(hp:H p=none):Up μ (μ++[p]) H (upd H p u):=⟨⟨[p],rfl⟩,Keeps.of_same (gH.new u hp),fun c o e n=>⟨gH.new u hp c o e,fun z=>by
 rcases qG_.mp z with z |z
 · exact n z
 · simp at z;subst z;rw[hp]at e;cases e⟩⟩
def Up.xQ{μ:List Addr}{H:Hp}{n:Nat}(ea:μ[n]? =some a)(h:H a=some o)(ht:∀xs,o≠.tup xs)(hf:∀q u,o≠.frz q u):Up μ μ H (upd H a o'):=
 ⟨List.prefix_refl _,Keeps.write h ht hf,fun c u e nc=>⟨by rw[aI (by rintro rfl;exact nc (qD_ ea))];exact e,nc⟩⟩
def Up.at{μ μ':List Addr}{H H':Hp}(u:Up μ μ' H H'){n:Nat}{a:Addr}(h:μ[n]? =some a):μ'[n]? =some a:=by
 obtain⟨r,rfl⟩:=u.pre;rw[qK_ (qB_.mp h).1];exact h
theorem Kn{μ μ':List Addr}(u:μ <+: μ'){n:Nat}(h:μ[n]? =some a):μ'[n]? =some a:=by
 obtain⟨r,rfl⟩:=u;rw[qK_ (qB_.mp h).1];exact h
mutual
theorem Den.mono{K:PySem.W.Frag}{μ μ':List Addr}{H H':Hp}(p:μ <+: μ')(k:Keeps H H'):∀{d:M3.D} {v:V},Den K H μ d v->Den K H' μ' d v
 | .non,_,h=>h
 | .bl _,_,h=>h
 | .int _,_,h=>h
 | .str _,_,h=>h
 | .ref _,_,⟨a,e,h⟩=>⟨a,Kn p e,h⟩
 | .tup ds,_,⟨a,vs,e,h,r⟩=>⟨a,vs,e,SqT.keeps k h,ay.mono p k r⟩
theorem ay.mono{K:PySem.W.Frag}{μ μ':List Addr}{H H':Hp}(p:μ <+: μ')(k:Keeps H H'):∀{ds:List M3.D} {vs:List V},ay K H μ ds vs->ay K H' μ' ds vs
 | [],_,h=>h
 |_ :: _,_,⟨v,r,e,h,t⟩=>⟨v,r,e,Den.mono p k h,ay.mono p k t⟩
end
def Den.up{K:PySem.W.Frag}{μ μ':List Addr}{H H':Hp}(u:Up μ μ' H H'){d:M3.D}{v:V}(h:Den K H μ d v):Den K H' μ' d v:=Den.mono u.pre u.keeps h
def ay.up{K:PySem.W.Frag}{μ μ':List Addr}{H H':Hp}(u:Up μ μ' H H'){ds:List M3.D}{vs:List V}(h:ay K H μ ds vs):ay K H' μ' ds vs:=ay.mono u.pre u.keeps h
theorem ay.length{K:PySem.W.Frag}{μ:List Addr}{H:Hp}:∀{ds:List M3.D} {vs:List V},ay K H μ ds vs->ds.length=vs.length
 | [],_,h=>by cases (show _=[]from h);rfl
 |_ :: _,_,⟨v,r,e,_,t⟩=>by subst e;simp [ay.length t]
theorem ay.get{K:PySem.W.Frag}{μ:List Addr}{H:Hp}:∀{ds:List M3.D} {vs:List V} {i:Nat} {d:M3.D},ay K H μ ds vs->ds[i]? =some d->∃v,vs[i]? =some v/\Den K H μ d v
 | [],_,_,_,_,e=>by simp at e
 |d :: ds,_,0,d',⟨v,r,e,h,t⟩,q=>by
  subst e;simp at q;subst q;exact⟨v,rfl,h⟩
 |d :: ds,_,i+1,d',⟨v,r,e,h,t⟩,q=>by
  subst e;obtain⟨w,h1,h2⟩:=ay.get (i:=i) t (by simpa using q);exact⟨w,by simpa using h1,h2⟩
def ay.get'{K:PySem.W.Frag}{μ:List Addr}{H:Hp}{ds:List M3.D}{vs:List V}{i:Nat}{v:V}(h:ay K H μ ds vs)(e:vs[i]? =some v):∃d,ds[i]? =some d/\Den K H μ d v:=by
 have hl:i < ds.length:=by rw[h.length];exact(qB_.mp e).1
 obtain⟨w,e1,h1⟩:=ay.get h (qA_ hl);rw[e]at e1;cases e1;exact⟨_,qA_ hl,h1⟩
theorem ay.append{K:PySem.W.Frag}{μ:List Addr}{H:Hp}:∀{ds es:List M3.D} {vs ws:List V},ay K H μ ds vs->ay K H μ es ws->ay K H μ (ds++es) (vs++ws)
 | [],_,_,_,h,t=>by cases (show _=[]from h);exact t
 |_ :: _,_,_,_,⟨v,r,e,h,t⟩,s=>by subst e;exact⟨v,r++_,rfl,h,ay.append t s⟩
def ay.one{K:PySem.W.Frag}{μ:List Addr}{H:Hp}{d:M3.D}{v:V}(h:Den K H μ d v):ay K H μ [d] [v]:=⟨v,[],rfl,h,rfl⟩
theorem ay.ints{K:PySem.W.Frag}{μ:List Addr}{H:Hp}:∀{ns:List Int} {vs:List V},ay K H μ (ns.map M3.D.int) vs->vs=ns.map V.int
 | [],_,h=>h
 |n :: ns,_,⟨v,r,e,h,t⟩=>by
  subst e;have e1:v=V.int n:=h;rw[e1,ay.ints t];rfl
theorem ay.vn{K:PySem.W.Frag}{μ:List Addr}{H:Hp}:∀{ns:List Int},ay K H μ (ns.map M3.D.int) (ns.map V.int)
 | []=>rfl
 |n :: ns=>⟨_,_,rfl,rfl,ay.vn⟩
def isF:M3.O->Bool
 | .frz _=>true
 |_=>false
def isW:M3.O->Bool
 | .frz _=>false
 | .dF _=>false
 |_=>true
def isW.nf{o:M3.O}(h:isW o=true):isF o=false:=by cases o <;> first |rfl |cases h
def Pw(x:List Int×Addr×Value):DictEntry:=⟨reduceHash (Builtin.Tuple.tupleHashOf (x.1.map hashInt)),.ref x.2.1,x.2.2⟩
def P0(a:Addr)(xs:List (List Int×Addr×Value))(h:Heap):Prop:=(a==sysModules)=false/\xs.length<=sizeLine/\∃o es ep,h.get? a=some o/\o.ExactDict/\o.data= .dict es ep/\es.toList=xs.map Pw/\(xs.map (·.1)).Nodup
def ObD(T:Tab)(K:PySem.W.Frag)(H:Hp)(μ:List Addr):M3.O->Addr->Prop
 | .lst xs,a=>∃vs,H a=some (.lst vs)/\ay K H μ xs vs
 | .frz xs,a=>∃vs,SqF K H a vs/\ay K H μ xs vs
 | .dK kvs,a=>∃ws,H a=some (.dK ws)/\Paired (fun(p:M3.Key×M3.D) (q:L2.Key×V)=>p.1=q.1/\Den K H μ p.2 q.2) kvs ws
 | .dF kvs,a=>∃ob ws,H a=some (.frz ob (.dK ws))/\Paired (fun(p:M3.Key×M3.D) (q:L2.Key×V)=>p.1=q.1/\Den K H μ p.2 q.2) kvs ws
 | .dT kvs,a=>∃xs,H a=some (.ext (P0 a xs))/\Paired (fun(p:List Int×M3.D) (q:List Int×Addr×Value)=>p.1=q.1/\SqT K H q.2.1 (p.1.map V.int)/\∃v,Den K H μ p.2 v/\RelV v q.2.2) kvs xs
 | .ins C fs,a=>∃Ca dx ws,T.cls C=some Ca/\H a=some (.ins Ca dx ws)/\Paired (fun(p:Nat×M3.D) (q:Str×V)=>q.1=T.nm p.1/\Den K H μ p.2 q.2) fs ws
structure Sim (T:Tab) (K:PySem.W.Frag) (μ:List Addr) (H:Hp) (G:M3.Hh):Prop where
 len:μ.length=G.length
 obj:∀(n:Nat) a o,μ[n]? =some a->G[n]? =some o->ObD T K H μ o a
 inj:∀(n m:Nat) a o o',n≠m->μ[n]? =some a->μ[m]? =some a->G[n]? =some o->G[m]? =some o'->isF o=true\/isF o'=true
def ObD.some_of{T:Tab}{K:PySem.W.Frag}{μ:List Addr}{H:Hp}{o:M3.O}{a:Addr}(h:ObD T K H μ o a)(hf:isW o=true):∃u,H a=some u/\(∀xs,u≠.tup xs)/\∀q w,u≠.frz q w:=by
 cases o with
 |lst xs=>obtain⟨vs,e,_⟩:=h;exact⟨_,e,(fun _ z=>nomatch z),fun _ _ z=>nomatch z⟩
 |frz xs=>cases hf
 |dK kvs=>obtain⟨vs,e,_⟩:=h;exact⟨_,e,(fun _ z=>nomatch z),fun _ _ z=>nomatch z⟩
 |dF kvs=>cases hf
 |dT kvs=>obtain⟨vs,e,_⟩:=h;exact⟨_,e,(fun _ z=>nomatch z),fun _ _ z=>nomatch z⟩
 |ins C fs=>obtain⟨Ca,dx,ws,_,e,_⟩:=h;exact⟨_,e,(fun _ z=>nomatch z),fun _ _ z=>nomatch z⟩
def ObD.live{T:Tab}{K:PySem.W.Frag}{μ:List Addr}{H:Hp}{o:M3.O}{a:Addr}(h:ObD T K H μ o a)(hf:isF o=false):∃u,H a=some u:=by
 cases o with
 |frz xs=>cases hf
 |dF kvs=>obtain⟨ob,ws,e,_⟩:=h;exact⟨_,e⟩
 |lst xs=>obtain⟨u,e,_⟩:=h.some_of rfl;exact⟨u,e⟩
 |dK xs=>obtain⟨u,e,_⟩:=h.some_of rfl;exact⟨u,e⟩
 |dT xs=>obtain⟨u,e,_⟩:=h.some_of rfl;exact⟨u,e⟩
 |ins C fs=>obtain⟨u,e,_⟩:=h.some_of rfl;exact⟨u,e⟩
theorem ObD.mono{T:Tab}{K:PySem.W.Frag}{μ μ':List Addr}{H H':Hp}{o:M3.O}{a:Addr}(h:ObD T K H μ o a)(p:μ <+: μ')(k:Keeps H H')(e:∀x,H a=some x->H' a=some x):ObD T K H' μ' o a:=by
 cases o with
 |lst xs=>obtain⟨vs,q,r⟩:=h;exact⟨vs,e _ q,ay.mono p k r⟩
 |frz xs=>obtain⟨vs,q,r⟩:=h;exact⟨vs,SqF.keeps k q,ay.mono p k r⟩
 |dK kvs=>obtain⟨vs,q,r⟩:=h;exact⟨vs,e _ q,Paired.imp' (fun _ _ z=>⟨z.1,Den.mono p k z.2⟩) r⟩
 |dF kvs=>obtain⟨ob,vs,q,r⟩:=h;exact⟨ob,vs,e _ q,Paired.imp' (fun _ _ z=>⟨z.1,Den.mono p k z.2⟩) r⟩
 |dT kvs=>obtain⟨vs,q,r⟩:=h;exact⟨vs,e _ q,Paired.imp' (fun _ _ z=>⟨z.1,SqT.keeps k z.2.1,let ⟨v,x,y⟩:=z.2.2;⟨v,Den.mono p k x,y⟩⟩) r⟩
 |ins C fs=>obtain⟨Ca,dx,ws,c,q,r⟩:=h;exact⟨Ca,dx,ws,c,e _ q,Paired.imp' (fun _ _ z=>⟨z.1,Den.mono p k z.2⟩) r⟩
def ObD.jV{T:Tab}{K:PySem.W.Frag}{μ μ':List Addr}{H H':Hp}{o:M3.O}{a:Addr}(h:ObD T K H μ o a)(u:Up μ μ' H H')(e:∀x,H a=some x->H' a=some x):ObD T K H' μ' o a:=h.mono u.pre u.keeps e
section
variable{T:Tab}{K:PySem.W.Frag}{μ:List Addr}{H H':Hp}{G:M3.Hh}
theorem Sim.same(S:Sim T K μ H G)(h:gH H H'):Sim T K μ H' G:=
 ⟨S.len,fun n a o e1 e2=>(S.obj n a o e1 e2).jV (Up.same h) (h a),S.inj⟩
theorem Sim.new(S:Sim T K μ H G)(hp:H p=none)(hf:isF o=false)(ho:ObD T K (upd H p u) (μ++[p]) o p):Sim T K (μ++[p]) (upd H p u) (G++[o]):=by
 have sm:=gH.new u hp;have up:Up μ (μ++[p]) H (upd H p u):=Up.new u hp;have old:∀(n:Nat) a o',(μ++[p])[n]? =some a->(G++[o])[n]? =some o'->(μ[n]? =some a/\G[n]? =some o')\/(n=G.length/\a=p/\o'=o):=by
  intro n a o' e1 e2;by_cases h:n < G.length
  · rw[qK_ (by rw[S.len];exact h)]at e1;rw[qK_ h]at e2;exact .inl ⟨e1,e2⟩
  · have hn:n=G.length:=by
     have:=(qB_.mp e2).1;rw[qN_]at this;simp at this;omega
    subst hn;rw[<-S.len]at e1;simp at e1 e2;exact .inr ⟨rfl,e1.symm,e2.symm⟩
 have free:∀(n:Nat) a o',μ[n]? =some a->G[n]? =some o'->isF o'=false->a≠p:=by intro n a o' e1 e2 zI;obtain⟨w,hw⟩:=(S.obj n a o' e1 e2).live zI;exact cx hw hp
 refine⟨by simp [S.len],fun n a o' e1 e2=>?_,fun n m a o1 o2 Oa e1 e2 e3 e4=>?_⟩
 · rcases old n a o' e1 e2 with ⟨h1,h2⟩ |⟨_,rfl,rfl⟩
   · exact(S.obj n a o' h1 h2).jV up (sm a)
   · exact ho
 · rcases old n a o1 e1 e3 with ⟨h1,h2⟩ |⟨rfl,rfl,rfl⟩
   · rcases old m a o2 e2 e4 with ⟨h3,h4⟩ |⟨rfl,rfl,rfl⟩
     · exact S.inj n m a o1 o2 Oa h1 h3 h2 h4
     · cases q:isF o1 with
       |true=>exact .inl rfl
       |false=>exact absurd rfl (free n a o1 h1 h2 q)
   · rcases old m a o2 e2 e4 with ⟨h3,h4⟩ |⟨h3,_,_⟩
     · cases q:isF o2 with
       |true=>exact .inr rfl
       |false=>exact absurd rfl (free m a o2 h3 h4 q)
     · exact absurd h3.symm Oa
theorem Sim.set(S:Sim T K μ H G){n:Nat}{a:Addr}{o o':M3.O}{u:HO}(e1:μ[n]? =some a)(e2:G[n]? =some o)(T5:isW o=true)(zI:isF o'=false)(ho:ObD T K (upd H a u) μ o' a):Sim T K μ (upd H a u) (G.set n o'):=by
 have hf:=isW.nf T5;obtain⟨w,hw,h1,h2⟩:=(S.obj n a o e1 e2).some_of T5;have up:Up μ μ H (upd H a u):=Up.xQ e1 hw h1 h2;have hl:=(qB_.mp e2).1;refine⟨by rw[qX_];exact S.len,fun m b ob q1 q2=>?_,fun m k b o1 o2 Ts q1 q2 q3 q4=>?_⟩
 · by_cases h:m=n
   · subst h;rw[e1]at q1;cases q1;rw[qU_ hl]at q2;cases q2;exact ho
   · rw[qV_ (Ne.symm h)]at q2;cases q:isF ob with
     |true=>
      cases ob with
      |frz xs=>obtain⟨vs,z,r⟩:=S.obj m b _ q1 q2;exact⟨vs,SqF.keeps up.keeps z,ay.up up r⟩
      |_=>cases q
     |false=>
      have hb:b≠a:=by
       rintro rfl;rcases S.inj m n b ob o h q1 e1 q2 e2 with z |z
       · rw[q]at z;cases z
       · rw[hf]at z;cases z
      exact(S.obj m b ob q1 q2).jV up fun x z=>by rw[aI hb];exact z
 · have back:∀(m:Nat) ob,(G.set n o')[m]? =some ob->∃Ry,G[m]? =some Ry/\isF Ry=isF ob:=by
    intro m ob q;by_cases h:m=n
    · subst h;rw[qU_ hl]at q;cases q;exact⟨o,e2,by rw[hf,zI]⟩
    · rw[qV_ (Ne.symm h)]at q;exact⟨ob,q,rfl⟩
   obtain⟨p1,r1,f1⟩:=back m o1 q3;obtain⟨p2,r2,f2⟩:=back k o2 q4;rw[<-f1,<-f2];exact S.inj m k b p1 p2 Ts q1 q2 r1 r2
def Up.set(S:Sim T K μ H G){n:Nat}{a:Addr}{o:M3.O}(u:HO)(e1:μ[n]? =some a)(e2:G[n]? =some o)(hf:isW o=true):Up μ μ H (upd H a u):=by
 obtain⟨w,hw,h1,h2⟩:=(S.obj n a o e1 e2).some_of hf;exact Up.xQ e1 hw h1 h2
end
structure StD (K:PySem.W.Frag) (H:Hp) (μ:List Addr) (σ3:M3.St) (σ:L2.St):Prop where
 len:σ3.length=σ.length
 at_:∀(i:Nat) d,σ3[i]? =some (some d)->∃v,σ[i]? =some (some v)/\Den K H μ d v
theorem StD.up{K:PySem.W.Frag}{H H':Hp}{μ μ':List Addr}{σ3:M3.St}{σ:L2.St}(u:Up μ μ' H H')(s:StD K H μ σ3 σ):StD K H' μ' σ3 σ:=
 ⟨s.len,fun i d e=>let ⟨v,h1,h2⟩:=s.at_ i d e;⟨v,h1,Den.up u h2⟩⟩
theorem StD.set{K:PySem.W.Frag}{H:Hp}{μ:List Addr}{σ3:M3.St}{σ:L2.St}(s:StD K H μ σ3 σ){d:M3.D}{v:V}(i:Nat)(h:Den K H μ d v):StD K H μ (σ3.set i (some d)) (σ.set i (some v)):=by
 refine⟨by rw[qX_,qX_];exact s.len,fun j d' e=>?_⟩;by_cases hj:j=i
 · subst hj;have hl:j < σ3.length:=by
    have:=(qB_.mp e).1;rw[qX_]at this;exact this
   rw[qU_ hl]at e;cases e;exact⟨v,by rw[qU_ (by rw[<-s.len];exact hl)],h⟩
 · rw[qV_ (Ne.symm hj)]at e;rw[qV_ (Ne.symm hj)];exact s.at_ j d' e
structure EX where
 x:List Addr->Hp->Nat->M3.Hh->Prop
 up:∀{μ μ':List Addr} {H H':Hp} {c:Nat} {G:M3.Hh},Up μ μ' H H'->x μ H c G->x μ' H' c G
def EX.upE{α:Type}(E:EX){m:M3.M α}{G:M3.Hh}{P:α->M3.Hh->Prop}{μ μ':List Addr}{H H':Hp}(u:Up μ μ' H H')(h:M3.run m G P (E.x μ H)):M3.run m G P (E.x μ' H'):=M3.ak h (fun _ _ q=>q) fun _ _ q=>E.up u q
def dO(T:Tab)(K:PySem.W.Frag)(μ:List Addr)(H:Hp)(Q:VK)(d:M3.D)(G':M3.Hh):Prop:=∀v H' μ',Up μ μ' H H'->Sim T K μ' H' G'->Den K H' μ' d v->Q v H'
def qc(T:Tab)(K:PySem.W.Frag)(μ:List Addr)(H:Hp)(Q:Bool->Hp->Prop)(b:Bool)(G':M3.Hh):Prop:=∀H' μ',Up μ μ' H H'->Sim T K μ' H' G'->Q b H'
def Iy(T:Tab)(K:PySem.W.Frag)(μ:List Addr)(H:Hp)(Q:List V->Hp->Prop)(ds:List M3.D)(G':M3.Hh):Prop:=∀vs H' μ',Up μ μ' H H'->Sim T K μ' H' G'->ay K H' μ' ds vs->Q vs H'
def fw(T:Tab)(K:PySem.W.Frag)(μ:List Addr)(H:Hp)(D:Ends)(r:M3.Fl×M3.St)(G':M3.Hh):Prop:=∀σ' H' μ',Up μ μ' H H'->Sim T K μ' H' G'->StD K H' μ' r.2 σ'->match r.1 with
 | .next=>D.nx σ' H'
 | .brk=>D.bk σ' H'
 | .cont=>D.ct σ' H'
 | .ret d=>∀v,Den K H' μ' d v->D.rt v H'
section
variable{T:Tab}{K:PySem.W.Frag}{μ μ':List Addr}{H H':Hp}{G:M3.Hh}
def dO.up{Q:VK}{d:M3.D}(u:Up μ μ' H H')(h:dO T K μ H Q d G):dO T K μ' H' Q d G:=fun v H2 μ2 u2 S r=>h v H2 μ2 (u.trans u2) S r
def qc.up{Q:Bool->Hp->Prop}{d:Bool}(u:Up μ μ' H H')(h:qc T K μ H Q d G):qc T K μ' H' Q d G:=fun H2 μ2 u2 S=>h H2 μ2 (u.trans u2) S
def fw.up{D:Ends}{r:M3.Fl×M3.St}(u:Up μ μ' H H')(h:fw T K μ H D r G):fw T K μ' H' D r G:=fun v H2 μ2 u2 S r=>h v H2 μ2 (u.trans u2) S r
end
def tE(T:Tab)(K:PySem.W.Frag)(Y:EX)(f:M3.E3):TE:=fun σ H Q=>∃μ σ3 G,Sim T K μ H G/\StD K H μ σ3 σ/\M3.run (f σ3) G (dO T K μ H Q) (Y.x μ H)
def tT(T:Tab)(K:PySem.W.Frag)(Y:EX)(f:M3.T3):TT:=fun σ H Q=>∃μ σ3 G,Sim T K μ H G/\StD K H μ σ3 σ/\M3.run (f σ3) G (qc T K μ H Q) (Y.x μ H)
def tA(T:Tab)(K:PySem.W.Frag)(Y:EX)(f:M3.A3):TA:=fun σ H Q=>∃μ σ3 G,Sim T K μ H G/\StD K H μ σ3 σ/\M3.run (f σ3) G (Iy T K μ H Q) (Y.x μ H)
def tS(T:Tab)(K:PySem.W.Frag)(Y:EX)(f:M3.S3):TS:=fun D σ H=>∃μ σ3 G,Sim T K μ H G/\StD K H μ σ3 σ/\M3.run (f σ3) G (fw T K μ H D) (Y.x μ H)
def bj{Y:EX}{α:Type}{T:Tab}{K:PySem.W.Frag}{μ:List Addr}{H:Hp}{m:M3.M M3.D}{k:M3.D->M3.M α}{G:M3.Hh}{P:α->M3.Hh->Prop}{R:VK}(h:M3.run (M3.bnd m k) G P (Y.x μ H))
 (f:∀d G1 v H1 μ1,Up μ μ1 H H1->Sim T K μ1 H1 G1->Den K H1 μ1 d v->M3.run (k d) G1 P (Y.x μ1 H1)->R v H1):M3.run m G (dO T K μ H R) (Y.x μ H):=
 M3.ak (M3.aN h) (fun d G1 q v H1 μ1 u S r=>f d G1 v H1 μ1 u S r (Y.upE u q)) fun _ _ z=>z
def ud{Y:EX}{α:Type}{T:Tab}{K:PySem.W.Frag}{μ:List Addr}{H:Hp}{m:M3.M Bool}{k:Bool->M3.M α}{G:M3.Hh}{P:α->M3.Hh->Prop}{R:Bool->Hp->Prop}(h:M3.run (M3.bnd m k) G P (Y.x μ H))
 (f:∀b G1 H1 μ1,Up μ μ1 H H1->Sim T K μ1 H1 G1->M3.run (k b) G1 P (Y.x μ1 H1)->R b H1):M3.run m G (qc T K μ H R) (Y.x μ H):=
 M3.ak (M3.aN h) (fun d G1 q H1 μ1 u S=>f d G1 H1 μ1 u S (Y.upE u q)) fun _ _ z=>z
def pY{Y:EX}{α:Type}{T:Tab}{K:PySem.W.Frag}{μ:List Addr}{H:Hp}{m:M3.M (List M3.D)}{k:List M3.D->M3.M α}{G:M3.Hh}{P:α->M3.Hh->Prop}{R:List V->Hp->Prop}(h:M3.run (M3.bnd m k) G P (Y.x μ H))
 (f:∀ds G1 vs H1 μ1,Up μ μ1 H H1->Sim T K μ1 H1 G1->ay K H1 μ1 ds vs->M3.run (k ds) G1 P (Y.x μ1 H1)->R vs H1):M3.run m G (Iy T K μ H R) (Y.x μ H):=
 M3.ak (M3.aN h) (fun d G1 q v H1 μ1 u S r=>f d G1 v H1 μ1 u S r (Y.upE u q)) fun _ _ z=>z
def cS{α:Type}{m:M3.M α}{G:M3.Hh}{P P':α->M3.Hh->Prop}{X:Nat->M3.Hh->Prop}(h:M3.run m G P X)(f:∀a G',P a G'->P' a G'):M3.run m G P' X:=M3.ak h f fun _ _ z=>z
section
variable{X:Cx}{T:Tab}{Y:EX}{a b e:Expr}{es:List Expr}{fa fb:M3.E3}{pos:Pos}{tt:M3.T3}
def PE.of{t u:TE}(h:PE X e t)(f:∀σ H Q,u σ H Q->t σ H Q):PE X e u:=fun pins s σ H Q I q=>h pins s σ H Q I (f σ H Q q)
def PT.of{t u:TT}(h:PT X e t)(f:∀σ H Q,u σ H Q->t σ H Q):PT X e u:=fun pins s σ H Q I q=>h pins s σ H Q I (f σ H Q q)
def PW.of{t u:TT}(h:PW X e t)(f:∀σ H Q,u σ H Q->t σ H Q):PW X e u:=fun wh pins s σ H Q I q=>h wh pins s σ H Q I (f σ H Q q)
def PA.of{t u:TA}(h:PA X es t)(f:∀σ H Q,u σ H Q->t σ H Q):PA X es u:=fun ps pins s σ H Q I q=>h ps pins s σ H Q I (f σ H Q q)
def PS.of{st:Stmt}{t u:TS}(h:PS X st t)(f:∀D σ H,u D σ H->t D σ H):PS X st u:=fun pins s σ H D I q=>h pins s σ H D I (f D σ H q)
def PSs.of{st:List Stmt}{t u:TS}(h:PSs X st t)(f:∀D σ H,u D σ H->t D σ H):PSs X st u:=fun pins s σ H D I q=>h pins s σ H D I (f D σ H q)
def fq(i:Nat)(hN:X.N[i]? =some x:=by rfl)(hv:Vis X.env.scope x:=by first |exact Or.inl rfl |exact Or.inr (Or.inl rfl) |exact Or.inr (Or.inr rfl))(hd:(x==("__debug__":Str))=false:=by decide)
 (BN:(x==("__classdict__":Str))=false:=by decide):PE X (.Name x pos) (tE T X.K Y (M3.ae i)):=by
 refine PE.of (KZ hN hv hd BN) fun σ H Q ⟨μ,σ3,G,S,sd,h⟩=>?_;unfold M3.ae at h;cases q:σ3[i]? with
 |none=>rw[q]at h;cases h
 |some o=>
  rw[q]at h;cases o with
  |none=>cases h
  |some d=>obtain⟨v,e,r⟩:=sd.at_ i d q;exact⟨v,e,h v H μ (Up.refl _ _) S r⟩
def oC(h:PE X e (tC v))(hd:∀H μ,Den X.K H μ d v):PE X e (tE T X.K Y (M3.eC d)):=
 PE.of h fun σ H Q ⟨μ,σ3,G,S,sd,q⟩=>q v H μ (Up.refl _ _) S (hd H μ)
def x8{i j}:PE X (.Constant (.int i) j pos) (tE T X.K Y (M3.eC (.int i))):=oC KP fun _ _=>rfl
def M8{c j}:PE X (.Constant (.bool c) j pos) (tE T X.K Y (M3.eC (.bl c))):=oC Mz fun _ _=>rfl
def NY{j}:PE X (.Constant .none j pos) (tE T X.K Y (M3.eC .non)):=oC Lj fun _ _=>rfl
def MG{x j}:PE X (.Constant (.str x) j pos) (tE T X.K Y (M3.eC (.str x))):=oC CF fun _ _=>rfl
def Br2(T:Tab)(K:PySem.W.Frag)(Y:EX)(g:M3.D->M3.D->M3.M M3.D)(r:R2):Prop:=
 ∀μ H G x y v w Q,Sim T K μ H G->Den K H μ x v->Den K H μ y w->M3.run (g x y) G (dO T K μ H Q) (Y.x μ H)->r v w H Q
def Hn{g:M3.D->M3.D->M3.M M3.D}{r:R2}{K:PySem.W.Frag}(br:Br2 T K Y g r){σ:L2.St}{H:Hp}{Q:VK}(h:tE T K Y (M3.eOp g fa fb) σ H Q):tOp r (tE T K Y fa) (tE T K Y fb) σ H Q:=by
 obtain⟨μ,σ3,G,S,sd,h⟩:=h;refine⟨μ,σ3,G,S,sd,bj h fun x G1 v H1 μ1 u1 S1 d1 h1=>⟨μ1,σ3,G1,S1,sd.up u1,bj h1 fun y G2 w H2 μ2 u2 S2 d2 h2=>?_⟩⟩;exact br μ2 H2 G2 x y v w Q S2 (Den.up u2 d1) d2 (cS h2 fun _ _ q=>q.up (u1.trans u2))
def GY{g:M3.D->M3.D->M3.M M3.D}{r:R2}(br:OpR X (binaryOp op) r/\Br2 T X.K Y g r)(ha:PE X a (tE T X.K Y fa))(hb:PE X b (tE T X.K Y fb)):PE X (.BinOp a op b pos) (tE T X.K Y (M3.eOp g fa fb)):=
 PE.of (MN br.1 ha hb) fun _ _ _ h=>Hn br.2 h
def DU{g:M3.D->M3.D->M3.M M3.D}{r:R2}(br:OpR X (compareOp op) r/\Br2 T X.K Y g r)(ha:PE X a (tE T X.K Y fa))(hb:PE X b (tE T X.K Y fb))(hm:behindInMarks op b=false):PE X (.Compare a [op] [b] pos) (tE T X.K Y (M3.eOp g fa fb)):=
 PE.of (GO br.1 ha hb hm) fun _ _ _ h=>Hn br.2 h
def uP{P:Bool->M3.Hh->Prop}{Z:Nat->M3.Hh->Prop}(h:M3.run (M3.asB x) G P Z):∃c,x= .bl c/\P c G:=by
 cases x with
 |bl c=>exact⟨c,rfl,h⟩
 |_=>cases h
def K3{K:PySem.W.Frag}{f:M3.E3}{σ:L2.St}{H:Hp}{Q:Bool->Hp->Prop}(h:tT T K Y (M3.tB f) σ H Q):Ir (tE T K Y f) σ H Q:=by
 obtain⟨μ,σ3,G,S,sd,h⟩:=h;refine⟨μ,σ3,G,S,sd,bj h fun x G1 v H1 μ1 u1 S1 d1 h1=>?_⟩;obtain⟨c,rfl,q⟩:=uP h1;exact⟨c,d1,q H1 μ1 u1 S1⟩
def pX{g:M3.D->M3.D->M3.M M3.D}{r:R2}(br:OpR X (compareOp op) r/\Br2 T X.K Y g r)(ha:PE X a (tE T X.K Y fa))(hb:PE X b (tE T X.K Y fb))(hm:behindInMarks op b=false):PT X (.Compare a [op] [b] pos) (tT T X.K Y (M3.tB (M3.eOp g fa fb))):=by
 refine PT.of (Gv br.1 ha hb hm) fun σ H Q h=>?_;obtain⟨μ,σ3,G,S,sd,h⟩:=K3 h;exact Hn br.2 ⟨μ,σ3,G,S,sd,h⟩
end
def cM:M3.aw=sizeLine:=by rw[sizeLine_eq];rfl
section
variable{X:Cx}{T:Tab}{Y:EX}{a b e:Expr}{es:List Expr}{fa fb:M3.E3}{ta tb:M3.T3}{f3:M3.A3}{pos:Pos}{rest:List Expr}
def Ih{op}{f:M3.E3}(h:PE X a (tE T X.K Y f)):PE X (.BoolOp op [a] pos) (tE T X.K Y f):=KL h
def HV(ha:PE X a (tE T X.K Y fa))(hb:PE X (.BoolOp .And (b :: rest) pos) (tE T X.K Y fb)):PE X (.BoolOp .And (a :: b :: rest) pos) (tE T X.K Y (M3.kF fa fb)):=by
 refine PE.of (JQ ha hb) fun σ H Q ⟨μ,σ3,G,S,sd,h⟩=>⟨μ,σ3,G,S,sd,bj h fun x G1 v H1 μ1 u1 S1 d1 h1=>?_⟩;obtain⟨c,rfl,q⟩:=uP (M3.aN h1);refine⟨c,d1,?_⟩;cases c with
 |true=>exact⟨μ1,σ3,G1,S1,sd.up u1,cS q fun _ _ z=>z.up u1⟩
 |false=>exact q _ H1 μ1 u1 S1 rfl
def PZ(ha:PE X a (tE T X.K Y fa))(hb:PE X (.BoolOp .Or (b :: rest) pos) (tE T X.K Y fb)):PE X (.BoolOp .Or (a :: b :: rest) pos) (tE T X.K Y (M3.eOr fa fb)):=by
 refine PE.of (NA ha hb) fun σ H Q ⟨μ,σ3,G,S,sd,h⟩=>⟨μ,σ3,G,S,sd,bj h fun x G1 v H1 μ1 u1 S1 d1 h1=>?_⟩;obtain⟨c,rfl,q⟩:=uP (M3.aN h1);refine⟨c,d1,?_⟩;cases c with
 |true=>exact q _ H1 μ1 u1 S1 rfl
 |false=>exact⟨μ1,σ3,G1,S1,sd.up u1,cS q fun _ _ z=>z.up u1⟩
def NG(ha:PE X a (tE T X.K Y fa)):PE X (.UnaryOp .Not a pos) (tE T X.K Y (M3.DK fa)):=by
 refine PE.of (KA ha) fun σ H Q ⟨μ,σ3,G,S,sd,h⟩=>⟨μ,σ3,G,S,sd,bj h fun x G1 v H1 μ1 u1 S1 d1 h1=>?_⟩;obtain⟨c,rfl,q⟩:=uP (M3.aN h1);exact⟨c,d1,q _ H1 μ1 u1 S1 rfl⟩
def M9{j pos'}(ha:PE X a (tE T X.K Y fa)):PE X (.Compare a [.Is] [.Constant .none j pos'] pos) (tE T X.K Y (M3.eUn M3.kN fa)):=by
 refine PE.of (Ki (Dg ha)) fun σ H Q ⟨μ,σ3,G,S,sd,h⟩=>⟨μ,σ3,G,S,sd,bj h fun x G1 v H1 μ1 u1 S1 d1 h1=>?_⟩;refine h1 _ H1 μ1 u1 S1 ?_;cases x with
 |non=>cases (show v= .non from d1);rfl
 |bl b=>cases (show v= .bl b from d1);rfl
 |int b=>cases (show v= .int b from d1);rfl
 |str b=>cases (show v= .str b from d1);rfl
 |ref n=>obtain⟨_,_,rfl⟩:=d1;rfl
 |tup ds=>obtain⟨_,_,rfl,_⟩:=d1;rfl
def Ko(ha:PT X a (tT T X.K Y ta)):PW X (.BoolOp .And [a] pos) (tT T X.K Y ta):=FJ ha
def Dv(ha:PT X a (tT T X.K Y ta)):PW X (.BoolOp .Or [a] pos) (tT T X.K Y ta):=JK ha
def w_and(ha:PT X a (tT T X.K Y ta))(hb:PW X (.BoolOp .And (b :: rest) pos) (tT T X.K Y tb)):PW X (.BoolOp .And (a :: b :: rest) pos) (tT T X.K Y (M3.sJ ta tb)):=by
 refine PW.of (K9 ha hb) fun σ H Q ⟨μ,σ3,G,S,sd,h⟩=>⟨μ,σ3,G,S,sd,ud h fun c G1 H1 μ1 u1 S1 h1=>?_⟩;cases c with
 |true=>exact⟨μ1,σ3,G1,S1,sd.up u1,cS h1 fun _ _ z=>z.up u1⟩
 |false=>exact h1 H1 μ1 u1 S1
def w_or(ha:PT X a (tT T X.K Y ta))(hb:PW X (.BoolOp .Or (b :: rest) pos) (tT T X.K Y tb)):PW X (.BoolOp .Or (a :: b :: rest) pos) (tT T X.K Y (M3.tOr ta tb)):=by
 refine PW.of (Mr ha hb) fun σ H Q ⟨μ,σ3,G,S,sd,h⟩=>⟨μ,σ3,G,S,sd,ud h fun c G1 H1 μ1 u1 S1 h1=>?_⟩;cases c with
 |true=>exact h1 H1 μ1 u1 S1
 |false=>exact⟨μ1,σ3,G1,S1,sd.up u1,cS h1 fun _ _ z=>z.up u1⟩
def w5(ha:PT X a (tT T X.K Y ta)):PT X (.UnaryOp .Not a pos) (tT T X.K Y (M3.eF ta)):=by
 refine PT.of (JW ha) fun σ H Q ⟨μ,σ3,G,S,sd,h⟩=>⟨μ,σ3,G,S,sd,ud h fun c G1 H1 μ1 u1 S1 h1=>?_⟩;exact h1 H1 μ1 u1 S1
def IZ{Z:Nat->M3.Hh->Prop}{K:PySem.W.Frag}{μ:List Addr}{H:Hp}{G:M3.Hh}{x:M3.D}{v:V}{P:Bool->M3.Hh->Prop}(S:Sim T K μ H G)(d:Den K H μ x v)(h:M3.run (M3.truth x) G P Z):∃k,Ka K v H k/\P k G:=by
 cases x with
 |non=>cases (show v= .non from d);exact⟨false,rfl,h⟩
 |bl b=>cases (show v= .bl b from d);exact⟨b,rfl,h⟩
 |int b=>cases (show v= .int b from d);exact⟨_,rfl,h⟩
 |str b=>
  cases (show v= .str b from d);unfold M3.run M3.truth at h;dsimp only at h;by_cases hl:b.length<=M3.aw
  · rw[if_pos hl]at h;refine⟨b.length !=0,⟨by rw[<-cM];exact hl,?_⟩,h⟩;cases q:b.length with
    |zero=>rfl
    |succ n=>rfl
  · rw[if_neg hl]at h;cases h
 |tup ds=>obtain⟨a,vs,rfl,sq,r⟩:=d;refine⟨!ds.isEmpty,.inr (.inl ⟨vs,sq,?_⟩),h⟩;have:=r.length;cases ds <;> cases vs <;> simp_all
 |ref n=>
  obtain⟨a,e,rfl⟩:=d;unfold M3.run M3.truth at h;dsimp only at h;cases q:G[n]? with
  |none=>rw[q]at h;cases h
  |some o=>
   rw[q]at h;have ob:=S.obj n a o e q;cases o with
   |lst xs=>obtain⟨vs,e1,r⟩:=ob;refine⟨_,.inl ⟨vs,SqL.of e1,rfl⟩,?_⟩;have:=r.length;cases xs <;> cases vs <;> simp_all
   |frz xs=>obtain⟨vs,e1,r⟩:=ob;refine⟨_,.inl ⟨vs,e1.sq,rfl⟩,?_⟩;have:=r.length;cases xs <;> cases vs <;> simp_all
   |dK kvs=>obtain⟨ws,e1,r⟩:=ob;refine⟨_,.inr (.inr ⟨ws,e1,rfl⟩),?_⟩;have:=Paired.length r;cases kvs <;> cases ws <;> simp_all
   |dF kvs=>cases h
   |dT kvs=>cases h
   |ins C fs=>cases h
def By{f:M3.E3}(h:PE X e (tE T X.K Y f))(he:∀whole,isTrue e X.env whole=(do let v <-whole;standAt e.pos;holding [v] (truthy v)):=by intro _;rfl):PT X e (tT T X.K Y (M3.tOf f)):=by
 refine PT.of (Cw h he) fun σ H Q ⟨μ,σ3,G,S,sd,h⟩=>⟨μ,σ3,G,S,sd,bj h fun x G1 v H1 μ1 u1 S1 d1 h1=>?_⟩;obtain⟨k,t,q⟩:=IZ S1 d1 h1;exact⟨k,t,q H1 μ1 u1 S1⟩
def PB(hc:PT X c (tT T X.K Y ta))(ha:PE X a (tE T X.K Y fa))(hb:PE X b (tE T X.K Y fb)):PE X (.IfExp c a b pos) (tE T X.K Y (M3.eIf ta fa fb)):=by
 refine PE.of (De hc ha hb) fun σ H Q ⟨μ,σ3,G,S,sd,h⟩=>⟨μ,σ3,G,S,sd,ud h fun c G1 H1 μ1 u1 S1 h1=>?_⟩;cases c with
 |true=>exact⟨μ1,σ3,G1,S1,sd.up u1,cS h1 fun _ _ z=>z.up u1⟩
 |false=>exact⟨μ1,σ3,G1,S1,sd.up u1,cS h1 fun _ _ z=>z.up u1⟩
def qU:PA X [] (tA T X.K Y M3.ah):=PA.of je fun σ H Q ⟨μ,σ3,G,S,sd,h⟩=>h [] H μ (Up.refl _ _) S rfl
def fi{r:M3.A3}(ha:PE X e (tE T X.K Y fa))(hr:PA X es (tA T X.K Y r))(hs:starEach (e :: es) X.env=(false,eval e X.env) :: starEach es X.env:=by rfl):PA X (e :: es) (tA T X.K Y (M3.aa fa r)):=by
 refine PA.of (eB ha hr hs) fun σ H Q ⟨μ,σ3,G,S,sd,h⟩=>⟨μ,σ3,G,S,sd,bj h fun x G1 v H1 μ1 u1 S1 d1 h1=>⟨μ1,σ3,G1,S1,sd.up u1,pY h1 fun xs G2 vs H2 μ2 u2 S2 d2 h2=>?_⟩⟩;exact h2 _ H2 μ2 (u1.trans u2) S2 ⟨v,vs,rfl,Den.up u2 d1,d2⟩
def CG{x1}(h:PA X es (tA T X.K Y f3)):PE X (.Tuple es x1 pos) (tE T X.K Y (M3.bE f3)):=by
 refine PE.of (CI h) fun σ H Q ⟨μ,σ3,G,S,sd,h⟩=>⟨μ,σ3,G,S,sd,pY h fun xs G1 vs H1 μ1 u1 S1 d1 h1=>?_⟩;by_cases hl:xs.length<=M3.aw
 · rw[if_pos hl]at h1;refine⟨by rw[<-d1.length,<-cM];exact hl,fun p hp=>?_⟩;have u2:Up μ1 μ1 H1 (upd H1 p (.tup vs)):=Up.same (gH.new _ hp);exact h1 _ _ μ1 (u1.trans u2) (S1.same (gH.new _ hp)) ⟨p,vs,rfl,SqT.of aH,ay.up u2 d1⟩
 · rw[if_neg hl]at h1;cases h1
def NI(h:PA X es (tA T X.K Y f3)):PE X (.List es pos) (tE T X.K Y (M3.bW f3)):=by
 refine PE.of (IX h) fun σ H Q ⟨μ,σ3,G,S,sd,h⟩=>⟨μ,σ3,G,S,sd,pY h fun xs G1 vs H1 μ1 u1 S1 d1 h1=>?_⟩;by_cases hl:xs.length<=M3.aw
 · rw[if_pos hl]at h1;refine⟨by rw[<-d1.length,<-cM];exact hl,fun p hp=>?_⟩;have u2:=Up.new (μ:=μ1) (.lst vs) hp;refine h1 _ _ (μ1++[p]) (u1.trans u2) (S1.new hp rfl ⟨vs,aH,ay.up u2 d1⟩) ⟨p,?_,rfl⟩;rw[<-S1.len];simp
 · rw[if_neg hl]at h1;cases h1
def ky:PSs X [] (tS T X.K Y M3.aO):=PSs.of GX fun D σ H ⟨μ,σ3,G,S,sd,h⟩=>h σ H μ (Up.refl _ _) S sd
def bV{st:Stmt}{f:M3.S3}(h:PS X st (tS T X.K Y f)):PSs X [st] (tS T X.K Y f):=He h
def aD{st:Stmt}{SS:List Stmt}{f g:M3.S3}(h1:PS X st (tS T X.K Y f))(h2:PSs X SS (tS T X.K Y g)):PSs X (st :: SS) (tS T X.K Y (M3.aj f g)):=by
 refine PSs.of (Dt h1 h2) fun D σ H ⟨μ,σ3,G,S,sd,h⟩=>⟨μ,σ3,G,S,sd,cS (M3.aN h) fun r G1 q σ1 H1 μ1 u1 S1 Pb=>?_⟩;obtain⟨fl,σ2⟩:=r;cases fl with
 |next=>exact⟨μ1,σ2,G1,S1,Pb,cS (Y.upE u1 q) fun _ _ z=>z.up u1⟩
 |brk=>exact q σ1 H1 μ1 u1 S1 Pb
 |cont=>exact q σ1 H1 μ1 u1 S1 Pb
 |ret d=>exact q σ1 H1 μ1 u1 S1 Pb
def Ao{i:Nat}{x:Str}{pos':Pos}(hN:X.N.Nodup)(hi:X.N[i]? =some x)(hx:Loc X.env.scope x)(he:PE X e (tE T X.K Y fa))(hs:swapsWith e (some (.Name x pos')) pos.line X.env=pure false:=by rfl)(hf:X.fn x=true\/X.env.scope.names.lookup x=some .local:=by first |exact .inl rfl |exact .inr rfl |assumption):
 PS X (.Assign [.Name x pos'] e pos) (tS T X.K Y (M3.aV i fa)):=by
 refine PS.of (IT hN hi hx he hs hf) fun D σ H ⟨μ,σ3,G,S,sd,h⟩=>⟨μ,σ3,G,S,sd,bj h fun d G1 v H1 μ1 u1 S1 d1 h1=>?_⟩;exact h1 _ H1 μ1 u1 S1 ((sd.up u1).set i d1)
def rY(he:PE X e (tE T X.K Y fa))(hs:swapsWith e none pos.line X.env=pure false:=by rfl):PS X (.Expr e pos) (tS T X.K Y (M3.bq fa)):=by
 refine PS.of (GZ he hs) fun D σ H ⟨μ,σ3,G,S,sd,h⟩=>⟨μ,σ3,G,S,sd,bj h fun d G1 v H1 μ1 u1 S1 d1 h1=>?_⟩;exact h1 _ H1 μ1 u1 S1 (sd.up u1)
def y_ret(he:PE X e (tE T X.K Y fa)):PS X (.Return (some e) pos) (tS T X.K Y (M3.aA fa)):=by
 refine PS.of (K0 he) fun D σ H ⟨μ,σ3,G,S,sd,h⟩=>⟨μ,σ3,G,S,sd,bj h fun d G1 v H1 μ1 u1 S1 d1 h1=>?_⟩;exact h1 _ H1 μ1 u1 S1 (sd.up u1) v d1
def qw{c:Expr}{p q:List Stmt}{f g:M3.S3}(hc:PT X c (tT T X.K Y ta))(ha:PSs X p (tS T X.K Y f))(hb:PSs X q (tS T X.K Y g)):PS X (.If c p q pos) (tS T X.K Y (M3.sIf ta f g)):=by
 refine PS.of (MT hc ha hb) fun D σ H ⟨μ,σ3,G,S,sd,h⟩=>⟨μ,σ3,G,S,sd,ud h fun c G1 H1 μ1 u1 S1 h1=>?_⟩;cases c with
 |true=>exact⟨μ1,σ3,G1,S1,sd.up u1,cS h1 fun _ _ z=>z.up u1⟩
 |false=>exact⟨μ1,σ3,G1,S1,sd.up u1,cS h1 fun _ _ z=>z.up u1⟩
def NX(T:Tab)(K:PySem.W.Frag)(μ:List Addr)(H:Hp)(Q:L2.St->Hp->Prop)(σ3:M3.St)(G':M3.Hh):Prop:=∀σ' H' μ',Up μ μ' H H'->Sim T K μ' H' G'->StD K H' μ' σ3 σ'->Q σ' H'
def tG(T:Tab)(K:PySem.W.Frag)(Y:EX)(g:M3.D->M3.St->M3.M M3.St):TG:=fun v σ H Q=>∃μ σ3 G d,Sim T K μ H G/\StD K H μ σ3 σ/\Den K H μ d v/\M3.run (g d σ3) G (NX T K μ H Q) (Y.x μ H)
def PG.of{tg:Expr}{t u:TG}(h:PG X tg t)(f:∀v σ H Q,u v σ H Q->t v σ H Q):PG X tg u:=fun pins s σ H v w Q I r q=>h pins s σ H v w Q I r (f v σ H Q q)
def AS(hN:X.N.Nodup)(hi:X.N[i]? =some x)(hx:Loc X.env.scope x)(hf:X.fn x=true\/X.env.scope.names.lookup x=some .local:=by first |exact .inl rfl |exact .inr rfl |assumption):PG X (.Name x pos) (tG T X.K Y (M3.gNm i)):=
 PG.of (vN hN hi hx hf) fun v σ H Q ⟨μ,σ3,G,d,S,sd,r,h⟩=>h _ H μ (Up.refl _ _) S (sd.set i r)
def tGs(K:PySem.W.Frag)(is:List Nat):TGs:=fun vs σ H Q=>∃μ σ3 ds σ3',StD K H μ σ3 σ/\ay K H μ ds vs/\M3.nM is ds σ3=some σ3'/\∀σ',StD K H μ σ3' σ'->Q σ' H
def PGs.of{ts:List Expr}{t u:TGs}(h:PGs X ts t)(f:∀v σ H Q,u v σ H Q->t v σ H Q):PGs X ts u:=fun pins s σ H v w Q I r q=>h pins s σ H v w Q I r (f v σ H Q q)
def IC:PGs X [] (tGs X.K []):=by
 refine PGs.of Hk fun vs σ H Q ⟨μ,σ3,ds,σ3',sd,r,e,h⟩=>?_;cases ds with
 |nil=>cases e;exact⟨r,h σ sd⟩
 |cons d t=>cases e
def uD(hN:X.N.Nodup)(hi:X.N[i]? =some x)(hx:Loc X.env.scope x)(ht:PGs X ts (tGs X.K is))(hf:X.fn x=true\/X.env.scope.names.lookup x=some .local:=by first |exact .inl rfl |exact .inr rfl |assumption)
 (hs:(assignEach (.Name x pos :: ts) X.env).map (·.2)=assign (.Name x pos) X.env :: (assignEach ts X.env).map (·.2):=by rfl):PGs X (.Name x pos :: ts) (tGs X.K (i :: is)):=by
 refine PGs.of (D6 (vN hN hi hx hf) ht hs) fun vs σ H Q ⟨μ,σ3,ds,σ3',sd,r,e,h⟩=>?_;cases ds with
 |nil=>cases e
 |cons d t=>obtain⟨v,rv,rfl,d1,d2⟩:=r;exact⟨v,rv,rfl,μ,σ3.set i (some d),t,σ3',sd.set i d1,d2,e,h⟩
theorem qS:∀{is:List Nat} {ds:List M3.D} {σ σ':M3.St},M3.nM is ds σ=some σ'->ds.length=is.length
 | [],[],_,_,_=>rfl
 | [],_ :: _,_,_,h=>by cases h
 |_ :: _,[],_,_,h=>by cases h
 |i :: r,d :: t,_,_,h=>by
  have:=qS (is:=r) (ds:=t) h;simp [this]
def Lg{ts:List Expr}{k:Nat}{is:List Nat}(hc:X.calm=true)(h:PGs X ts (tGs X.K is))(hn:(assignEach ts X.env).length=is.length:=by rfl)(HE:(assignEach ts X.env).findIdx? (·.1)=none:=by rfl):PG X (.Tuple ts k pos) (tG T X.K Y (M3.gUn is)):=by
 refine PG.of (Kk hc h hn HE) fun v σ H Q ⟨μ,σ3,G,d,S,sd,r,h⟩=>?_;cases d with
 |tup ds=>
  obtain⟨a,vs,rfl,sq,r⟩:=r;unfold M3.gUn at h;dsimp only at h;cases q:M3.nM is ds σ3 with
  |none=>rw[q]at h;cases h
  |some σ3'=>rw[q]at h;refine⟨a,vs,rfl,sq,by rw[<-r.length];exact qS q,μ,σ3,ds,σ3',sd,r,q,fun σ' wu=>h σ' H μ (Up.refl _ _) S wu⟩
 |_=>cases h
def ML{tg:Expr}{is:List Nat}(he:PE X e (tE T X.K Y fa))(hg:PG X tg (tG T X.K Y (M3.gUn is)))(hs:swapsWithSole [tg] e pos.line X.env=pure false:=by rfl)(hw:swappedStores [tg] e X.env=pure none:=by rfl)
 (h1:(assignEach [tg] X.env).map (·.2)=[assign tg X.env]:=by rfl):PS X (.Assign [tg] e pos) (tS T X.K Y (M3.sUn is fa)):=by
 refine PS.of (Ed he hg hs hw h1) fun D σ H ⟨μ,σ3,G,S,sd,h⟩=>⟨μ,σ3,G,S,sd,bj h fun d G1 v H1 μ1 u1 S1 d1 h1=>?_⟩;refine⟨μ1,σ3,G1,d,S1,sd.up u1,d1,cS (M3.aN h1) fun σ4 G2 q σ' H' μ' u' S' wu=>?_⟩;exact q σ' H' μ' (u1.trans u') S' wu
def lG{Z:Nat->M3.Hh->Prop}{c:Prop} [Decidable c]{α:Type}{m:M3.M α}{G:M3.Hh}{P:α->M3.Hh->Prop}(h:M3.run (if c then m else M3.fail) G P Z):c/\M3.run m G P Z:=by
 by_cases hc:c
 · rw[if_pos hc]at h;exact⟨hc,h⟩
 · rw[if_neg hc]at h;cases h
def GU:OpR X (binaryOp .Sub) (rI0 fun i j=>.int (i - j))/\Br2 T X.K Y M3.yH (rI0 fun i j=>.int (i - j)):=⟨KI,by
 intro μ H G x y v w Q S dx dy h;cases x with
 |int i=>cases y with
  |int j=>exact⟨i,j,dx,dy,h _ H μ (Up.refl _ _) S rfl⟩
  |_=>cases h
 |_=>exact False.elim h⟩
def wW(h:M3.small i=true):-(2 ^ 64) < i/\i < 2 ^ 64:=of_decide_eq_true h
def GK:OpR X (binaryOp .Mult) (fun x y H Q=>∃s k,x= .str s/\y= .int k/\(0<=k/\k<=1000/\s.length<=1000)/\Q (.str (Txt.mul s k)) H):=by
 intro pins s σ H x y v u Q I rx ry h;obtain⟨z,k,rfl,rfl,⟨h0,h1,h2⟩,q⟩:=h;obtain⟨t,rfl⟩:=rx;obtain⟨t',rfl⟩:=ry;refine SB.mul ⟨?_,fun _ _=>?_,fun _ _=>?_⟩ fun t' tk=>⟨.str _,H,I.tok _,⟨_,rfl⟩,q⟩
 · rw[qa_ (by omega),qa_ (by omega)];rfl
 · rename_i hk _;have BW:0 < k:=(by omega);have h3:(z.length:Int)*k<=1000*1000:=Int.mul_le_mul (by omega) h1 h0 (by decide);have:=Int.le_ediv_of_mul_le BW (show (z.length:Int)*k<=2 ^ 63 - 1 by omega);omega
 · have h3:z.length*k.toNat<=1000*1000:=Nat.mul_le_mul h2 (by omega);have h4:sizeLine=16777216:=sizeLine_eq;show decide (z.length*k.toNat > sizeLine)=false;exact qa_ (by omega)
def IE:R2:=fun x y H Q=>rI Ff (fun i j=>.int (i*j)) x y H Q\/((∃s k,x= .str s/\y= .int k/\(0<=k/\k<=1000/\s.length<=1000)/\Q (.str (Txt.mul s k)) H)\/Nr x y H Q)
theorem ay.rep{K:PySem.W.Frag}{H:Hp}{μ:List Addr}{ds:List M3.D}{vs:List V}(h:ay K H μ ds vs):∀k:Nat,ay K H μ (List.replicate k ds).flatten (List.replicate k vs).flatten
 |0=>rfl
 |k+1=>by
  rw[List.replicate_succ,List.replicate_succ,List.flatten_cons,List.flatten_cons];exact h.append (ay.rep h k)
def FZ:OpR X (binaryOp .Mult) IE/\Br2 T X.K Y M3.eN IE:=⟨Kv.or (GK.or IU),by
 intro μ H G x y v w Q S dx dy h;cases x with
 |int i=>cases y with
  |int j=>
   obtain⟨c,h⟩:=lG (c:=(M3.small i||M3.small j)=true) h;refine .inl ⟨i,j,dx,dy,?_,h _ H μ (Up.refl _ _) S rfl⟩;rcases Bool.or_eq_true _ _ |>.mp c with c |c
   · exact .inl (wW c)
   · exact .inr (wW c)
  |_=>cases h
 |str s=>cases y with
  |int k=>obtain⟨c,h⟩:=lG (c:=0<=k/\k<=1000/\s.length<=1000) h;exact .inr (.inl ⟨s,k,dx,dy,c,h _ H μ (Up.refl _ _) S rfl⟩)
  |_=>cases h
 |ref n=>cases y with
  |int k=>
   unfold M3.run M3.eN at h;dsimp only at h;cases q1:G[n]? with
   |none=>rw[q1]at h;cases h
   |some o1=>
    cases o1 with
    |lst xs=>
     rw[q1]at h;dsimp only at h;by_cases c:0<=k/\k<=1000000/\xs.length*k.toNat<=M3.aw
     · rw[if_pos c]at h;obtain⟨c1,c2,c3⟩:=c;obtain⟨p,ep,rfl⟩:=dx;obtain⟨vs,hp,rp⟩:=S.obj n p _ ep q1;refine .inr (.inr ⟨p,k,vs,rfl,dy,hp,by omega,by omega,by rw[<-rp.length,<-cM];exact c3,fun t ht=>?_⟩);have u2:=Up.new (μ:=μ) (.lst (List.replicate k.toNat vs).flatten) ht;refine h _ _ (μ++[t]) u2 (S.new ht rfl ⟨_,aH,ay.up u2 (rp.rep k.toNat)⟩) ⟨t,?_,rfl⟩;rw[<-S.len];simp
     · rw[if_neg c]at h;cases h
    |_=>rw[q1]at h;cases h
  |_=>cases h
 |_=>exact False.elim h⟩
def Gq:OpR X (binaryOp .Mod) (rI (fun _ j=>0 < j) fun i j=>.int (i % j))/\Br2 T X.K Y M3.oMod (rI (fun _ j=>0 < j) fun i j=>.int (i % j)):=⟨JX,by
 intro μ H G x y v w Q S dx dy h;cases x with
 |int i=>cases y with
  |int j=>obtain⟨c,h⟩:=lG (c:=0 < j) h;exact⟨i,j,dx,dy,c,h _ H μ (Up.refl _ _) S rfl⟩
  |_=>cases h
 |_=>exact False.elim h⟩
def HZ(K:PySem.W.Frag):R2:=fun x y H Q=>rI0 (fun i j=>.int (i+j)) x y H Q\/(fun x y H Q=>(∃i j,x= .str i/\y= .str j/\i.length+j.length<=sizeLine/\Q (.str (i++j)) H)\/(fun x y H Q=>II K x y H Q\/MP x y H Q) x y H Q) x y H Q
def Hb:OpR X (binaryOp .Add) (HZ X.K)/\Br2 T X.K Y M3.eM (HZ X.K):=⟨Jg.or (yI.or (FD.or Jt)),by
 intro μ H G x y v w Q S dx dy h;cases x with
 |int i=>cases y with
  |int j=>exact .inl ⟨i,j,dx,dy,h _ H μ (Up.refl _ _) S rfl⟩
  |_=>cases h
 |str p=>cases y with
  |str q=>obtain⟨c,h⟩:=lG (c:=p.length+q.length<=M3.aw) h;exact .inr (.inl ⟨p,q,dx,dy,by rw[<-cM];exact c,h _ H μ (Up.refl _ _) S rfl⟩)
  |_=>cases h
 |tup ds=>cases y with
  |tup es=>
   obtain⟨⟨c1,c2⟩,h⟩:=lG (c:=ds≠ []/\ds.length+es.length<=M3.aw) h;obtain⟨p,vs,rfl,sp,rp⟩:=dx;obtain⟨q,ws,rfl,sq,rq⟩:=dy;refine .inr (.inr (.inl ⟨p,q,vs,ws,rfl,rfl,sp,sq,?_,by rw[<-rp.length,<-rq.length,<-cM];exact c2,fun z=>?_,fun z t ht=>?_⟩))
   · intro z;subst z;cases ds with
     |nil=>exact c1 rfl
     |cons d t=>obtain⟨_,_,e,_⟩:=rp;cases e
   · subst z;refine h _ H μ (Up.refl _ _) S ⟨p,vs,rfl,sp,?_⟩;have:es=[]:=by
      have:=rq.length;cases es with
      |nil=>rfl
      |cons _ _=>simp at this
     subst this;rw[qY_];exact rp
   · have u2:Up μ μ H (upd H t (.tup (vs++ws))):=Up.same (gH.new _ ht);exact h _ _ μ u2 (S.same (gH.new _ ht)) ⟨t,_,rfl,SqT.of aH,ay.up u2 (rp.append rq)⟩
  |_=>cases h
 |ref i=>cases y with
  |ref j=>
   unfold M3.run M3.eM at h;dsimp only at h;cases q1:G[i]? with
   |none=>rw[q1]at h;cases h
   |some o1=>
    cases o1 with
    |lst xs=>
     cases q2:G[j]? with
     |none=>rw[q1,q2]at h;cases h
     |some o2=>
      cases o2 with
      |lst ys=>
       rw[q1,q2]at h;dsimp only at h;by_cases c:xs.length+ys.length<=M3.aw
       · rw[if_pos c]at h;obtain⟨p,ep,rfl⟩:=dx;obtain⟨q,eq,rfl⟩:=dy;obtain⟨vs,hp,rp⟩:=S.obj i p _ ep q1;obtain⟨ws,hq,rq⟩:=S.obj j q _ eq q2;refine .inr (.inr (.inr ⟨p,q,vs,ws,rfl,rfl,hp,hq,by rw[<-rp.length,<-rq.length,<-cM];exact c,fun t ht=>?_⟩));have u2:=Up.new (μ:=μ) (.lst (vs++ws)) ht;refine h _ _ (μ++[t]) u2 (S.new ht rfl ⟨_,aH,ay.up u2 (rp.append rq)⟩) ⟨t,?_,rfl⟩;rw[<-S.len];simp
       · rw[if_neg c]at h;cases h
      |_=>rw[q1,q2]at h;cases h
    |_=>rw[q1]at h;cases h
  |_=>cases h
 |_=>exact False.elim h⟩
def Ll:OpR X (compareOp .LtE) (rI0 fun i j=>.bl (decide (i<=j)))/\Br2 T X.K Y M3.oLe (rI0 fun i j=>.bl (decide (i<=j))):=⟨Mu,by
 intro μ H G x y v w Q S dx dy h;cases x with
 |int i=>cases y with
  |int j=>exact⟨i,j,dx,dy,h _ H μ (Up.refl _ _) S rfl⟩
  |_=>cases h
 |_=>exact False.elim h⟩
def J9:OpR X (compareOp .GtE) (rI0 fun i j=>.bl (decide (j<=i)))/\Br2 T X.K Y M3.oGe (rI0 fun i j=>.bl (decide (j<=i))):=⟨Ni,by
 intro μ H G x y v w Q S dx dy h;cases x with
 |int i=>cases y with
  |int j=>exact⟨i,j,dx,dy,h _ H μ (Up.refl _ _) S rfl⟩
  |_=>cases h
 |_=>exact False.elim h⟩
theorem fW:∀{ds:List M3.D} {ns:List Int},M3.intsOf ds=some ns->ds=ns.map M3.D.int
 | [],_,h=>by cases h;rfl
 |d :: r,ns,h=>by
  cases d with
  |int i=>
   have h:(M3.intsOf r).map (i :: ·)=some ns:=h;cases q:M3.intsOf r with
   |none=>rw[q]at h;cases h
   |some m=>rw[q]at h;cases h;rw[fW q];rfl
  |_=>cases h
theorem uC:∀(a b:List Int),M3.sU a b=HT.lexLt a b
 | [],[]=>rfl
 | [],_ :: _=>rfl
 |_ :: _,[]=>rfl
 |a :: r,b :: t=>by
  show (if a=b then M3.sU r t else decide (a < b))=if a=b then HT.lexLt r t else decide (a < b);rw[uC r t]
def Fy(K:PySem.W.Frag):R2:=fun x y H Q=>rI0 (fun i j=>.bl (decide (i < j))) x y H Q\/Np K x y H Q
def KO(hu:X.A.units < cLine):OpR X (compareOp .Lt) (Fy X.K)/\Br2 T X.K Y M3.oLt (Fy X.K):=⟨Mw.or (Lv hu),by
 intro μ H G x y v w Q S dx dy h;cases x with
 |int i=>cases y with
  |int j=>exact .inl ⟨i,j,dx,dy,h _ H μ (Up.refl _ _) S rfl⟩
  |_=>cases h
 |tup ds=>cases y with
  |tup es=>
   unfold M3.oLt at h;dsimp only at h;cases q1:M3.intsOf ds with
   |none=>rw[q1]at h;cases h
   |some m=>
    cases q2:M3.intsOf es with
    |none=>rw[q1,q2]at h;cases h
    |some n=>rw[q1,q2]at h;rw[fW q1]at dx;rw[fW q2]at dy;obtain⟨p,vs,rfl,sp,rp⟩:=dx;obtain⟨q,ws,rfl,sq,rq⟩:=dy;rw[ay.ints rp]at sp;rw[ay.ints rq]at sq;refine .inr ⟨p,q,m,n,rfl,rfl,sp,sq,?_⟩;rw[<-uC];exact h _ H μ (Up.refl _ _) S rfl
  |_=>cases h
 |_=>exact False.elim h⟩
end
open PySem PySem.Spec PyProof.Rows L2 PySem.SeqAt
section
variable{X:Cx}{T:Tab}{Y:EX}{pins:List (Addr×Obj)}{σ:L2.St}{H:Hp}{s:Shared}{μ:List Addr}{G:M3.Hh}
theorem om{f:M3.D->M3.D->Option Bool}:∀{xs ys:List M3.D} {b:Bool},M3.eqZ f xs ys=some b->∃e:Nat->Bool,(∀(j:Nat) x y,xs[j]? =some x->ys[j]? =some y->f x y=some (e j))/\b=(List.range (min xs.length ys.length)).all e
 | [],ys,b,h=>⟨fun _=>true,(fun j x y h=>by simp at h),by cases ys <;> (cases h;simp)⟩
 |x :: xs,[],b,h=>⟨fun _=>true,(fun j x y _ h=>by simp at h),by cases h;simp⟩
 |x :: xs,y :: ys,b,h=>by
  unfold M3.eqZ at h;cases q:f x y with
  |none=>rw[q]at h;cases h
  |some p=>
   cases q2:M3.eqZ f xs ys with
   |none=>rw[q,q2]at h;cases h
   |some r=>
    rw[q,q2]at h;cases h;obtain⟨e,h1,h2⟩:=om q2;refine⟨fun j=>match j with
     |0=>p
     |j+1=>e j,fun j a b e1 e2=>?_,?_⟩
    · cases j with
      |zero=>simp at e1 e2;subst e1 e2;exact q
      |succ j=>exact h1 j a b (by simpa using e1) (by simpa using e2)
    · rw[h2];simp only[List.length_cons,Nat.succ_min_succ,List.range_succ_eq_map,List.all_cons,List.all_map];rfl
def zM(I:Inv X pins σ H s)(h1:SqL X.K H a vs)(h2:SqT X.K H a ws):False:=by
 obtain⟨aJ,_,⟨o,n,e,c,_⟩,_⟩:=I.list h1;obtain⟨pI,_,⟨o2,e2,c2,_⟩,_⟩:=I.tuple h2;rw[e]at e2;cases e2;rw[c]at c2
 injection c2 with c3
 exact absurd c3 (by decide)
def eD(S:Sim T X.K μ H G)(e:μ[n]? =some a)(h:M3.listOf G n=some xs):∃vs,SqL X.K H a vs/\ay X.K H μ xs vs:=by
 unfold M3.listOf at h;cases q:G[n]? with
 |none=>rw[q]at h;cases h
 |some o=>
  rw[q]at h;have ob:=S.obj n a o e q;cases o with
  |lst ys=>cases h;obtain⟨vs,e1,r⟩:=ob;exact⟨vs,SqL.of e1,r⟩
  |frz ys=>cases h;obtain⟨vs,e1,r⟩:=ob;exact⟨vs,e1.sq,r⟩
  |_=>cases h
def sc:V->Option M3.D
 | .non=>some .non
 | .bl b=>some (.bl b)
 | .int i=>some (.int i)
 | .str x=>some (.str x)
 |_=>none
def lq{K:PySem.W.Frag}{x d:M3.D}{v:V}(h:Den K H μ x v)(e:sc v=some d):x=d:=by
 cases x with
 |non=>cases (show v= .non from h);cases e;rfl
 |bl b=>cases (show v= .bl b from h);cases e;rfl
 |int i=>cases (show v= .int i from h);cases e;rfl
 |str z=>cases (show v= .str z from h);cases e;rfl
 |ref n=>obtain⟨a,_,rfl⟩:=h;cases e
 |tup ds=>obtain⟨a,vs,rfl,_⟩:=h;cases e
def gf{K:PySem.W.Frag}{x:M3.D}{v:V}(h:Den K H μ x v)(e:sc v=none):(∃n a,x= .ref n/\v= .ref a/\μ[n]? =some a)\/∃ds a vs,x= .tup ds/\v= .ref a/\SqT K H a vs/\ay K H μ ds vs:=by
 cases x with
 |non=>cases (show v= .non from h);cases e
 |bl b=>cases (show v= .bl b from h);cases e
 |int i=>cases (show v= .int i from h);cases e
 |str z=>cases (show v= .str z from h);cases e
 |ref n=>obtain⟨a,e1,rfl⟩:=h;exact .inl ⟨n,a,rfl,rfl,e1⟩
 |tup ds=>obtain⟨a,vs,rfl,h1,h2⟩:=h;exact .inr ⟨ds,a,vs,rfl,rfl,h1,h2⟩
def Ic{k:Nat}{v w:V}{d y:M3.D}{b:Bool}(dy:Den X.K H μ y w)(hv:sc v=some d)(hw:sc w=none)(h:M3.eqG G k d y=some b):b=false:=by
 cases k with
 |zero=>cases h
 |succ k=>rcases gf dy hw with ⟨n,a,rfl,rfl,_⟩ |⟨ds,a,vs,rfl,rfl,_⟩ <;> cases v <;> (try cases hv) <;> (try cases h) <;> rfl
def Ii{k:Nat}{v w:V}{d y:M3.D}{b:Bool}(dy:Den X.K H μ y w)(hv:sc v=some d)(hw:sc w=none)(h:M3.eqG G k y d=some b):b=false:=by
 cases k with
 |zero=>cases h
 |succ k=>rcases gf dy hw with ⟨n,a,rfl,rfl,_⟩ |⟨ds,a,vs,rfl,rfl,_⟩ <;> cases v <;> (try cases hv) <;> (try cases h) <;> rfl
def kW(h:M3.eqG G (k+1) (.ref n) (.ref m)=some b):∃xs ys,M3.listOf G n=some xs/\M3.listOf G m=some ys/\(if xs.length=ys.length then M3.eqZ (M3.eqG G k) xs ys else some false)=some b:=by
 have h:(match M3.listOf G n,M3.listOf G m with
  |some a,some b=>if a.length=b.length then M3.eqZ (M3.eqG G k) a b else some false
  |_,_=>none)=some b:=h
 cases q1:M3.listOf G n with
 |none=>rw[q1]at h;cases h
 |some xs=>
  cases q2:M3.listOf G m with
  |none=>rw[q1,q2]at h;cases h
  |some ys=>rw[q1,q2]at h;exact⟨xs,ys,rfl,rfl,h⟩
def nZ{ds es:List M3.D}(h:M3.eqG G (k+1) (.tup ds) (.tup es)=some b):∃p,M3.eqZ (M3.eqG G k) ds es=some p/\b=(p&&decide (ds.length=es.length)):=by
 have h:(M3.eqZ (M3.eqG G k) ds es).map (·&&decide (ds.length=es.length))=some b:=h;cases q:M3.eqZ (M3.eqG G k) ds es with
 |none=>rw[q]at h;cases h
 |some p=>rw[q]at h;cases h;exact⟨p,rfl,rfl⟩
theorem Dz(I:Inv X pins σ H s)(S:Sim T X.K μ H G):∀(k:Nat) {x y x' y':M3.D} {v w:V} {b b':Bool},Den X.K H μ x v->Den X.K H μ x' v->Den X.K H μ y w->Den X.K H μ y' w->
 M3.eqG G k x y=some b->M3.eqG G k x' y'=some b'->b=b'
 |0,_,_,_,_,_,_,_,_,_,_,_,_,h,_=>by cases h
 |k+1,x,y,x',y',v,w,b,b',dx,LJ,dy,Mm,h,h'=>by
  have items:∀{xs LN ys LS:List M3.D} {vs ws:List V} {p q:Bool},ay X.K H μ xs vs->ay X.K H μ LN vs->ay X.K H μ ys ws->ay X.K H μ LS ws->M3.eqZ (M3.eqG G k) xs ys=some p->M3.eqZ (M3.eqG G k) LN LS=some q->p=q:=by
   intro xs LN ys LS vs ws p q r1 r2 r3 r4 e1 e2;obtain⟨f,hf,rfl⟩:=om e1;obtain⟨g,hg,rfl⟩:=om e2;have l1:=r1.length;have l2:=r2.length;have l3:=r3.length;have l4:=r4.length;rw[show min LN.length LS.length=min xs.length ys.length by omega];have key:∀j∈List.range (min xs.length ys.length),f j=g j:=by intro j hj;have hj:=List.mem_range.mp hj;have j1:j < xs.length:=(by omega);have j2:j < ys.length:=(by omega);have j3:j < LN.length:=(by omega);have j4:j < LS.length:=(by omega);obtain⟨v1,a1,d1⟩:=r1.get (qA_ j1);obtain⟨v2,a2,d2⟩:=r2.get (qA_ j3);obtain⟨v3,a3,d3⟩:=r3.get (qA_ j2);obtain⟨v4,a4,d4⟩:=r4.get (qA_ j4);rw[a1]at a2;cases a2;rw[a3]at a4;cases a4;exact Dz I S k d1 d2 d3 d4 (hf j _ _ (qA_ j1) (qA_ j2)) (hg j _ _ (qA_ j3) (qA_ j4))
   generalize List.range (min xs.length ys.length)=L at key
   induction L with
   |nil=>rfl
   |cons j r ih=>rw[List.all_cons,List.all_cons,key j qI_,ih fun i hi=>key i (qR_ _ hi)]
  cases hv:sc v with
  |some d1=>
   have e1:=lq dx hv;have e2:=lq LJ hv;cases hw:sc w with
   |some d2=>have e3:=lq dy hw;have e4:=lq Mm hw;subst e1 e2 e3 e4;rw[h]at h';cases h';rfl
   |none=>subst e1 e2;rw[Ic dy hv hw h,Ic Mm hv hw h']
  |none=>
   cases hw:sc w with
   |some d2=>have e3:=lq dy hw;have e4:=lq Mm hw;subst e3 e4;rw[Ii dx hw hv h,Ii LJ hw hv h']
   |none=>
    rcases gf dx hv with ⟨n,a,rfl,rfl,en⟩ |⟨ds,a,vs,rfl,rfl,sq,r⟩
    · rcases gf dy hw with ⟨m,c,rfl,rfl,em⟩ |⟨es,c,ws,rfl,rfl,E7,r2⟩
      · obtain⟨xs,ys,l1,l2,h⟩:=kW h;obtain⟨V4,q1,r1⟩:=eD S en l1;obtain⟨EY,q2,r2⟩:=eD S em l2;rcases gf LJ hv with ⟨n',a',rfl,ea,en'⟩ |⟨ds',a',vs',rfl,ea,sq',r'⟩
        · cases ea;rcases gf Mm hw with ⟨m',c',rfl,ec,OL⟩ |⟨L0,c',ws',rfl,ec,sq2',Ma⟩
          · cases ec;obtain⟨LN,LS,Q7,TM,h'⟩:=kW h';obtain⟨QZ,SO,Sk⟩:=eD S en' Q7;obtain⟨UU,Vu,Ma⟩:=eD S OL TM;cases I.lF q1 SO;cases I.lF q2 Vu;have z1:=r1.length;have z2:=Sk.length;have z3:=r2.length;have z4:=Ma.length;by_cases c:xs.length=ys.length
            · rw[if_pos c]at h;rw[if_pos (by omega)]at h';exact items r1 Sk r2 Ma h h'
            · rw[if_neg c]at h;rw[if_neg (by omega)]at h';cases h;cases h';rfl
          · cases h'
        · cases ea;exact(zM I q1 sq').elim
      · cases h
    · rcases gf dy hw with ⟨m,c,rfl,rfl,em⟩ |⟨es,c,ws,rfl,rfl,E7,r2⟩
      · cases h
      · obtain⟨p,hz,rfl⟩:=nZ h;rcases gf LJ hv with ⟨n',a',rfl,ea,en'⟩ |⟨ds',a',vs',rfl,ea,sq',r'⟩
        · cases ea;rcases gf Mm hw with ⟨m',c',rfl,ec,OL⟩ |⟨L0,c',ws',rfl,ec,sq2',Ma⟩
          · obtain⟨LN,LS,Q7,TM,h'⟩:=kW h';obtain⟨QZ,SO,Sk⟩:=eD S en' Q7;exact(zM I SO sq).elim
          · cases h'
        · cases ea;rcases gf Mm hw with ⟨m',c',rfl,ec,OL⟩ |⟨L0,c',ws',rfl,ec,sq2',Ma⟩
          · cases h'
          · cases ec;obtain⟨p',RO,rfl⟩:=nZ h';cases I.ma sq sq';cases I.ma E7 sq2';have z1:=r.length;have z2:=r'.length;have z3:=r2.length;have z4:=Ma.length;rw[items r r' r2 Ma hz RO,z1,z2,z3,z4]
theorem uQ(I:Inv X pins σ H s)(S:Sim T X.K μ H G):∀(k:Nat) {x y:M3.D} {v:V} {b:Bool},Den X.K H μ x v->Den X.K H μ y v->M3.eqG G k x y=some b->b=true
 |0,_,_,_,_,_,_,h=>by cases h
 |k+1,x,y,v,b,dx,dy,h=>by
  have items:∀{xs ys:List M3.D} {vs:List V} {p:Bool},ay X.K H μ xs vs->ay X.K H μ ys vs->M3.eqZ (M3.eqG G k) xs ys=some p->p=true:=by intro xs ys vs p r1 r2 e1;obtain⟨f,hf,rfl⟩:=om e1;rw[List.all_eq_true];intro j hj;have hj:=List.mem_range.mp hj;have j1:j < xs.length:=(by omega);have j2:j < ys.length:=(by omega);obtain⟨v1,a1,d1⟩:=r1.get (qA_ j1);obtain⟨v2,a2,d2⟩:=r2.get (qA_ j2);rw[a1]at a2;cases a2;exact uQ I S k d1 d2 (hf j _ _ (qA_ j1) (qA_ j2))
  cases hv:sc v with
  |some d=>
   have e1:=lq dx hv;have e2:=lq dy hv;subst e1 e2;cases v with
   |non=>cases hv;cases h;rfl
   |bl c=>cases hv;cases h;simp
   |int c=>cases hv;cases h;simp
   |str c=>cases hv;cases h;simp
   |_=>cases hv
  |none=>
   rcases gf dx hv with ⟨n,a,rfl,rfl,en⟩ |⟨ds,a,vs,rfl,rfl,sq,r⟩
   · rcases gf dy hv with ⟨m,c,rfl,ec,em⟩ |⟨es,c,ws,rfl,ec,E7,r2⟩
     · cases ec;obtain⟨xs,ys,l1,l2,h⟩:=kW h;obtain⟨V4,q1,r1⟩:=eD S en l1;obtain⟨EY,q2,r2⟩:=eD S em l2;cases I.lF q1 q2;rw[if_pos (r1.length.trans r2.length.symm)]at h;exact items r1 r2 h
     · cases h
   · rcases gf dy hv with ⟨m,c,rfl,ec,em⟩ |⟨es,c,ws,rfl,ec,E7,r2⟩
     · cases h
     · cases ec;obtain⟨p,hz,rfl⟩:=nZ h;cases I.ma sq E7;rw[items r r2 hz,qZ_ (r.length.trans r2.length.symm)];rfl
def vR{K:PySem.W.Frag}{ds:List M3.D}{vs:List V}{aJ:List Value}(r:ay K H μ ds vs)(q:Vals vs aJ){j:Nat}(h:j < aJ.toArray.size):∃d v,ds[j]? =some d/\Den K H μ d v/\RelV v aJ.toArray[j]:=by
 have hl:j < aJ.length:=by simpa using h
 have h2:j < vs.length:=by rw[q.length];exact hl
 obtain⟨u,e,rv⟩:=q.get (qA_ h2);obtain⟨d,e1,r1⟩:=r.get' (qA_ h2);refine⟨d,_,e1,r1,?_⟩;rw[qA_ hl]at e;cases e
 simpa using rv
theorem xR(I:Inv X pins σ H s)(S:Sim T X.K μ H G):∀(k:Nat) {x y:M3.D} {v w:V} {u u':Value} {b:Bool} {A:Around},A.units+k < cLine->Den X.K H μ x v->Den X.K H μ y w->RelV v u->RelV w u'->M3.eqG G k x y=some b->
 EqAt A s u u' b/\RcAt A s u u' b/\RcNeAt A s u u' (!b)
 |0,_,_,_,_,_,_,_,_,_,_,_,_,_,h=>by cases h
 |k+1,x,y,v,w,u,u',b,A,hu,dx,dy,ru,ru',h=>by
  have wq:A.units < cLine:=by omega
  have Pe:A.in1.units+k < cLine:=by show A.units+1+k < cLine;omega
  have items:∀{xs ys:List M3.D} {vs ws:List V} {is js:List Value} {p:Bool},ay X.K H μ xs vs->ay X.K H μ ys ws->Vals vs is->Vals ws js->M3.eqZ (M3.eqG G k) xs ys=some p->
   ∃e:Nat->Bool,(∀j (h1:j < is.toArray.size) (h2:j < js.toArray.size),EqAt A.in1 s is.toArray[j] js.toArray[j] (e j))/\p=(List.range (min is.toArray.size js.toArray.size)).all e:=by
   intro xs ys vs ws is js p r1 r2 q1 q2 hz;obtain⟨e,he,rfl⟩:=om hz;refine⟨e,fun j h1 h2=>?_,?_⟩
   · obtain⟨d1,v1,a1,b1,c1⟩:=vR r1 q1 h1;obtain⟨d2,v2,a2,b2,c2⟩:=vR r2 q2 h2;exact(xR I S k Pe b1 b2 c1 c2 (he j _ _ a1 a2)).1
   · have l1:=r1.length;have l2:=r2.length;have l3:=q1.length;have l4:=q2.length;rw[show min is.toArray.size js.toArray.size=min xs.length ys.length by simp;omega]
  cases x with
  |non=>
   cases (show v= .non from dx);cases (show u=Value.none from ru);cases y with
   |non=>cases (show w= .non from dy);cases (show u'=Value.none from ru');cases h;exact⟨.same _,.none_none,.none_none⟩
   |int j=>cases (show w= .int j from dy);obtain⟨t,rfl⟩:=(show ∃t,u'=Value.int j t from ru');cases h;exact⟨.none_int _ _,.none_int _ _,.none_int _ _⟩
   |str j=>cases (show w= .str j from dy);obtain⟨t,rfl⟩:=(show ∃t,u'=Value.str j t from ru');cases h;exact⟨.none_str _ _,.none_str _ _,.none_str _ _⟩
   |tup es=>obtain⟨a,vs,rfl,sq,r⟩:=dy;cases (show u'=Value.ref a from ru');cases h;obtain⟨aJ,_,p,_⟩:=I.tuple sq;exact⟨.none_tuple p wq,.none_tuple p wq,.none_tuple p wq⟩
   |bl j=>cases h
   |ref j=>cases h
  |bl i=>
   cases (show v= .bl i from dx);cases (show u=Value.bool i from ru);cases y with
   |bl j=>cases (show w= .bl j from dy);cases (show u'=Value.bool j from ru');cases h;exact⟨.bool_bool _ _,.bool_bool _ _,.bool_bool _ _⟩
   |_=>cases h
  |int i=>
   cases (show v= .int i from dx);obtain⟨t,rfl⟩:=(show ∃t,u=Value.int i t from ru);cases y with
   |non=>cases (show w= .non from dy);cases (show u'=Value.none from ru');cases h;exact⟨.int_none _ _,.int_none _ _,.int_none _ _⟩
   |int j=>cases (show w= .int j from dy);obtain⟨t',rfl⟩:=(show ∃t,u'=Value.int j t from ru');cases h;rw[<-Bool.beq_eq_decide_eq];exact⟨.int_int _ _ _ _,.int_int _ _ _ _,.int_int _ _ _ _⟩
   |str j=>cases (show w= .str j from dy);obtain⟨t',rfl⟩:=(show ∃t,u'=Value.str j t from ru');cases h;exact⟨.int_str _ _ _ _,.int_str _ _ _ _,.int_str _ _ _ _⟩
   |tup es=>obtain⟨a,vs,rfl,sq,r⟩:=dy;cases (show u'=Value.ref a from ru');cases h;obtain⟨aJ,_,p,_⟩:=I.tuple sq;exact⟨.int_tuple _ _ p wq,.int_tuple _ _ p wq,.int_tuple _ _ p wq⟩
   |bl j=>cases h
   |ref j=>cases h
  |str i=>
   cases (show v= .str i from dx);obtain⟨t,rfl⟩:=(show ∃t,u=Value.str i t from ru);cases y with
   |non=>cases (show w= .non from dy);cases (show u'=Value.none from ru');cases h;exact⟨.str_none _ _,.str_none _ _,.str_none _ _⟩
   |str j=>cases (show w= .str j from dy);obtain⟨t',rfl⟩:=(show ∃t,u'=Value.str j t from ru');cases h;rw[show decide (i=j)=(i==j)from rfl];exact⟨.str_str _ _ _ _,.str_str _ _ _ _,.str_str _ _ _ _⟩
   |int j=>cases (show w= .int j from dy);obtain⟨t',rfl⟩:=(show ∃t,u'=Value.int j t from ru');cases h;exact⟨.str_int _ _ _ _,.str_int _ _ _ _,.str_int _ _ _ _⟩
   |tup es=>cases h
   |bl j=>cases h
   |ref j=>cases h
  |tup ds=>
   obtain⟨a,vs,rfl,sq,r⟩:=dx;cases (show u=Value.ref a from ru);obtain⟨is,q1,p1,_⟩:=I.tuple sq;cases y with
   |non=>cases (show w= .non from dy);cases (show u'=Value.none from ru');cases h;exact⟨.tuple_none p1 wq,.tuple_none p1 wq,.tuple_none p1 wq⟩
   |int j=>cases (show w= .int j from dy);obtain⟨t,rfl⟩:=(show ∃t,u'=Value.int j t from ru');cases h;exact⟨.tuple_int _ _ p1 wq,.tuple_int _ _ p1 wq,.tuple_int _ _ p1 wq⟩
   |tup es=>
    obtain⟨c,ws,rfl,E7,r2⟩:=dy;cases (show u'=Value.ref c from ru');obtain⟨js,q2,p2,_⟩:=I.tuple E7;obtain⟨p,hz,hb⟩:=nZ h;obtain⟨e,he,hp⟩:=items r r2 q1 q2 hz;have l1:=r.length;have l2:=r2.length;have l3:=q1.length;have l4:=q2.length;have E9:b=((List.range (min is.toArray.size js.toArray.size)).all e&&is.toArray.size==js.toArray.size):=by rw[hb,hp];congr 1;rw[Bool.beq_eq_decide_eq];exact decide_eq_decide.mpr (by simp;omega)
    have rc:RcAt A s (.ref a) (.ref c) b:=by rw[E9];exact .tuples p1 p2 wq he
    have rn:RcNeAt A s (.ref a) (.ref c) (!b):=by rw[E9];exact .tuples p1 p2 wq he
    refine⟨?_,rc,rn⟩;by_cases hac:a=c
    · subst hac;have d2:Den X.K H μ (.tup ds) (.ref a):=⟨a,vs,rfl,sq,r⟩;have d3:Den X.K H μ (.tup es) (.ref a):=⟨a,ws,rfl,E7,r2⟩;rw[uQ I S (k+1) d2 d3 h];exact .same _
    · exact .of_refs hac rc
   |_=>cases h
  |ref n=>
   cases y with
   |ref m=>
    obtain⟨xs,ys,l1,l2,hz⟩:=kW h;obtain⟨a,ea,rfl⟩:=id dx;obtain⟨c,ec,rfl⟩:=id dy;cases (show u=Value.ref a from ru);cases (show u'=Value.ref c from ru');obtain⟨vs,sq,r⟩:=eD S ea l1;obtain⟨ws,E7,r2⟩:=eD S ec l2;obtain⟨is,q1,p1,_⟩:=I.list sq;obtain⟨js,q2,p2,_⟩:=I.list E7;have z1:=r.length;have z2:=r2.length;have z3:=q1.length;have z4:=q2.length;have two:RcAt A s (.ref a) (.ref c) b/\RcNeAt A s (.ref a) (.ref c) (!b):=by
     by_cases hl:xs.length=ys.length
     · rw[if_pos hl]at hz;obtain⟨e,he,hp⟩:=items r r2 q1 q2 hz;have hsz:is.toArray.size=js.toArray.size:=by simp;omega
       rw[show min is.toArray.size js.toArray.size=is.toArray.size by omega]at hp;rw[hp];exact⟨.lists p1.isList p2.isList hsz wq he,.lists p1.isList p2.isList hsz wq he⟩
     · rw[if_neg hl]at hz;cases hz;have hsz:(is.toArray.size !=js.toArray.size)=true:=by simp;omega
       exact⟨.lists_lengths p1.isList p2.isList hsz wq,.lists_lengths p1.isList p2.isList hsz wq⟩
    refine⟨?_,two.1,two.2⟩;by_cases hac:a=c
    · subst hac;rw[uQ I S (k+1) dx dy h];exact .same _
    · exact .of_refs hac two.1
   |_=>cases h
end
section
variable{X:Cx}{T:Tab}{Y:EX}
def sT(T:Tab)(K:PySem.W.Frag)(neg:Bool):R2:=fun v w H Q=>∃μ G x y b,Sim T K μ H G/\Den K H μ x v/\Den K H μ y w/\M3.eqG G 8 x y=some b/\Q (.bl (if neg then !b else b)) H
def KJ(hu:X.A.units+8 < cLine):OpR X (compareOp .Eq) (sT T X.K false):=by
 intro pins s σ H v w u u' Q I r r' h;obtain⟨μ,G,x,y,b,S,dx,dy,e,q⟩:=h;exact(xR I S 8 hu dx dy r r' e).2.1 _ _ _ _ ⟨.bl b,H,I,rfl,q⟩
def KY(hu:X.A.units+8 < cLine):OpR X (compareOp .NotEq) (sT T X.K true):=by
 intro pins s σ H v w u u' Q I r r' h;obtain⟨μ,G,x,y,b,S,dx,dy,e,q⟩:=h;exact(xR I S 8 hu dx dy r r' e).2.2 _ _ _ _ ⟨.bl (!b),H,I,rfl,q⟩
def IW(hu:X.A.units+8 < cLine):OpR X (compareOp .Eq) (sT T X.K false)/\Br2 T X.K Y M3.oEq (sT T X.K false):=⟨KJ hu,by
 intro μ H G x y v w Q S dx dy h;unfold M3.run M3.oEq at h;cases q:M3.eqG G 8 x y with
 |none=>rw[q]at h;cases h
 |some b=>
  rw[q]at h
  exact⟨μ,G,x,y,b,S,dx,dy,q,h _ H μ (Up.refl _ _) S rfl⟩⟩
def J2(hu:X.A.units+8 < cLine):OpR X (compareOp .NotEq) (sT T X.K true)/\Br2 T X.K Y M3.oNe (sT T X.K true):=⟨KY hu,by
 intro μ H G x y v w Q S dx dy h;unfold M3.run M3.oNe at h;cases q:M3.eqG G 8 x y with
 |none=>rw[q]at h;cases h
 |some b=>
  rw[q]at h
  exact⟨μ,G,x,y,b,S,dx,dy,q,h _ H μ (Up.refl _ _) S rfl⟩⟩
end
section
variable{X:Cx}{T:Tab}{Y:EX}{pins:List (Addr×Obj)}{σ:L2.St}{H:Hp}{s:Shared}{μ:List Addr}{G:M3.Hh}
open Classical in
noncomputable def eU(K:PySem.W.Frag)(H:Hp)(μ:List Addr)(G:M3.Hh)(x:M3.D)(u:Value):Bool:=
 if h:∃b d v,Den K H μ d v/\RelV v u/\M3.eqG G 8 d x=some b then h.choose else false
def NN(I:Inv X pins σ H s)(S:Sim T X.K μ H G)(dx:Den X.K H μ x w)(dd:Den X.K H μ d v)(r:RelV v u)(e:M3.eqG G 8 d x=some b):eU X.K H μ G x u=b:=by
 have h:∃b d v,Den X.K H μ d v/\RelV v u/\M3.eqG G 8 d x=some b:=⟨b,d,v,dd,r,e⟩;unfold eU;rw[dif_pos h];obtain⟨d',v',HI,r',e'⟩:=h.choose_spec;have hv:v'=v:=r'.inj r;subst hv;exact Dz I S 8 HI dd dx dx e' e
theorem EF(I:Inv X pins σ H s)(S:Sim T X.K μ H G){A:Around}(hu:A.units+8 < cLine)(dx:Den X.K H μ x w)(rx:RelV w u'):
 ∀{ys:List M3.D} {vs:List V} {aJ:List Value} {b:Bool},ay X.K H μ ys vs->Vals vs aJ->M3.xr G x ys=some b->(∀u∈aJ,EqAt A s u u' (eU X.K H μ G x u))/\aJ.any (eU X.K H μ G x)=b
 | [],_,_,_,r,q,h=>by
   cases (show _=[]from r);cases q;cases h;exact⟨fun u z=>(by cases z),rfl⟩
 |y :: ys,_,aJ,b,⟨v,vs,e,d,r⟩,q,h=>by
  subst e;cases q with
  |@cons _ u _ us rv q=>
   unfold M3.xr at h;cases e1:M3.eqG G 8 y x with
   |none=>rw[e1]at h;cases h
   |some p=>
    cases e2:M3.xr G x ys with
    |none=>rw[e1,e2]at h;cases h
    |some p2=>
     rw[e1,e2]at h;cases h;obtain⟨h1,h2⟩:=EF I S hu dx rx r q e2;have eu:=NN I S dx d rv e1;refine⟨fun u' zL=>?_,?_⟩
     · rcases qS_.mp zL with rfl |z
       · rw[eu];exact(xR I S 8 hu d dx rv rx e1).1
       · exact h1 u' z
     · rw[List.any_cons,eu,h2]
theorem uR{κ:Type} [DecidableEq κ]{K:PySem.W.Frag}:∀{kvs:List (κ×M3.D)} {ws:List (κ×V)} (k:κ),Paired (fun(p:κ×M3.D) (q:κ×V)=>p.1=q.1/\Den K H μ p.2 q.2) kvs ws->
 (M3.look kvs k=none/\kH ws k=none)\/∃d v,M3.look kvs k=some d/\kH ws k=some v/\Den K H μ d v
 |_,_,k,.nil=>.inl ⟨rfl,rfl⟩
 |(k1,d) :: kvs,(k2,v) :: ws,k,.cons ⟨h1,h2⟩ t=>by
  cases (show k1=k2 from h1);by_cases h:k1=k
  · subst h;exact .inr ⟨d,v,by simp [M3.look],by simp [kH],h2⟩
  · have e1:M3.look ((k1,d) :: kvs) k=M3.look kvs k:=(by simp [M3.look,h]);have e2:kH ((k1,v) :: ws) k=kH ws k:=(by simp [kH,h]);rw[e1,e2];exact uR k t
def wd{x:M3.D}{k:M3.Key}{K:PySem.W.Frag}{v:V}(h:M3.qW x=some k)(d:Den K H μ x v):v=kV k:=by
 cases x with
 |int i=>cases h;exact d
 |str z=>cases h;exact d
 |_=>cases h
end
section
variable{X:Cx}{T:Tab}{Y:EX}
def B1(T:Tab)(K:PySem.W.Frag)(neg:Bool):R2:=fun v w H Q=>∃μ G x y b,Sim T K μ H G/\Den K H μ x v/\Den K H μ y w/\M3.inG G x y=some b/\Q (.bl (if neg then !b else b)) H
def FH(hu:X.A.units+9 < cLine)(neg:Bool){pins:List (Addr×Obj)}{s:Shared}{σ:L2.St}{H:Hp}{v w:V}{u u':Value}{Q:VK}(I:Inv X pins σ H s)(r:RelV v u)(r':RelV w u')(h:B1 T X.K neg v w H Q):
 wpAny (model X.prog X.w) X.A (compareOp (if neg then .NotIn else .In) u u') (EP X pins σ Q) X.xe s:=by
 obtain⟨μ,G,x,y,b,S,dx,dy,e,q⟩:=h;have Pe:X.A.in1.units+8 < cLine:=by show X.A.units+1+8 < cLine;omega
 have lists:∀{a:Addr} {vs:List V} {ys:List M3.D},SqL X.K H a vs->ay X.K H μ ys vs->M3.xr G x ys=some b->u'= .ref a->wpAny (model X.prog X.w) X.A (compareOp (if neg then .NotIn else .In) u u') (EP X pins σ Q) X.xe s:=by
  intro a vs ys sq rs hm eu;subst eu;obtain⟨aJ,qv,p,_⟩:=I.list sq;obtain⟨h1,h2⟩:=EF I S Pe dx r rs qv hm;have h3:aJ.toArray.any (eU X.K H μ G x)=b:=by simpa using h2
  cases neg with
  |false=>exact in_listAt _ p.isList (fun y hy=>h1 y (by simpa using hy)) ⟨.bl b,H,I,by rw[h3];rfl,q⟩
  |true=>exact notIn_listAt _ p.isList (fun y hy=>h1 y (by simpa using hy)) ⟨.bl (!b),H,I,by rw[h3];rfl,q⟩
 cases y with
 |tup ys=>
  obtain⟨a,vs,rfl,sq,rs⟩:=dy;cases (show u'=Value.ref a from r');obtain⟨aJ,qv,p,_⟩:=I.tuple sq;obtain⟨h1,h2⟩:=EF I S Pe dx r rs qv e;have h3:aJ.toArray.any (eU X.K H μ G x)=b:=by simpa using h2
  cases neg with
  |false=>exact in_tupleAt _ p (fun y hy=>h1 y (by simpa using hy)) ⟨.bl b,H,I,by rw[h3];rfl,q⟩
  |true=>exact notIn_tupleAt _ p (fun y hy=>h1 y (by simpa using hy)) ⟨.bl (!b),H,I,by rw[h3];rfl,q⟩
 |ref n=>
  obtain⟨a,ea,rfl⟩:=dy;cases (show u'=Value.ref a from r');unfold M3.inG at e;dsimp only at e;cases qn:G[n]? with
  |none=>rw[qn]at e;cases e
  |some o=>
   rw[qn]at e;have ob:=S.obj n a o ea qn;cases o with
   |lst ys=>obtain⟨vs,e1,rs⟩:=ob;exact lists (SqL.of e1) rs e rfl
   |frz ys=>obtain⟨vs,e1,rs⟩:=ob;exact lists e1.sq rs e rfl
   |dK kvs=>
    obtain⟨ws,e1,rs⟩:=ob;dsimp only at e;cases qk:M3.qW x with
    |none=>rw[qk]at e;cases e
    |some k=>
     rw[qk]at e;have e:some (M3.look kvs k).isSome=some b:=e;have hb:(kH ws k).isSome=b:=by
      rcases uR k rs with ⟨h1,h2⟩ |⟨d,v',h1,h2,_⟩
      · rw[h2];rw[h1]at e;cases e;rfl
      · rw[h2];rw[h1]at e;cases e;rfl
     cases wd qk dx;cases neg with
     |false=>exact Pt (by omega) I (rm.k e1) r fun s' I'=>⟨.bl b,H,I',by rw[hb];rfl,q⟩
     |true=>exact F2 (by omega) I (rm.k e1) r fun s' I'=>⟨.bl (!b),H,I',by rw[hb];rfl,q⟩
   |dF kvs=>cases e
   |dT kvs=>cases e
   |ins C fs=>cases e
 |_=>cases e
def Bg(hu:X.A.units+9 < cLine):OpR X (compareOp .NotIn) (B1 T X.K true)/\Br2 T X.K Y M3.lT (B1 T X.K true):=⟨fun pins s σ H v w u u' Q I r r' h=>FH hu true I r r' h,by
 intro μ H G x y v w Q S dx dy h;unfold M3.run M3.lT at h;cases q:M3.inG G x y with
 |none=>rw[q]at h;cases h
 |some b=>
  rw[q]at h
  exact⟨μ,G,x,y,b,S,dx,dy,q,h _ H μ (Up.refl _ _) S rfl⟩⟩
end
end L3
namespace HT
open PySem PyProof.Rows
def Cp(A:Around)(s:Shared)(a:Int)(t:Tok)(c:Int)(u:Tok)(prog:Program)(w:World)(E:Value->Shared->Prop)(Q:Value->Shared->Prop)(h:Q (.bool (decide (c < a))) s):
 wpAny (model prog w) A (richCompare .Gt (.int a t) (.int c u)) Q E s:=
 (PyProof.Rows.gt_int h:wpAny (model prog w) A (compareOp .Gt (.int a t) (.int c u)) Q E s)
section
open PySem.SeqAt
open PySem.AutoSeq1 (wpAny_loadPart')
open PySem.MeetsSeq PySem.MeetsSeq2 PySem.MeetsSeq3
def tq(l b:Addr)(items cA:Array Value)(n n2:Nat)(dd E6:Option Addr)(sl AJ:Array (Option Value))(ns ms:List Int)(hi:IntsAre items.toList ns)(hj:IntsAre cA.toList ms):
 Meets (Builtin.«tuple.__gt__» ⟨[.ref l,.ref b],[]⟩)
  (fun _ R s=>s.heap.get? l=some {cls:= .type "tuple",dict:=dd,data:= .seq items n,slots:=sl}/\s.heap.get? b=some {cls:= .type "tuple",dict:=E6,data:= .seq cA n2,slots:=AJ}/\
    R (.ok (.ret (.bool (lexLt ms ns)))) s):=
 .of_wp fun prog w A R s h=>by
  obtain⟨hp,g,d,tk,os⟩:=s;obtain⟨hl,hb,h⟩:=h;have f2:=AutoSeq1.sub_tuple_tuple;have z1:items.size=ns.length:=by rw[<-hi.length];simp
  have z2:cA.size=ms.length:=by rw[<-hj.length];simp
  wp_walk using wpAny_loadPart' hl,wpAny_loadPart' hb,wpAny_forIn_list _ (fun rest b s'=>b.1=none/\s'=⟨hp,g,d,tk,os⟩/\∃(vs ws:List Value) (BS BU:List Int),rest=vs.zip ws/\
   IntsAre vs BS/\IntsAre ws BU/\BS.length+cA.size=BU.length+items.size/\R (.ok (.ret (.bool (lexLt BU BS)))) ⟨hp,g,d,tk,os⟩) _
  case turn=>
   rintro⟨y,x⟩ rest b s' ⟨E9,rfl,vs,ws,BS,BU,hz,LH,Hr,hlen,hR⟩;cases LH with
   |nil=>rw[List.zip_nil_left]at hz;cases hz
   |cons a t hvi'=>
    cases Hr with
    |nil=>rw[List.zip_nil_right]at hz;cases hz
    |cons c u hwi'=>
     rw[List.zip_cons_cons]at hz
     injection hz with hyx hrest
     injection hyx with hy hx
     subst hy hx;rw[rJ]at hR;simp only[List.length_cons]at hlen;obtain⟨e,he,EZ⟩:=xE A.in1 ⟨hp,g,d,tk,os⟩ a t c u;refine wpAny_bind (he prog w _ _ ?_);cases e with
     |true=>
      rw[if_pos (EZ.mp rfl).symm]at hR
      wp_walk
      exact⟨rfl,rfl,_,_,_,_,hrest,hvi',hwi',by omega,hR⟩
     |false=>
      rw[if_neg (fun q=>absurd (EZ.mpr (Eq.symm q)) qC_)]at hR;have Rr:=Cp A.in1 ⟨hp,g,d,tk,os⟩ a t c u prog w
      wp_walk using Rr
      exact⟨_,rfl,by simpa using hR⟩
  case fin=>
   rintro⟨b1,b2⟩ s' ⟨E9,rfl,vs,ws,BS,BU,hz,LH,Hr,hlen,hR⟩;simp only at E9;subst E9;have hv:lexLt BU BS=decide (cA.size < items.size):=by
    cases LH with
    |nil=>
     cases Hr with
     |nil=>simp only[List.length_nil]at hlen;rw[mX];exact(qa_ (by omega)).symm
     |cons c u hw=>simp only[List.length_nil,List.length_cons]at hlen;rw[lQ];exact(qa_ (by omega)).symm
    |cons a t hv=>
     cases Hr with
     |nil=>simp only[List.length_nil,List.length_cons]at hlen;rw[lE];exact(qZ_ (by omega)).symm
     |cons c u hw=>rw[List.zip_cons_cons]at hz;cases hz
   rw[hv]at hR
   wp_walk
   exact⟨_,rfl,by simpa [Builtin.Tuple.tupleCompareSizes] using hR⟩
  case h=>exact⟨rfl,rfl,items.toList,cA.toList,ns,ms,rfl,hi,hj,by omega,h⟩
end
def yw{A:Around}{E:Value->Shared->Prop}{s:Shared}{items cA:Array Value}{Q:Value->Shared->Prop}(hl:IsTup s.heap l items)(hb:IsTup s.heap b cA)(hi:IntsAre items.toList ns)(hj:IntsAre cA.toList ms)
 (hu:A.units < cLine) (h:Q (.bool (lexLt ms ns)) s):wpAny (model prog w) A (compareOp .Gt (.ref l) (.ref b)) Q E s:=by
 obtain⟨⟨cls,dd,data,sl⟩,ho,hc,n,hd⟩:=id hl;obtain⟨⟨OV,E6,data2,AJ⟩,zK,IP,n2,hd2⟩:=id hb;simp only at hc hd IP hd2;subst hc hd IP hd2;exact richCompare_meets_room (op:= .Gt) ⟨_,ho,rfl⟩ ⟨_,zK,rfl⟩ PySem.F.slot_tuple_gt PySem.F.entry_tuple_gt (PySem.F.args_tuple_gt_2 _ _) (tq l b items cA n n2 dd E6 sl AJ ns ms hi hj)
  ⟨ho,zK,show Value.bool (lexLt ms ns)≠Value.notImplemented/\Q (.bool (lexLt ms ns)) s from⟨(fun x=>nomatch x),h⟩⟩ hu
end HT
namespace L3
open PySem PySem.Spec PyProof.Rows L2 PySem.SeqAt
section
variable{X:Cx}{T:Tab}{Y:EX}{a b e:Expr}{es:List Expr}{fa fb:M3.E3}{ta tb:M3.T3}{f3:M3.A3}{pos:Pos}{rest:List Expr}
def Nz(K:PySem.W.Frag):R2:=fun x y H Q=>∃a b ns ms,x= .ref a/\y= .ref b/\SqT K H a (ns.map V.int)/\SqT K H b (ms.map V.int)/\Q (.bl (HT.lexLt ms ns)) H
def Ls(hu:X.A.units < cLine):OpR X (compareOp .Gt) (Nz X.K):=by
 intro pins s σ H x y v u Q I rx ry h;obtain⟨a,b,ns,ms,rfl,rfl,ha,hb,q⟩:=h;cases rx;cases ry;obtain⟨aJ,r1,p1,_⟩:=I.tuple ha;obtain⟨pI,r2,p2,_⟩:=I.tuple hb;have i1:IntsAre aJ.toArray.toList ns:=intsAre_of r1;have i2:IntsAre pI.toArray.toList ms:=intsAre_of r2;exact HT.yw p1 p2 i1 i2 hu ⟨.bl (HT.lexLt ms ns),H,I,rfl,q⟩
def GR(K:PySem.W.Frag):R2:=fun x y H Q=>rI0 (fun i j=>.bl (decide (j < i))) x y H Q\/Nz K x y H Q
def Kh(hu:X.A.units < cLine):OpR X (compareOp .Gt) (GR X.K)/\Br2 T X.K Y M3.oGt (GR X.K):=⟨MU.or (Ls hu),by
 intro μ H G x y v w Q S dx dy h;cases x with
 |int i=>cases y with
  |int j=>exact .inl ⟨i,j,dx,dy,h _ H μ (Up.refl _ _) S rfl⟩
  |_=>cases h
 |tup ds=>cases y with
  |tup es=>
   unfold M3.oGt at h;dsimp only at h;cases q1:M3.intsOf ds with
   |none=>rw[q1]at h;cases h
   |some m=>
    cases q2:M3.intsOf es with
    |none=>rw[q1,q2]at h;cases h
    |some n=>rw[q1,q2]at h;rw[fW q1]at dx;rw[fW q2]at dy;obtain⟨p,vs,rfl,sp,rp⟩:=dx;obtain⟨q,ws,rfl,sq,rq⟩:=dy;rw[ay.ints rp]at sp;rw[ay.ints rq]at sq;refine .inr ⟨p,q,m,n,rfl,rfl,sp,sq,?_⟩;rw[<-uC];exact h _ H μ (Up.refl _ _) S rfl
  |_=>cases h
 |_=>exact False.elim h⟩
def yy{K:PySem.W.Frag}{H:Hp}{μ:List Addr}{xs:List M3.D}{vs:List V}{i:Int}{d:M3.D}(r:ay K H μ xs vs)(h:M3.atI xs i=some d):∃v,L2.atI vs i=some v/\Den K H μ d v:=by
 unfold M3.atI at h;unfold L2.atI;rw[r.length]at h;have e:M3.ixN vs.length i=L2.ixN vs.length i:=rfl;rw[e]at h;cases q:L2.ixN vs.length i with
 |none=>rw[q]at h;cases h
 |some j=>rw[q]at h;exact r.get h
def oq{Z:Nat->M3.Hh->Prop}{P:M3.D->M3.Hh->Prop}(h:M3.run (M3.oi o) G P Z):∃d,o=some d/\P d G:=by
 cases o with
 |none=>cases h
 |some d=>exact⟨d,rfl,h⟩
def FC(hu:X.A.units+1 < cLine):IxR X (fun x y H Q=>∃a v,x= .ref a/\rm H a y (some v)/\Q v H):=by
 intro value slice pins s σ H x y v u Q I rx ry h hs;obtain⟨a,z,rfl,g,q⟩:=h;cases (show v=Value.ref a from rx);exact tail_any (xl I g) PySem.F.slot_dict_getitem.lookup (Bv hu I g ry fun w' s3 I3 E2=>⟨z,H,I3,E2,q⟩) hs
def PL(K:PySem.W.Frag):R2:=fun x y H Q=>NS K x y H Q\/(fun x y H Q=>Nf K x y H Q\/∃a v,x= .ref a/\rm H a y (some v)/\Q v H) x y H Q
def KQ{K:PySem.W.Frag}:Br2 T K Y M3.oIx (PL K):=by
 intro μ H G x y v w Q S dx dy h;cases x with
 |tup xs=>
  cases y with
  |int i=>obtain⟨d,e,q⟩:=oq h;obtain⟨p,vs,rfl,sq,r⟩:=dx;obtain⟨z,e2,r2⟩:=yy r e;exact .inr (.inl ⟨p,vs,i,z,rfl,dy,sq,e2,q z H μ (Up.refl _ _) S r2⟩)
  |_=>cases h
 |ref n=>
  unfold M3.run M3.oIx at h;dsimp only at h;obtain⟨p,ep,rfl⟩:=dx;cases qn:G[n]? with
  |none=>rw[qn]at h;cases h
  |some o=>
   have ob:=S.obj n p o ep qn;cases o with
   |lst xs=>
    cases y with
    |int i=>rw[qn]at h;obtain⟨d,e,q⟩:=oq (P:=dO T K μ H Q) h;obtain⟨vs,e1,r⟩:=ob;obtain⟨z,e2,r2⟩:=yy r e;exact .inl ⟨p,vs,i,z,rfl,dy,SqL.of e1,e2,q z H μ (Up.refl _ _) S r2⟩
    |_=>rw[qn]at h;cases h
   |frz xs=>
    cases y with
    |int i=>rw[qn]at h;obtain⟨d,e,q⟩:=oq (P:=dO T K μ H Q) h;obtain⟨vs,e1,r⟩:=ob;obtain⟨z,e2,r2⟩:=yy r e;exact .inl ⟨p,vs,i,z,rfl,dy,e1.sq,e2,q z H μ (Up.refl _ _) S r2⟩
    |_=>rw[qn]at h;cases h
   |dK kvs=>
    have h2:M3.run (fun G=>match M3.qW y with
     |some k=>M3.oi (M3.look kvs k) G
     |none=>none) G (dO T K μ H Q) (Y.x μ H):=by
     rw[qn]at h;cases y <;> exact h
    unfold M3.run at h2;dsimp only at h2;cases qk:M3.qW y with
    |none=>rw[qk]at h2;cases h2
    |some k=>
     rw[qk]at h2;obtain⟨d,e,q⟩:=oq (P:=dO T K μ H Q) h2;obtain⟨ws,e1,r⟩:=ob;cases wd qk dy;rcases uR k r with ⟨z,_⟩ |⟨d',z,l1,l2,r2⟩
     · rw[z]at e;cases e
     · rw[l1]at e;cases e;exact .inr (.inr ⟨p,z,rfl,by rw[<-l2];exact rm.k e1,q z H μ (Up.refl _ _) S r2⟩)
   |dF kvs=>rw[qn]at h;cases y <;> cases h
   |dT kvs=>rw[qn]at h;cases y <;> cases h
   |ins C fs=>rw[qn]at h;cases y <;> cases h
 |_=>cases h
def Pp(hu:X.A.units+1 < cLine)(ha:PE X a (tE T X.K Y fa))(hb:PE X b (tE T X.K Y fb))(hs:vO b:=by intro _ _;rfl):PE X (.Subscript a b pos) (tE T X.K Y (M3.eOp M3.oIx fa fb)):=
 PE.of (NJ (FQ.or (JB.or (FC hu))) ha hb hs) fun _ _ _ h=>Hn KQ h
end
section
variable{X:Cx}{T:Tab}{Y:EX}{a b e o:Expr}{es:List Expr}{fa fb:M3.E3}{ta tb:M3.T3}{f3:M3.A3}{pos p:Pos}{rest:List Expr}{g:List M3.D->M3.M M3.D}
def BrA(T:Tab)(K:PySem.W.Frag)(Y:EX)(g:List M3.D->M3.M M3.D)(r:List V->Hp->VK->Prop):Prop:=
 ∀μ H G ds vs Q,Sim T K μ H G->ay K H μ ds vs->M3.run (g ds) G (dO T K μ H Q) (Y.x μ H)->r vs H Q
def CO{K:PySem.W.Frag}{r:List V->Hp->VK->Prop}(br:BrA T K Y g r){σ:L2.St}{H:Hp}{Q:VK}(h:tE T K Y (M3.aq g f3) σ H Q):tCB r (tA T K Y f3) σ H Q:=by
 obtain⟨μ,σ3,G,S,sd,h⟩:=h;exact⟨μ,σ3,G,S,sd,pY h fun ds G1 vs H1 μ1 u1 S1 d1 h1=>br μ1 H1 G1 ds vs Q S1 d1 (cS h1 fun _ _ q=>q.up u1)⟩
def Aw{x:Str}{id:String}{r:List V->Hp->VK->Prop}(hc:gF X (.builtin id) r)(br:BrA T X.K Y g r)(hm:X.mg x=none)(hv:bootBuiltins x=some (.builtin id))(ha:PA X (e :: es) (tA T X.K Y f3))(hg:Gl X x:=by rfl)(hn:x≠"__name__":=by decide)(qg:(x==("__debug__":Str))=false:=by decide)
 (he:starEach (e :: es) X.env=(false,eval e X.env) :: starEach es X.env:=by rfl) (gZ:(backTo pos (starEach es X.env)).any (·.1)=false:=by rfl):PE X (.Call (.Name x p) (e :: es) [] pos) (tE T X.K Y (M3.aq g f3)):=
 PE.of (q8 hc hg hm hv ha hn qg he gZ) fun _ _ _ h=>CO br h
def xU{x:Str}{id:String}{r:List V->Hp->VK->Prop}(hc:gF X (.type id) r)(br:BrA T X.K Y g r)(hm:X.mg x=none)(hv:bootBuiltins x=some (.type id))(ha:PA X (e :: es) (tA T X.K Y f3))(hg:Gl X x:=by rfl)(hn:x≠"__name__":=by decide)(qg:(x==("__debug__":Str))=false:=by decide)
 (he:starEach (e :: es) X.env=(false,eval e X.env) :: starEach es X.env:=by rfl) (gZ:(backTo pos (starEach es X.env)).any (·.1)=false:=by rfl):PE X (.Call (.Name x p) (e :: es) [] pos) (tE T X.K Y (M3.aq g f3)):=
 PE.of (Bb hc hg hm hv ha hn qg he gZ) fun _ _ _ h=>CO br h
def mZ{K:PySem.W.Frag}{H:Hp}{μ:List Addr}{d:M3.D}{vs:List V}(h:ay K H μ [d] vs):∃v,vs=[v]/\Den K H μ d v:=by
 obtain⟨v,r,rfl,h,t⟩:=h;cases (show r=[]from t);exact⟨v,rfl,h⟩
def Nm{K:PySem.W.Frag}{H:Hp}{μ:List Addr}{d c:M3.D}{vs:List V}(h:ay K H μ [d,c] vs):∃v w,vs=[v,w]/\Den K H μ d v/\Den K H μ c w:=by
 obtain⟨v,r,rfl,h,t⟩:=h;obtain⟨w,rfl,h2⟩:=mZ t;exact⟨v,w,rfl,h,h2⟩
def PV(K:PySem.W.Frag):List V->Hp->VK->Prop:=fun xs H Q=>(∃x n,xs=[x]/\Mx K x H n/\Q (.int n) H)\/∃a kvs,xs=[V.ref a]/\H a=some (.dK kvs)/\Q (.int kvs.length) H
def J0{K:PySem.W.Frag}:BrA T K Y M3.dh (PV K):=by
 intro μ H G ds vs Q S d h;unfold M3.run M3.dh at h
 match ds,d,h with
 | [.tup xs],d,h=>
   obtain⟨v,rfl,a,ws,rfl,sq,r⟩:=mZ d;dsimp only at h;by_cases c:xs.length<=M3.aw
   · rw[if_pos c]at h;refine .inl ⟨_,xs.length,rfl,.inr ⟨ws,sq,r.length⟩,h _ H μ (Up.refl _ _) S rfl⟩
   · rw[if_neg c]at h;cases h
 | [.str x],d,h=>
   obtain⟨v,rfl,d'⟩:=mZ d;cases (show v= .str x from d');dsimp only at h;by_cases c:x.length<=M3.aw
   · rw[if_pos c]at h;exact .inl ⟨_,x.length,rfl,⟨by rw[<-cM];exact c,rfl⟩,h _ H μ (Up.refl _ _) S rfl⟩
   · rw[if_neg c]at h;cases h
 | [.ref n],d,h=>
   obtain⟨v,rfl,a,ea,rfl⟩:=mZ d;dsimp only at h;cases q:G[n]? with
   |none=>rw[q]at h;cases h
   |some o=>
    rw[q]at h;have ob:=S.obj n a o ea q;cases o with
    |lst xs=>obtain⟨ws,e1,r⟩:=ob;exact .inl ⟨_,xs.length,rfl,.inl ⟨ws,SqL.of e1,r.length⟩,h _ H μ (Up.refl _ _) S rfl⟩
    |frz xs=>obtain⟨ws,e1,r⟩:=ob;exact .inl ⟨_,xs.length,rfl,.inl ⟨ws,e1.sq,r.length⟩,h _ H μ (Up.refl _ _) S rfl⟩
    |dK kvs=>obtain⟨ws,e1,r⟩:=ob;exact .inr ⟨a,ws,rfl,e1,by rw[<-Paired.length r];exact h _ H μ (Up.refl _ _) S rfl⟩
    |dF kvs=>cases h
    |dT kvs=>cases h
    |ins C fs=>cases h
 | [],_,h=>cases h
 | [.non],_,h=>cases h
 | [.bl _],_,h=>cases h
 | [.int _],_,h=>cases h
 |x :: _ :: _,_,h=>cases x <;> cases h
def DN(hm:X.mg "len"=none)(ha:PA X (e :: es) (tA T X.K Y f3))(hg:Gl X "len":=by rfl)(he:starEach (e :: es) X.env=(false,eval e X.env) :: starEach es X.env:=by rfl)(gZ:(backTo pos (starEach es X.env)).any (·.1)=false:=by rfl):
 PE X (.Call (.Name "len" p) (e :: es) [] pos) (tE T X.K Y (M3.aq M3.dh f3)):=Aw (Er.or AQ) J0 hm boot_len ha hg (by decide) (by decide) he gZ
theorem jx:∀(r:List Int) (m:Int),M3.iB m r∈m :: r
 | [],m=>qI_
 |x :: r,m=>by
  have h:=jx r (if x > m then x else m);show M3.iB (if x > m then x else m) r∈m :: x :: r;rcases qS_.mp h with h |h
  · rw[h];split
    · exact qR_ _ qI_
    · exact qI_
  · exact qR_ _ (qR_ _ h)
theorem gL:∀(r:List Int) (m a:Int),a∈m :: r->a<=M3.iB m r
 | [],m,a,h=>by simp at h;exact Int.le_of_eq h
 |x :: r,m,a,h=>by
  show a<=M3.iB (if x > m then x else m) r;have h1:=gL r (if x > m then x else m) (if x > m then x else m) qI_;rcases qS_.mp h with h |h
  · subst h;split at h1 <;> (try split) <;> omega
  · rcases qS_.mp h with h |h
    · subst h;split at h1 <;> (try split) <;> omega
    · exact gL r _ a (qR_ _ h)
def BD(hc:X.calm=true):gF X (.builtin "max") (fun xs H Q=>∃a m r,xs=[.ref a]/\SqL X.K H a ((m :: r).map V.int)/\Q (.int (M3.iB m r)) H):=by
 intro pins s σ H xs us Q I rv h;obtain⟨a,m,r,rfl,sq,q⟩:=h;obtain⟨u,rfl,ru⟩:=vals1 rv;cases ru;obtain⟨aJ,qv,pl,_⟩:=I.list sq;have hi:IntsAre aJ (m :: r):=intsAre_of qv;obtain⟨xs,e⟩:=hi.allInts.items;have IJ:m :: r=xs.toList.map (·.1):=by rw[<-hi.numsOf,<-nums_intItems,<-e]
 have hsz:0 < xs.size:=by have h3:=congrArg List.length IJ;rw[qM_,Array.length_toList]at h3;simp at h3;omega
 have hl:=pl.isList;rw[e]at hl;refine max_intList (I.ok.hd hc) hl hsz fun v h' tk hv hk=>?_;obtain⟨t,rfl⟩:=intItems_at hv;obtain⟨h1,h2⟩:=argBest_gt (numAt xs) (xs.size - 1);have SY:numAt xs (argBest (fun i j=>decide (numAt xs i > numAt xs j)) (xs.size - 1))∈m :: r:=by rw[IJ,numAt_eq];exact getD_mem (by rw[qM_,Array.length_toList];omega)
 have hle:M3.iB m r<=numAt xs (argBest (fun i j=>decide (numAt xs i > numAt xs j)) (xs.size - 1)):=by have hM:=jx r m;rw[IJ]at hM;obtain⟨j,hj,ej⟩:=mem_getD hM;rw[qM_,Array.length_toList]at hj;rw[<-ej,<-numAt_eq];exact h2 j (by omega)
 have VR:numAt xs (argBest (fun i j=>decide (numAt xs i > numAt xs j)) (xs.size - 1))=M3.iB m r:=Int.le_antisymm (gL r m _ SY) hle;exact⟨.int _,H,I.kept hk,⟨t,by rw[VR]⟩,q⟩
def Px(K:PySem.W.Frag):List V->Hp->VK->Prop:=fun xs H Q=>(∃i j,xs=[.int i,.int j]/\Q (.int (if j > i then j else i)) H)\/∃a m r,xs=[.ref a]/\SqL K H a ((m :: r).map V.int)/\Q (.int (M3.iB m r)) H
def Jv{K:PySem.W.Frag}:BrA T K Y M3.wQ (Px K):=by
 intro μ H G ds vs Q S d h;unfold M3.run M3.wQ at h
 match ds,d,h with
 | [.int i,.int j],d,h=>obtain⟨v,w,rfl,d1,d2⟩:=Nm d;cases d1;cases d2;exact .inl ⟨_,_,rfl,h _ H μ (Up.refl _ _) S rfl⟩
 | [.ref n],d,h=>
   obtain⟨v,rfl,a,ea,rfl⟩:=mZ d;dsimp only at h;cases q:G[n]? with
   |none=>rw[q]at h;cases h
   |some o=>
    rw[q]at h;have ob:=S.obj n a o ea q;cases o with
    |lst xs=>
     obtain⟨ws,e1,r⟩:=ob;dsimp only at h;cases qi:M3.intsOf xs with
     |none=>rw[qi]at h;cases h
     |some ns=>
      rw[qi]at h;cases ns with
      |nil=>cases h
      |cons m t=>rw[fW qi]at r;rw[ay.ints r]at e1;exact .inr ⟨a,m,t,rfl,SqL.of e1,h _ H μ (Up.refl _ _) S rfl⟩
    |_=>cases h
 | [],_,h=>cases h
 | [.non],_,h=>cases h
 | [.bl _],_,h=>cases h
 | [.int _],_,h=>cases h
 | [.str _],_,h=>cases h
 | [.tup _],_,h=>cases h
 | .non :: _ :: _,_,h=>cases h
 | .bl _ :: _ :: _,_,h=>cases h
 | .str _ :: _ :: _,_,h=>cases h
 | .tup _ :: _ :: _,_,h=>cases h
 | .ref _ :: _ :: _,_,h=>cases h
 | .int _ :: .non :: _,_,h=>cases h
 | .int _ :: .bl _ :: _,_,h=>cases h
 | .int _ :: .str _ :: _,_,h=>cases h
 | .int _ :: .tup _ :: _,_,h=>cases h
 | .int _ :: .ref _ :: _,_,h=>cases h
 | .int _ :: .int _ :: _ :: _,_,h=>cases h
def Cc(hc:X.calm=true)(hm:X.mg "max"=none)(ha:PA X (e :: es) (tA T X.K Y f3))(hg:Gl X "max":=by rfl)(he:starEach (e :: es) X.env=(false,eval e X.env) :: starEach es X.env:=by rfl)(gZ:(backTo pos (starEach es X.env)).any (·.1)=false:=by rfl):
 PE X (.Call (.Name "max" p) (e :: es) [] pos) (tE T X.K Y (M3.aq M3.wQ f3)):=Aw ((A4 hc).or (BD hc)) Jv hm boot_max ha hg (by decide) (by decide) he gZ
def Gn{K:PySem.W.Frag}:BrA T K Y M3.nV (fun xs H Q=>∃p ys,xs=[.ref p]/\(SqL K H p ys\/SqT K H p ys)/\∀l,H l=none->Q (.ref l) (upd H l (.lst ys))):=by
 intro μ H G ds vs Q S d h;have fin:∀{xs:List M3.D} {ws:List V},ay K H μ xs ws->dO T K μ H Q (.ref G.length) (G++[.lst xs])->∀l,H l=none->Q (.ref l) (upd H l (.lst ws)):=by intro xs ws r q l hl;have u2:=Up.new (μ:=μ) (.lst ws) hl;refine q _ _ (μ++[l]) u2 (S.new hl rfl ⟨ws,aH,ay.up u2 r⟩) ⟨l,?_,rfl⟩;rw[<-S.len];simp
 unfold M3.run M3.nV at h
 match ds,d,h with
 | [.tup xs],d,h=>
   obtain⟨v,rfl,a,ws,rfl,sq,r⟩:=mZ d;dsimp only at h;by_cases c:xs.length<=M3.aw
   · rw[if_pos c]at h;exact⟨a,ws,rfl,.inr sq,fin r h⟩
   · rw[if_neg c]at h;cases h
 | [.ref n],d,h=>
   obtain⟨v,rfl,a,ea,rfl⟩:=mZ d;dsimp only at h;cases q:G[n]? with
   |none=>rw[q]at h;cases h
   |some o=>
    rw[q]at h;have ob:=S.obj n a o ea q;cases o with
    |lst xs=>obtain⟨ws,e1,r⟩:=ob;exact⟨a,ws,rfl,.inl (SqL.of e1),fin r h⟩
    |frz xs=>obtain⟨ws,e1,r⟩:=ob;exact⟨a,ws,rfl,.inl e1.sq,fin r h⟩
    |_=>cases h
 | [],_,h=>cases h
 | [.non],_,h=>cases h
 | [.bl _],_,h=>cases h
 | [.int _],_,h=>cases h
 | [.str _],_,h=>cases h
 |x :: _ :: _,_,h=>cases x <;> cases h
def uO(hm:X.mg "list"=none)(ha:PA X (e :: es) (tA T X.K Y f3))(hg:Gl X "list":=by rfl)(he:starEach (e :: es) X.env=(false,eval e X.env) :: starEach es X.env:=by rfl)(gZ:(backTo pos (starEach es X.env)).any (·.1)=false:=by rfl):
 PE X (.Call (.Name "list" p) (e :: es) [] pos) (tE T X.K Y (M3.aq M3.nV f3)):=xU vS Gn hm boot_list ha hg (by decide) (by decide) he gZ
def Bh:gF X (.type "int") (fun xs H Q=>∃x n,xs=[.str x]/\PySem.intText? x=some n/\x.length<=640/\Q (.int n) H):=by
 intro pins s σ H xs us Q I r h;obtain⟨x,n,rfl,hn,hl,q⟩:=h;obtain⟨u,rfl,t,rfl⟩:=vals1 r;exact PySem.W.KIN.call_text hn hl ⟨.int n,H,I.tok _,⟨_,rfl⟩,q⟩
def P9:List V->Hp->VK->Prop:=fun xs H Q=>((∃i,xs=[.int i]/\Q (.int i) H)\/∃k,xs=[.bl k]/\Q (.int (if k then 1 else 0)) H)\/∃x n,xs=[.str x]/\PySem.intText? x=some n/\x.length<=640/\Q (.int n) H
def K5{K:PySem.W.Frag}:BrA T K Y M3.yW P9:=by
 intro μ H G ds vs Q S d h;unfold M3.run M3.yW at h
 match ds,d,h with
 | [.int i],d,h=>obtain⟨v,rfl,d'⟩:=mZ d;cases d';exact .inl (.inl ⟨_,rfl,h _ H μ (Up.refl _ _) S rfl⟩)
 | [.bl i],d,h=>obtain⟨v,rfl,d'⟩:=mZ d;cases d';exact .inl (.inr ⟨_,rfl,h _ H μ (Up.refl _ _) S rfl⟩)
 | [.str x],d,h=>
   obtain⟨v,rfl,d'⟩:=mZ d;cases (show v= .str x from d');dsimp only at h;cases q:PySem.intText? x with
   |none=>rw[q]at h;cases h
   |some n=>
    rw[q]at h;dsimp only at h;by_cases c:x.length<=640
    · rw[if_pos c]at h;exact .inr ⟨x,n,rfl,q,c,h _ H μ (Up.refl _ _) S rfl⟩
    · rw[if_neg c]at h;cases h
 | [],_,h=>cases h
 | [.non],_,h=>cases h
 | [.ref _],_,h=>cases h
 | [.tup _],_,h=>cases h
 |x :: _ :: _,_,h=>cases x <;> cases h
def Dy(hm:X.mg "int"=none)(ha:PA X (e :: es) (tA T X.K Y f3))(hg:Gl X "int":=by rfl)(he:starEach (e :: es) X.env=(false,eval e X.env) :: starEach es X.env:=by rfl)(gZ:(backTo pos (starEach es X.env)).any (·.1)=false:=by rfl):
 PE X (.Call (.Name "int" p) (e :: es) [] pos) (tE T X.K Y (M3.aq M3.yW f3)):=xU (Bw.or Bh) K5 hm boot_int ha hg (by decide) (by decide) he gZ
def kn:M3.Kd->String
 | .non=>"NoneType" | .bl=>"bool" | .int=>"int" | .str=>"str" | .tup=>"tuple" | .lst=>"list" | .dic=>"dict"
def TyD(K:PySem.W.Frag)(H:Hp):V->M3.Kd->Prop
 | .non,k=>k= .non
 | .bl _,k=>k= .bl
 | .int _,k=>k= .int
 | .str _,k=>k= .str
 | .ref a,k=>(k= .lst/\∃xs,SqL K H a xs)\/(k= .tup/\∃xs,SqT K H a xs)\/(k= .dic/\((∃kvs,H a=some (.dK kvs))\/∃kvs,H a=some (.dT kvs)))
 |_,_=>False
def jU(K:PySem.W.Frag)(k c:M3.Kd):PySem.W.kitOne K (.type (kn k)) (.type (kn c))=some (M3.iV k c):=by
 cases k <;> cases c <;> rfl
def FV:gF X (.builtin "isinstance") (fun xs H Q=>∃x k c,xs=[x,.ty (kn c)]/\TyD X.K H x k/\Q (.bl (M3.iV k c)) H):=by
 intro pins s σ H xs us Q I r h;obtain⟨x,k,c,rfl,ty,q⟩:=h;obtain⟨u,w',rfl,ru,rc⟩:=vals2 r;cases (show w'=Value.type (kn c)from rc);have fin:∀tk,EP X pins σ Q (.bool (M3.iV k c)) {s with toks:=tk}:=fun tk=>⟨.bl _,H,I.tok tk,rfl,q⟩;cases x with
 |non=>cases (show u=Value.none from ru);cases (show k= .non from ty);exact PySem.W.kia_one PySem.W.kitx_none I.kIn True.intro (jU X.K .non c) (fun z=>nomatch z) fin
 |bl y=>cases (show u=Value.bool y from ru);cases (show k= .bl from ty);exact PySem.W.kia_one PySem.W.kitx_bool I.kIn True.intro (jU X.K .bl c) (fun z=>nomatch z) fin
 |int y=>obtain⟨t,rfl⟩:=(show ∃t,u=Value.int y t from ru);cases (show k= .int from ty);exact PySem.W.kia_one PySem.W.kitx_int I.kIn True.intro (jU X.K .int c) (fun z=>nomatch z) fin
 |str y=>obtain⟨t,rfl⟩:=(show ∃t,u=Value.str y t from ru);cases (show k= .str from ty);exact PySem.W.kia_one PySem.W.kitx_str I.kIn True.intro (jU X.K .str c) (fun z=>nomatch z) fin
 |ref a=>
  cases (show u=Value.ref a from ru);rcases ty with ⟨rfl,xs,sq⟩ |⟨rfl,xs,sq⟩ |⟨rfl,⟨kvs,ea⟩ |⟨kvs,ea⟩⟩
  · obtain⟨aJ,_,⟨ob,n,h1,h2,_⟩,_⟩:=I.list sq;exact PySem.W.kia_one PySem.W.kitx_list I.kIn ⟨ob,h1,h2⟩ (jU X.K .lst c) (fun z=>nomatch z) fin
  · obtain⟨aJ,_,⟨ob,h1,h2,_⟩,_⟩:=I.tuple sq;exact PySem.W.kia_one PySem.W.kitx_tuple I.kIn ⟨ob,h1,h2⟩ (jU X.K .tup c) (fun z=>nomatch z) fin
  · obtain⟨_,_,vs,_,pd⟩:=(show bO X.prog X.w H s.heap a (.dK kvs)from I.hok a _ ea);obtain⟨ob,es,ep,h1,h2,_⟩:=pd;exact PySem.W.kia_one PySem.W.kitx_dict I.kIn ⟨ob,h1,h2.1⟩ (jU X.K .dic c) (fun z=>nomatch z) fin
  · obtain⟨_,_,xs,_,ob,es,ep,h1,h2,_⟩:=(show bO X.prog X.w H s.heap a (.dT kvs)from I.hok a _ ea);exact PySem.W.kia_one PySem.W.kitx_dict I.kIn ⟨ob,h1,h2.1⟩ (jU X.K .dic c) (fun z=>nomatch z) fin
 |_=>cases ty
def HR{K:PySem.W.Frag}{μ:List Addr}{H:Hp}{G:M3.Hh}(S:Sim T K μ H G){d:M3.D}{v:V}{k:M3.Kd}(r:Den K H μ d v)(h:M3.kdOf G d=some k):TyD K H v k:=by
 cases d with
 |non=>cases (show v= .non from r);cases h;rfl
 |bl _=>cases r;cases h;rfl
 |int _=>cases r;cases h;rfl
 |str _=>cases r;cases h;rfl
 |tup ds=>obtain⟨a,vs,rfl,sq,_⟩:=r;cases h;exact .inr (.inl ⟨rfl,vs,sq⟩)
 |ref n=>
  obtain⟨a,ea,rfl⟩:=r;unfold M3.kdOf at h;dsimp only at h;cases q:G[n]? with
  |none=>rw[q]at h;cases h
  |some ob=>
   rw[q]at h;have od:=S.obj n a ob ea q;cases ob with
   |lst xs=>cases h;obtain⟨vs,e1,_⟩:=od;exact .inl ⟨rfl,vs,SqL.of e1⟩
   |frz xs=>cases h;obtain⟨vs,e1,_⟩:=od;exact .inl ⟨rfl,vs,e1.sq⟩
   |dK kvs=>cases h;obtain⟨vs,e1,_⟩:=od;exact .inr (.inr ⟨rfl,.inl ⟨vs,e1⟩⟩)
   |dF kvs=>cases h
   |dT kvs=>cases h
   |ins C fs=>cases h
def NU(c:M3.Kd)(hi:X.mg "isinstance"=none)(hm:X.mg n=none)(ha:PE X e (tE T X.K Y fa))(hn:bootBuiltins n=some (.type (kn c)):=by first |exact boot_int |exact boot_bool |exact boot_str |exact boot_tuple |exact boot_list |exact boot_dict)
 (hg:Gl X "isinstance":=by rfl) (QW:Gl X n:=by rfl) (BL:n≠"__name__":=by decide) (qg:(n==("__debug__":Str))=false:=by decide)
 (he:starEach [e,.Name n p2] X.env=(false,eval e X.env) :: starEach [.Name n p2] X.env:=by rfl) (R8:starEach [.Name n p2] X.env=(false,eval (.Name n p2) X.env) :: starEach [] X.env:=by rfl)
 (gZ:(backTo pos (starEach [.Name n p2] X.env)).any (·.1)=false:=by rfl):PE X (.Call (.Name "isinstance" p) [e,.Name n p2] [] pos) (tE T X.K Y (M3.aq (M3.bIs c) (M3.aa fa M3.ah))):=by
 refine PE.of (q8 FV hg hi boot_isinstance (eB ha (eB (uT QW hm hn (v:= .ty (kn c)) rfl BL qg) je R8) he) (by decide) (by decide) he gZ) fun σ H Q ⟨μ,σ3,G,S,sd,h⟩=>?_;refine⟨μ,σ3,G,S,sd,bj (M3.aN h) fun d G1 v H1 μ1 u1 S1 d1 h1=>?_⟩;have h2:M3.run (M3.bIs c [d]) G1 (dO T X.K μ H Q) (Y.x μ H):=h1;unfold M3.run M3.bIs at h2;dsimp only at h2;cases q:M3.kdOf G1 d with
 |none=>rw[q]at h2;cases h2
 |some k=>rw[q]at h2;exact⟨v,k,c,rfl,HR S1 d1 q,h2 _ H1 μ1 u1 S1 rfl⟩
def uU{Z:Nat->M3.Hh->Prop}{G:M3.Hh}{P:Unit->M3.Hh->Prop}(h:M3.run (M3.isL x) G P Z):∃n xs,x= .ref n/\G[n]? =some (.lst xs)/\P () G:=by
 unfold M3.run M3.isL at h;cases x with
 |ref n=>
  dsimp only at h;cases q:G[n]? with
  |none=>rw[q]at h;cases h
  |some o=>
   rw[q]at h;cases o with
   |lst xs=>exact⟨n,xs,rfl,q,h⟩
   |_=>cases h
 |_=>cases h
def AN{Z:Nat->M3.Hh->Prop}{G:M3.Hh}{P:M3.D->M3.Hh->Prop}(h:M3.run (M3.kb (.ref n) y) G P Z):∃xs,G[n]? =some (.lst xs)/\xs.length < M3.aw/\P .non (G.set n (.lst (xs++[y]))):=by
 unfold M3.run M3.kb at h;dsimp only at h;cases q:G[n]? with
 |none=>rw[q]at h;cases h
 |some o=>
  rw[q]at h;cases o with
  |lst xs=>
   dsimp only at h;by_cases c:xs.length < M3.aw
   · rw[if_pos c]at h;exact⟨xs,rfl,c,h⟩
   · rw[if_neg c]at h;cases h
  |_=>cases h
def rC(ho:PE X o (tE T X.K Y fa))(he:PE X e (tE T X.K Y fb))
 (eO:attributeBase o "append" X.env (eval o X.env)=eval o X.env:=by rfl)
 (wj:((backTo pos (starEach (e :: []) X.env)).all (fun x=>!x.1)&&(backToKw pos (keywordEach [] X.env)).all (fun x=>x.1.isSome)
   &&decide ((e :: ([]:List Expr)).length+([]:List Keyword).length+(if ([]:List Keyword).isEmpty then 0 else 1) < 30))=true:=by rfl)
 (fR:(apos.endLine==pos.line)=true:=by rfl) (hs:starEach (e :: []) X.env=(false,eval e X.env) :: starEach [] X.env:=by rfl) (kx:(backTo pos (starEach [] X.env)).any (·.1)=false:=by rfl):
 PE X (.Call (.Attribute o "append" apos) [e] [] pos) (tE T X.K Y (M3.rh fa fb)):=by
 refine PE.of (Af PySem.F.plainAttrs_list PySem.F.slot_list_append PySem.F.type_list_append uA ho (eB he je hs) eO wj fR hs kx) fun σ H Q ⟨μ,σ3,G,S,sd,h⟩=>⟨μ,σ3,G,S,sd,bj h fun d G1 v H1 μ1 u1 S1 d1 h1=>?_⟩;obtain⟨n,xs,rfl,q,h1⟩:=uU (M3.aN h1);obtain⟨a,ea,rfl⟩:=id d1;obtain⟨vs,e1,r1⟩:=S1.obj n a _ ea q;refine⟨.inl ⟨rfl,vs,SqL.of e1⟩,μ1,σ3,G1,S1,sd.up u1,bj h1 fun y G2 w H2 μ2 u2 S2 d2 h2=>?_⟩;obtain⟨Ud,q2,hl,h3⟩:=AN h2;have zJ:=u2.at ea;obtain⟨EY,e2,r2⟩:=S2.obj n a _ zJ q2;have up:=Up.set S2 (.lst (EY++[w])) zJ q2 rfl;refine⟨a,EY,w,rfl,rfl,e2,by rw[<-r2.length,<-cM];exact hl,?_⟩;exact h3 _ _ μ2 ((u1.trans u2).trans up) (S2.set zJ q2 rfl rfl ⟨_,aH,ay.up up (r2.append (ay.one d2))⟩) rfl
structure zw (T:Tab) (K:PySem.W.Frag) (μ:List Addr) (H:Hp) (src:M3.Src) (J:It):Prop where
 go:∀(i:Nat) d μ' H' G',Up μ μ' H H'->Sim T K μ' H' G'->src.ck G'=true->src.xs[i]? =some d->J.go i H'
 yld:∀(i:Nat) d v μ' H' H'' G',Up μ μ' H H'->Sim T K μ' H' G'->src.ck G'=true->src.xs[i]? =some d->J.yld i H' v H''->gH H' H''/\Den K H'' μ' d v
 stop:∀μ' H' G',Up μ μ' H H'->Sim T K μ' H' G'->src.ck G'=true->J.stop src.xs.length H'
def NO(T:Tab)(K:PySem.W.Frag)(μ:List Addr)(H:Hp)(R:It->Hp->Prop)(src:M3.Src)(G':M3.Hh):Prop:=∀J H' μ',Up μ μ' H H'->Sim T K μ' H' G'->zw T K μ' H' src J->R J H'
def tI(T:Tab)(K:PySem.W.Frag)(Y:EX)(f:M3.I3):TI:=fun σ H R=>∃μ σ3 G,Sim T K μ H G/\StD K H μ σ3 σ/\M3.run (f σ3) G (NO T K μ H R) (Y.x μ H)
def PI.of{tg it:Expr}{t u:TI}(h:PI X tg it t)(f:∀σ H R,u σ H R->t σ H R):PI X tg it u:=fun pins s σ H R I q=>h pins s σ H R I (f σ H R q)
def PH(K:PySem.W.Frag)(tl:TE):TI:=fun σ H R=>tl σ H fun x H1=>∃a,x= .ref a/\(((∃xs,SqL K H1 a xs)/\R (Itl K a) H1)\/((∃xs,SqT K H1 a xs)/\R (Itt K a) H1))
def Jl{tg l:Expr}{tl:TE}(hl:PE X l tl):PI X tg l (PH X.K tl):=by
 intro pins s σ H R I h;refine thn (hl pins s σ H _ I h) fun v s1 ⟨x,H1,I1,r1,q1⟩=>?_;obtain⟨a,e,q⟩:=q1;subst e;cases r1;rcases q with ⟨⟨xs,hq⟩,q⟩ |⟨⟨xs,hq⟩,q⟩
 · obtain⟨aJ,rv,pl,hz⟩:=I1.list hq;refine wpAny_pyIter_list pl.isList ?_;refine⟨s1.heap.objs.size,[s1.heap.objs.size],_,_,H1,rfl,I1.kept (t':=s1.toks) fun b o e=>Heap.get?_push_of_some _ e,AK a _,⟨_,Heap.get?_push_size _ rfl,rfl,rfl⟩,fun b hb=>?_,q⟩;have e:b=s1.heap.objs.size:=by simpa using hb
   subst e;exact I1.Eh (qO_ _) (I1.hok.fresh (qO_ _))
 · obtain⟨aJ,rv,pl,hz⟩:=I1.tuple hq;refine wpAny_pyIter_tuple (show s1.heap.IsTuple a aJ.toArray from pl) ?_;refine⟨s1.heap.objs.size,[s1.heap.objs.size],_,_,H1,rfl,I1.kept (t':=s1.toks) fun b o e=>Heap.get?_push_of_some _ e,yQ a _,⟨_,Heap.get?_push_size _ rfl,rfl,rfl⟩,fun b hb=>?_,q⟩;have e:b=s1.heap.objs.size:=by simpa using hb
   subst e;exact I1.Eh (qO_ _) (I1.hok.fresh (qO_ _))
def src_list{K:PySem.W.Frag}{μ:List Addr}{H:Hp}{n:Nat}{a:Addr}{xs:List M3.D}{o:M3.O}{ck:M3.Hh->Bool}(ea:μ[n]? =some a)(wo:∀G',ck G'=true->G'[n]? =some o)(ho:o= .lst xs\/o= .frz xs):zw T K μ H ⟨xs,ck⟩ (Itl K a):=by
 have key:∀{μ' H' G'},Up μ μ' H H'->Sim T K μ' H' G'->ck G'=true->∃vs,SqL K H' a vs/\ay K H' μ' xs vs:=by
  intro μ' H' G' u S c;have ob:=S.obj n a o (u.at ea) (wo G' c);rcases ho with rfl |rfl
  · obtain⟨vs,e1,r⟩:=ob;exact⟨vs,SqL.of e1,r⟩
  · obtain⟨vs,e1,r⟩:=ob;exact⟨vs,e1.sq,r⟩
 refine⟨fun i d μ' H' G' u S c e=>?_,fun i d v μ' H' H'' G' u S c e y=>?_,fun μ' H' G' u S c=>?_⟩
 · obtain⟨vs,sq,r⟩:=key u S c;obtain⟨v,e1,_⟩:=r.get e;exact⟨vs,v,sq,e1⟩
 · obtain⟨vs,sq,r⟩:=key u S c;obtain⟨w,e1,dw⟩:=r.get e;have:=y.2 vs sq;rw[e1]at this;cases this;obtain⟨rfl,_⟩:=y;exact⟨fun _ _ z=>z,dw⟩
 · obtain⟨vs,sq,r⟩:=key u S c;exact⟨vs,sq,Nat.le_of_eq r.length.symm⟩
def r9{tg:Expr}{f:M3.E3}(h:PE X e (tE T X.K Y f)):PI X tg e (tI T X.K Y (M3.iOf f)):=by
 refine PI.of (Jl h) fun σ H R ⟨μ,σ3,G,S,sd,h⟩=>⟨μ,σ3,G,S,sd,bj h fun d G1 v H1 μ1 u1 S1 d1 h1=>?_⟩;cases d with
 |tup ds=>
  obtain⟨a,vs,rfl,sq,r⟩:=d1;refine⟨a,rfl,.inr ⟨⟨vs,sq⟩,h1 _ H1 μ1 u1 S1 ⟨fun i d μ' H' G' u S c e=>?_,fun i d v μ' H' H'' G' u S c e y=>?_,fun μ' H' G' u S c=>?_⟩⟩⟩
  · obtain⟨v,e1,_⟩:=r.get e;exact⟨vs,v,SqT.keeps u.keeps sq,e1⟩
  · obtain⟨w,e1,dw⟩:=r.get e;have:=y.2 vs (SqT.keeps u.keeps sq);rw[e1]at this;cases this;obtain⟨rfl,_⟩:=y;exact⟨fun _ _ z=>z,Den.up u dw⟩
  · exact⟨vs,SqT.keeps u.keeps sq,Nat.le_of_eq r.length.symm⟩
 |ref n=>
  obtain⟨a,ea,rfl⟩:=d1;unfold M3.run M3.srcOf at h1;dsimp only at h1;cases q:G1[n]? with
  |none=>rw[q]at h1;cases h1
  |some o=>
   have ob:=S1.obj n a o ea q;cases o with
   |lst xs=>rw[q]at h1;obtain⟨vs,e1,r⟩:=ob;exact⟨a,rfl,.inl ⟨⟨vs,SqL.of e1⟩,h1 _ H1 μ1 u1 S1 (src_list ea (fun G' c=>of_decide_eq_true c) (.inl rfl))⟩⟩
   |frz xs=>rw[q]at h1;obtain⟨vs,e1,r⟩:=ob;exact⟨a,rfl,.inl ⟨⟨vs,e1.sq⟩,h1 _ H1 μ1 u1 S1 (src_list ea (fun G' c=>of_decide_eq_true c) (.inr rfl))⟩⟩
   |_=>rw[q]at h1;cases h1
 |_=>cases h1
def Pn{K:PySem.W.Frag}{μ:List Addr}{H:Hp}(i:Int)(n:Nat):zw T K μ H ⟨M3.rng i n,fun _=>true⟩ (Itr i n):=by
 refine⟨fun j d μ' H' G' u S c e=>(M3.nR e).2,fun j d v μ' H' H'' G' u S c e y=>?_,fun μ' H' G' u S c=>Nat.le_of_eq M3.qP.symm⟩;obtain⟨rfl,_⟩:=M3.nR e;obtain⟨rfl,y⟩:=y;exact⟨fun _ _ z=>z,y⟩
def xI(h:M3.ur i=true):-(2 ^ 62)<=i/\i < 2 ^ 62:=of_decide_eq_true h
def nF(hm:X.mg "range"=none)(ha:PE X a (tE T X.K Y fa))(hg:Gl X "range":=by rfl)(hs:starEach [a] X.env=[(false,eval a X.env)]:=by rfl):PI X tg (.Call (.Name "range" p) [a] [] pos) (tI T X.K Y (M3.jw fa)):=by
 refine PI.of (AY hg hm (eB ha je hs) hs) fun σ H R ⟨μ,σ3,G,S,sd,h⟩=>⟨μ,σ3,G,S,sd,bj h fun d G1 v H1 μ1 u1 S1 d1 h1=>?_⟩;cases d with
 |int j=>cases (show v= .int j from d1);obtain⟨c,h1⟩:=lG (c:=M3.ur j=true) h1;exact⟨j,rfl,(xI c).1,(xI c).2,h1 _ H1 μ1 u1 S1 (Pn 0 j.toNat)⟩
 |_=>cases h1
def wK{Z:Nat->M3.Hh->Prop}{ck:M3.Hh->Bool}{body:M3.D->M3.St->M3.M (M3.Fl×M3.St)}{P:M3.Fl×M3.St->M3.Hh->Prop}(h:M3.run (M3.forL ck body [] σ) G P Z):ck G=true/\P (.next,σ) G:=by
 unfold M3.run M3.forL at h;by_cases c:ck G=true
 · rw[if_pos c]at h;exact⟨c,h⟩
 · rw[if_neg c]at h;cases h
def H0(ck:M3.Hh->Bool)(body:M3.D->M3.St->M3.M (M3.Fl×M3.St))(r:List M3.D)(p:M3.Fl×M3.St):M3.M (M3.Fl×M3.St):=match p.1 with
 | .next=>M3.forL ck body r p.2
 | .cont=>M3.forL ck body r p.2
 | .brk=>M3.ret (.next,p.2)
 | .ret d=>M3.ret (.ret d,p.2)
def uz{Z:Nat->M3.Hh->Prop}{ck:M3.Hh->Bool}{body:M3.D->M3.St->M3.M (M3.Fl×M3.St)}{P:M3.Fl×M3.St->M3.Hh->Prop}(h:M3.run (M3.forL ck body (x :: r) σ) G P Z):
 ck G=true/\M3.run (M3.bnd (body x σ) (H0 ck body r)) G P Z:=by
 have e:M3.forL ck body (x :: r) σ G=if ck G then M3.bnd (body x σ) (H0 ck body r) G else none:=by
  conv=>lhs;unfold M3.forL
  rfl
 unfold M3.run at h;rw[e]at h;by_cases c:ck G=true
 · rw[if_pos c]at h;exact⟨c,h⟩
 · rw[if_neg c]at h;cases h
def ue{tg iter:Expr}{body:List Stmt}{it:M3.I3}{g:M3.D->M3.St->M3.M M3.St}{f:M3.S3}(hp:PassesOwn (model X.prog X.w) X.A X.env X.xe)(hc:X.calm=true)(hi:PI X tg iter (tI T X.K Y it))(hg:PG X tg (tG T X.K Y g))(hb:PSs X body (tS T X.K Y f))
 (hs:∀x,foldedSetIterable iter X.env x=pure x:=by intro _;rfl):PS X (.For tg iter body [] pos) (tS T X.K Y (M3.li it g f)):=by
 refine PS.of (CQ hp hc hi hg hb hs) fun D σ H ⟨μ,σ3,G,S,sd,h⟩=>⟨μ,σ3,G,S,sd,cS (M3.aN h) fun src G1 q J H1 μ1 u1 S1 sr=>?_⟩;have q:M3.run (M3.forL src.ck (fun x σ=>M3.bnd (g x σ) f) src.xs σ3) G1 (fw T X.K μ H D) (Y.x μ1 H1):=Y.upE u1 q;refine⟨fun i m σ' H'=>m=src.xs.length - i/\i<=src.xs.length/\∃μ' σ3' G',Up μ1 μ' H1 H'/\Sim T X.K μ' H' G'/\StD X.K H' μ' σ3' σ'/\M3.run (M3.forL src.ck (fun x σ=>M3.bnd (g x σ) f) (src.xs.drop i) σ3') G' (fw T X.K μ H D) (Y.x μ' H'),
  ⟨_,rfl,qf_ _,μ1,σ3,G1,Up.refl _ _,S1,sd.up u1,q⟩,?_⟩
 rintro i m σ' H' ⟨rfl,hi,μ',σ3',G',u',S',wu,q'⟩;by_cases gA:i < src.xs.length
 · rw[List.drop_eq_getElem_cons gA]at q';obtain⟨c,q2⟩:=uz q';have ex:src.xs[i]? =some src.xs[i]:=qA_ gA;refine .inr ⟨sr.go i _ μ' H' G' u' S' c ex,fun σ2 H2=>∃μ2 σ4 G2,Up μ1 μ2 H1 H2/\Sim T X.K μ2 H2 G2/\StD X.K H2 μ2 σ4 σ2/\M3.run (M3.forL src.ck (fun x σ=>M3.bnd (g x σ) f) (src.xs.drop (i+1)) σ4) G2 (fw T X.K μ H D) (Y.x μ2 H2),
    fun σ2 H2 hN=>⟨_,by omega,rfl,gA,hN⟩,fun x H'' y=>?_⟩
   obtain⟨sm,dx⟩:=sr.yld i _ x μ' H' H'' G' u' S' c ex y;have us:Up μ' μ' H' H'':=Up.same sm;refine⟨μ',σ3',G',_,S'.same sm,wu.up us,dx,cS (Y.upE us (M3.aN (M3.aN q2))) fun σ5 G5 q5 σ6 H6 μ6 u6 S6 Ml=>?_⟩;have u6:=us.trans u6;refine⟨μ6,σ5,G5,S6,Ml,cS (Y.upE u6 q5) fun p G7 q7 σ7 H7 μ7 u7 S7 AI=>?_⟩;obtain⟨fl,σ8⟩:=p;have up:=(u1.trans u').trans (u6.trans u7);cases fl with
   |next=>exact⟨μ7,σ8,G7,u'.trans (u6.trans u7),S7,AI,Y.upE (u6.trans u7) q7⟩
   |cont=>exact⟨μ7,σ8,G7,u'.trans (u6.trans u7),S7,AI,Y.upE (u6.trans u7) q7⟩
   |brk=>exact q7 σ7 H7 μ7 up S7 AI
   |ret d=>exact q7 σ7 H7 μ7 up S7 AI
 · have e:i=src.xs.length:=(by omega);subst e;rw[List.drop_length]at q';obtain⟨c,q2⟩:=wK q';exact .inl ⟨sr.stop μ' H' G' u' S' c,q2 σ' H' μ' (u1.trans u') S' wu⟩
def EX.of(T:Tab)(K:PySem.W.Frag)(E:XK):EX:=⟨fun μ H c G=>∀Ca dx H' μ',T.cls c=some Ca->Up μ μ' H H'->Sim T K μ' H' G->E (.ref Ca) dx H',fun u h Ca dx H' μ' e u' S=>h Ca dx H' μ' e (u.trans u') S⟩
def sp3(T:Tab)(K:PySem.W.Frag)(n:Nat)(f:List M3.D->M3.M M3.D):Sp:=fun vs H Q E=>vs.length=n/\∃μ ds G,Sim T K μ H G/\ay K H μ ds vs/\M3.run (f ds) G (dO T K μ H Q) ((EX.of T K E).x μ H)
structure Fn3 (P:Program) (w:World) (K:PySem.W.Frag) (mg:Str->Option Value) (base:Heap) (CX:CXT) (T:Tab) (k:Nat) (x:Str) (n:Nat) (f:List M3.D->M3.M M3.D):Prop where
 ex:∃fa fd ps,cj P w K mg base CX k fa fd ps (sp3 T K n f)/\mg x=some (.ref fa)/\PySem.W.keepIn K (.ref fa)=true/\Binds K fd ps []
 len:∀ds G (Q:M3.D->M3.Hh->Prop) (Z:Nat->M3.Hh->Prop),M3.run (f ds) G Q Z->ds.length=n
def x_call{CX:CXT}{E:XK}{f:List M3.D->M3.M M3.D}(F:Fn3 X.prog X.w X.K X.mg X.base CX T k x n f)(hr:dR k X.A)(hx:fQ CX X E)(ha:PA X (e :: es) (tA T X.K (EX.of T X.K E) f3))(hg:Gl X x:=by rfl)(qg:(x==("__debug__":Str))=false:=by decide)
 (he:starEach (e :: es) X.env=(false,eval e X.env) :: starEach es X.env:=by rfl) (gZ:(backTo pos (starEach es X.env)).any (·.1)=false:=by rfl):PE X (.Call (.Name x p) (e :: es) [] pos) (tE T X.K (EX.of T X.K E) (M3.aq f f3)):=by
 obtain⟨fa,fd,ps,G,hm,hk,hb⟩:=F.ex;refine PE.of (Ha G hr hg hm hk hb .nil hx ha qg he gZ) fun σ H Q ⟨μ,σ3,G,S,sd,h⟩=>⟨μ,σ3,G,S,sd,pY h fun ds G1 vs H1 μ1 u1 S1 d1 h1=>?_⟩;show sp3 T X.K n f (vs++[]) H1 Q E;rw[qY_];exact⟨by rw[<-d1.length];exact F.len _ _ _ _ h1,μ1,ds,G1,S1,d1,cS h1 fun _ _ z=>z.up u1⟩
def qJ{Z:Nat->M3.Hh->Prop}{body:M3.S3}{ds:List M3.D}{Q:M3.D->M3.Hh->Prop}(h:M3.run (M3.fnM n pad body ds) G Q Z):ds.length=n:=by
 unfold M3.fnM at h;exact(lG h).1
def StD.start{K:PySem.W.Frag}{H:Hp}{μ:List Addr}:∀{ds:List M3.D} {vs:List V} (k:Nat),ay K H μ ds vs->StD K H μ (ds.map some++List.replicate k none) (vs.map some++List.replicate k none):=by
 intro ds vs k r;refine⟨by simp [r.length],fun i d e=>?_⟩;by_cases h:i < ds.length
 · rw[qK_ (by simpa using h),qQ_]at e;cases q:ds[i]? with
   |none=>rw[q]at e;cases e
   |some d'=>rw[q]at e;cases e;obtain⟨v,e1,r1⟩:=r.get q;refine⟨v,?_,r1⟩;rw[qK_ (by simpa using (qB_.mp e1).1),qQ_,e1];rfl
 · rw[List.getElem?_append_right (by simpa using h),List.getElem?_replicate]at e;split at e <;> cases e
def iq{E:XK}:fQ CX0 X E:=fun _ _ _ _ _ _ _ h=>h.elim
def Il{P:Program}{w:World}{K:PySem.W.Frag}{mg:Str->Option Value}{base:Heap}{x qual:Str}{st:Stmt}{fa:Addr}{fd:FuncData}{N ps:List Str}{k n:Nat}{pad:M3.St}{body:M3.S3}(F:Fun K x qual st fa fd)(S:iG N ps (bu st))
 (hn:ps.length=n) (EN:pad=List.replicate (N.length - n) none)
 (h:∀(jC:Value) (A:Around) (outer:List Env) (s:Shared) (H:Hp) (E:XK),dR k (A.deeper (envOfC qual (bu st) s.heap.objs.size fa jC))->PSs (mK CX0 P w K mg base N qual (bu st) fa jC A outer s H E).nox (gO st) (tS T K (EX.of T K E) body)):
 cj P w K mg base CX0 (k+1) fa fd ps (sp3 T K n (M3.fnM n pad body)):=by
 refine F.ok S (fun vs H Q E q=>by rw[hn];exact q.1) (fun jC A outer s H vs Q E hr q=>⟨_,h jC A outer s H E hr,?_⟩);obtain⟨hl,μ,ds,G,Sm,d,q⟩:=q;unfold M3.fnM at q;obtain⟨c,q⟩:=lG q;have e1:L2.start N vs=vs.map some++List.replicate (N.length - n) none:=by unfold L2.start;rw[hl]
 rw[e1];refine⟨μ,_,G,Sm,by rw[EN];exact StD.start _ d,cS (M3.aN q) fun r G1 q1 σ' H' μ' u S' wu=>?_⟩;obtain⟨fl,σ2⟩:=r;cases fl with
 |next=>exact q1 .non H' μ' u S' rfl
 |brk=>cases q1
 |cont=>cases q1
 |ret d=>exact fun v dv=>q1 v H' μ' u S' dv
def fn3{P:Program}{w:World}{K:PySem.W.Frag}{mg:Str->Option Value}{base:Heap}{x qual:Str}{st:Stmt}{fa:Addr}{fd:FuncData}{N ps:List Str}{k n:Nat}{pad:M3.St}{body:M3.S3}(F:Fun K x qual st fa fd)(S:iG N ps (bu st))(hm:mg x=some (.ref fa))(hb:Binds K fd ps [])
 (hn:ps.length=n) (EN:pad=List.replicate (N.length - n) none)
 (h:∀(jC:Value) (A:Around) (outer:List Env) (s:Shared) (H:Hp) (E:XK),dR k (A.deeper (envOfC qual (bu st) s.heap.objs.size fa jC))->PSs (mK CX0 P w K mg base N qual (bu st) fa jC A outer s H E).nox (gO st) (tS T K (EX.of T K E) body)):
 Fn3 P w K mg base CX0 T (k+1) x n (M3.fnM n pad body):=⟨⟨fa,fd,ps,Il F S hn EN h,hm,F.kp,hb⟩,fun ds G Q Z q=>qJ q⟩
end
structure Blk (X:Cx) (x:Str) (caps:List (Str×Nat)) (scope:Scope) (cl:List (Str×Addr)):Prop where
 kind:scope.kind= .function
 JH:∀y∈scope.names,y.2≠.cell
 loc:∀y∈scope.names,y.2= .local->scope.names.lookup y.1=some .local
 own:scope.names.lookup x=some .local
 Fn:closureFor scope X.env=pure cl
 nd:(x :: caps.map (·.1)).Nodup
 sub:∀y c,cl.lookup y=some c->X.env.cells.lookup y=some c
 has:∀y,((relabel scope X.env).names.lookup y=some .cell\/(relabel scope X.env).names.lookup y=some .free)->∃c,cl.lookup y=some c
 nox:cl.lookup x=none
 cap:∀(j:Nat) y i,caps[j]? =some (y,i)->X.N[i]? =some y/\(X.env.kindOf y=some .cell\/X.env.kindOf y=some .free)/\((relabel scope X.env).names.lookup y=some .cell\/(relabel scope X.env).names.lookup y=some .free)
def blk(X:Cx)(x:Str)(caps:List (Str×Nat))(scope:Scope)(cl:List (Str×Addr))(s₃:Shared)(H₃:Hp)(C:Addr)(fp:List Addr)(E':Value->Shared->Prop):Cx:=
 {X with N:=x :: caps.map (·.1),s₀:=s₃,H₀:=H₃,env:=compEnvC scope cl C X.env,outer:=X.stack,stack:=X.stack,ex:=fp,fn:=fun y=>decide (y=x),xe:=E'}
def σ0(σ:L2.St)(caps:List (Str×Nat)):L2.St:=none :: caps.map fun p=>(σ[p.2]?).join
section
variable{X:Cx}{x:Str}{caps:List (Str×Nat)}{scope:Scope}{cl:List (Str×Addr)}{pins:List (Addr×Obj)}{σ:L2.St}{H:Hp}{s₃:Shared}{fp:List Addr}{E':Value->Shared->Prop}
def Jm(B:Blk X x caps scope cl)(I:L2.Inv X pins σ H s₃)(hf:∀b∈fp,oZ X pins H b)(Md:∀b∈fp,b < s₃.heap.objs.size):(blk X x caps scope cl s₃ H s₃.heap.objs.size fp E').Ok where
 mod:=I.mod
 kind:=B.kind
 glob:=I.ok.glob
 blt:=I.ok.blt
 above:=qO_ _
 inj:=fun y z c h1 h2=>I.ok.inj y z c (B.sub y c h1) (B.sub z c h2)
 has:=fun y hy=>B.has y hy
 cab:=fun y c hy h=>by
  have e:y=x:=of_decide_eq_true hy;subst e;rw[show (blk X y caps scope cl s₃ H s₃.heap.objs.size fp E').env.cells.lookup y=cl.lookup y from rfl,B.nox]at h;cases h
 hd:=I.ok.hd
 frames:=I.ok.frames
 stk:= .inl rfl
 exf:=fun b hb=>⟨Nat.ne_of_lt (Md b hb),fun y c e=>(hf b hb).2.2.2.2.1 y c (B.sub y c e)⟩
 bs:=I.bs
 bsz:=Nat.le_trans I.ok.bsz I.sz
 zD:=fun b o e hb=>by
  rcases (hf b hb).2.2.2.1 with z |z
  · exact I.ok.zD b o e z
  · exact absurd (qd_ (Heap.lt_size e) (Nat.le_trans I.ok.bsz z)) (qe_ _)
 AM:=fun b hb z=>by
  rcases qS_.mp (I.lz b z)with e |e
  · exact(hf b hb).2.1 e
  · exact(hf b hb).2.2.1 e
 nQ:=I.stack
 frf:=I.qF
def Gi(B:Blk X x caps scope cl)(I:L2.Inv X pins σ H s₃)(hf:∀b∈fp,oZ X pins H b)(Md:∀b∈fp,b < s₃.heap.objs.size){h₁:Heap}{m:Str->Option Value}(IJ:h₁.Ns s₃.heap.objs.size m)(hk:∀b o,s₃.heap.get? b=some o->h₁.get? b=some o):
 L2.Inv (blk X x caps scope cl s₃ H s₃.heap.objs.size fp E') pins (σ0 σ caps) H {s₃ with heap:=h₁,toks:=tk}:=by
 refine⟨Jm B I hf Md,rfl,I.bare,Un.kept hk,⟨m,IJ,fun i y v e1 e2 e3=>?_⟩,fun y c e=>?_,I.hok.fresh (qO_ _),fun y c e=>I.gI y c (B.sub y c e),fun p hp=>?_,I.hok.kept hk,by simp [σ0,blk]⟩
 · cases i with
   |zero=>simp [σ0]at e2
   |succ j=>
    have e2:(caps.map fun p=>(σ[p.2]?).join)[j]? =some (some v):=by simpa [σ0] using e2
    have e1:(caps.map (·.1))[j]? =some y:=by simpa [blk] using e1
    rw[qQ_]at e1 e2;cases q:caps[j]? with
    |none=>rw[q]at e1;cases e1
    |some p=>
     obtain⟨y',i⟩:=p;rw[q]at e1 e2;cases e1;have e2:(σ[i]?).join=some v:=Option.some.inj e2;have e3:σ[i]? =some (some v):=by
      cases z:σ[i]? with
      |none=>rw[z]at e2;cases e2
      |some w=>rw[z]at e2;exact congrArg some e2
     obtain⟨h1,h2,h3⟩:=B.cap j y' i q;obtain⟨m',_,hl⟩:=I.loc;obtain⟨u,ru,l⟩:=hl i y' v h1 e3 (h2.elim (fun z=>.inr (.inl z)) fun z=>.inr (.inr z));refine⟨u,ru,.inr ⟨h3,?_⟩⟩;rcases l with ⟨k,_⟩ |⟨_,c,ec,⟨ob,ho,hd⟩⟩
     · rcases h2 with z |z
       · rw[z]at k;cases k
       · rw[z]at k;cases k
     · obtain⟨c',UL⟩:=B.has y' h3;have:=B.sub y' c' UL;rw[ec]at this;cases this;exact⟨c,UL,ob,hk _ _ ho,hd⟩
 · obtain⟨v,ob,ho,hd⟩:=I.cell y c (B.sub y c e);exact⟨v,ob,hk _ _ ho,hd⟩
 · obtain⟨e,n,ne,nf,d⟩:=I.pin p hp;refine⟨hk _ _ e,n,Nat.ne_of_lt (Heap.lt_size e),fun z=>?_,d⟩;rcases qS_.mp (I.lz p.1 z)with q |q
   · exact ne q
   · exact nf q
end
theorem Sim.lt{X:Cx}{T:Tab}{pins:List (Addr×Obj)}{σ:L2.St}{H:Hp}{s:Shared}{μ:List Addr}{G:M3.Hh}(I:L2.Inv X pins σ H s)(S:Sim T X.K μ H G):∀a∈μ,a < s.heap.objs.size:=by
 intro a ha;obtain⟨n,hn,e⟩:=List.getElem_of_mem ha;have e1:μ[n]? =some a:=by rw[<-e];exact qA_ hn
 have hg:n < G.length:=by rw[<-S.len];exact hn
 have ob:=S.obj n a _ e1 (qA_ hg);generalize G[n]=o at ob;cases q:isF o with
 |false=>obtain⟨u,hu⟩:=ob.live q;exact I.hok.lt hu
 |true=>
  cases o with
  |frz xs=>obtain⟨vs,sq,_⟩:=ob;obtain⟨aJ,_,⟨Ry,n',e',_⟩,_⟩:=I.list sq.sq;exact Heap.lt_size e'
  |_=>cases q
def PTs(X:Cx)(ifs:List Expr)(t:TT):Prop:=
 ∀(pins:List (Addr×Obj)) (s:Shared) (σ:L2.St) (H:Hp) (Q:Bool->Hp->Prop),L2.Inv X pins σ H s->t σ H Q->
  wpAny (model X.prog X.w) X.A (forIn ifs true fun c r=>if r=true then do let ok <-isTrue c X.env (eval c X.env);pure (ForInStep.yield ok)else pure (ForInStep.yield r)) (TP X pins σ Q) X.xe s
def gv{X:Cx}:PTs X [] (tT T X.K Y M3.k9):=fun pins s σ H Q I ⟨μ,σ3,G,S,sd,h⟩=>wpAny_tests_nil ⟨H,I,h H μ (Up.refl _ _) S⟩
def FE{X:Cx}{f:M3.T3}(h:PT X c (tT T X.K Y f)):PTs X [c] (tT T X.K Y f):=fun pins s σ H Q I q=>wpAny_tests_one (h pins s σ H Q I q)
def Bt{Z:Nat->M3.Hh->Prop}{ck:M3.Hh->Bool}{cond:M3.D->M3.M Bool}{elt:M3.D->M3.M M3.D}{P:List M3.D->M3.Hh->Prop}(h:M3.run (M3.cg ck cond elt [] acc) G P Z):ck G=true/\P acc G:=by
 unfold M3.run M3.cg at h;by_cases c:ck G=true
 · rw[if_pos c]at h;exact⟨c,h⟩
 · rw[if_neg c]at h;cases h
def Eu(ck:M3.Hh->Bool)(cond:M3.D->M3.M Bool)(elt:M3.D->M3.M M3.D)(x:M3.D)(r acc:List M3.D)(c:Bool):M3.M (List M3.D):=
 if c then M3.bnd (elt x) (fun y=>if acc.length < M3.aw then M3.cg ck cond elt r (acc++[y])else M3.fail)else M3.cg ck cond elt r acc
def y0{Z:Nat->M3.Hh->Prop}{ck:M3.Hh->Bool}{cond:M3.D->M3.M Bool}{elt:M3.D->M3.M M3.D}{P:List M3.D->M3.Hh->Prop}(h:M3.run (M3.cg ck cond elt (x :: r) acc) G P Z):
 ck G=true/\M3.run (M3.bnd (cond x) (Eu ck cond elt x r acc)) G P Z:=by
 have e:M3.cg ck cond elt (x :: r) acc G=if ck G then M3.bnd (cond x) (Eu ck cond elt x r acc) G else none:=by
  conv=>lhs;unfold M3.cg
  rfl
 unfold M3.run at h;rw[e]at h;by_cases c:ck G=true
 · rw[if_pos c]at h;exact⟨c,h⟩
 · rw[if_neg c]at h;cases h
theorem StD.eZ{K:PySem.W.Frag}{H:Hp}{μ:List Addr}{σ3:M3.St}{σ:L2.St}(sd:StD K H μ σ3 σ)(caps:List (Str×Nat))(o:Option V):StD K H μ (none :: M3.eZ σ3 (caps.map (·.2))) (o :: caps.map fun p=>(σ[p.2]?).join):=by
 refine⟨by simp [M3.eZ],fun i d e=>?_⟩;cases i with
 |zero=>simp at e
 |succ j=>
  have e:(M3.eZ σ3 (caps.map (·.2)))[j]? =some (some d):=by simpa using e
  unfold M3.eZ at e;rw[qQ_,qQ_]at e;cases q:caps[j]? with
  |none=>rw[q]at e;cases e
  |some p=>
   rw[q]at e;have e:(σ3[p.2]?).join=some d:=Option.some.inj e;have e3:σ3[p.2]? =some (some d):=by
    cases z:σ3[p.2]? with
    |none=>rw[z]at e;cases e
    |some w=>rw[z]at e;exact congrArg some e
   obtain⟨v,h1,h2⟩:=sd.at_ _ _ e3;refine⟨v,?_,h2⟩;show (caps.map fun p=>(σ[p.2]?).join)[j]? =some (some v);rw[qQ_,q];show some (σ[p.2]?).join=some (some v);rw[h1];rfl
section
variable{X:Cx}{T:Tab}{Y:EX}{elt iter:Expr}{x:Str}{px:Pos}{ifs:List Expr}{scope:Scope}{cl:List (Str×Addr)}{caps:List (Str×Nat)}{pos:Pos}{fe:M3.E3}{ft:M3.T3}
def Up.off{H H1:Hp}(u:Up μ μ1 H H1)(hp:H p=none)(hw:H1 p=some (.lst ws)):Up μ μ1 H (upd H1 p (.lst ws')):=by
 refine⟨u.pre,⟨fun b xs e=>?_,fun b o v e=>?_⟩,fun b o e n=>?_⟩
 · rw[aI (cx e hp)];exact u.keeps.tup b xs e
 · rw[aI (cx e hp)];exact u.keeps.frz b o v e
 · rw[aI (cx e hp)];exact u.rest b o e n
def Sim.off{T:Tab}{K:PySem.W.Frag}{μ:List Addr}{H:Hp}{G:M3.Hh}{p:Addr}{ws ws':List V}(S:Sim T K μ H G)(hp:p∉μ)(hw:H p=some (.lst ws)):Sim T K μ (upd H p (.lst ws')) G:=by
 have k:Keeps H (upd H p (.lst ws')):=Keeps.write hw (fun _ z=>nomatch z) (fun _ _ z=>nomatch z);refine⟨S.len,fun n a o e1 e2=>(S.obj n a o e1 e2).mono (List.prefix_refl _) k fun y e=>?_,S.inj⟩;rw[aI (by rintro rfl;exact hp (qD_ e1))];exact e
def Lb{α:Type}{K:PySem.W.Frag}{μ:List Addr}{H:Hp}{m:M3.M M3.D}{k:M3.D->M3.M α}{G:M3.Hh}{P:α->M3.Hh->Prop}{R:VK}{Z:Nat->M3.Hh->Prop}(h:M3.run (M3.bnd m k) G P Z)(hz:∀c G,Z c G->Y.x μ H c G)
 (f:∀d G1 v H1 μ1,Up μ μ1 H H1->Sim T K μ1 H1 G1->Den K H1 μ1 d v->M3.run (k d) G1 P Z->R v H1):M3.run m G (dO T K μ H R) (Y.x μ H):=
 M3.ak (M3.aN h) (fun d G1 q v H1 μ1 u S r=>f d G1 v H1 μ1 u S r q) hz
def JP{α:Type}{K:PySem.W.Frag}{μ:List Addr}{H:Hp}{m:M3.M Bool}{k:Bool->M3.M α}{G:M3.Hh}{P:α->M3.Hh->Prop}{R:Bool->Hp->Prop}{Z:Nat->M3.Hh->Prop}(h:M3.run (M3.bnd m k) G P Z)(hz:∀c G,Z c G->Y.x μ H c G)
 (f:∀b G1 H1 μ1,Up μ μ1 H H1->Sim T K μ1 H1 G1->M3.run (k b) G1 P Z->R b H1):M3.run m G (qc T K μ H R) (Y.x μ H):=
 M3.ak (M3.aN h) (fun d G1 q H1 μ1 u S=>f d G1 H1 μ1 u S q) hz
structure PY (X:Cx) (T:Tab) (pins:List (Addr×Obj)) (σ:L2.St) (μ:List Addr) (H:Hp) (P:List M3.D->M3.Hh->Prop) (sz:Nat) (p C:Addr) (s':Shared):Prop where
 ex:∃ys ws H' μ' G',L2.Inv X pins σ H' s'/\Up μ μ' H H'/\Sim T X.K μ' H' G'/\H' p=some (.lst ws)/\p∉μ'/\ay X.K H' μ' ys ws/\P ys G'/\H' C=none/\H p=none
 ns:∃m,s'.heap.Ns C m
 ge:sz<=C
def ul(B:Blk X x caps scope cl)(hc:X.calm=true)(he:∀s₃ H₃ C fp E',PE (blk X x caps scope cl s₃ H₃ C fp E') elt (tE T X.K Y fe))(ht:∀s₃ H₃ C fp E',PTs (blk X x caps scope cl s₃ H₃ C fp E') ifs (tT T X.K Y ft))
 {pins:List (Addr×Obj)} {σ:L2.St} {H:Hp} {s₂:Shared} {it:Addr} {fp:List Addr} {tn:Nat->Heap->Prop} {J:It} {μ:List Addr} {σ3:M3.St} {G:M3.Hh} {src:M3.Src} {E:Value->Shared->Prop}
 (I:L2.Inv X pins σ H s₂) (Tn:Turn X.prog X.w X.K (.Name x px) J fp it tn) (st:tn 0 s₂.heap) (hf:∀b∈fp,oZ X pins H b) (S:Sim T X.K μ H G) (sd:StD X.K H μ σ3 σ) (sr:zw T X.K μ H src J)
 {P:List M3.D->M3.Hh->Prop} (h:M3.run (M3.cg src.ck (fun z=>ft (some z :: M3.eZ σ3 (caps.map (·.2)))) (fun z=>fe (some z :: M3.eZ σ3 (caps.map (·.2)))) src.xs []) G P (Y.x μ H))
 {RR:Value->Addr->Result->Shared->Prop} (fin:∀p C s',PY X T pins σ μ H P s₂.heap.objs.size p C s'->RR (.ref p) C (.ok .next) s'):
 wpAny (model X.prog X.w) X.A (newList []) (fun acc s₃=>wpAny (model X.prog X.w) X.A (newFunctionEnv scope X.env.globals cl [] X.env.qual none .none (some X.env)) (fun Ou s₄=>
  codeAny (model X.prog X.w) X.A (.compStart (.ListComp elt [⟨.Name x px,iter,ifs,0⟩] scope pos) 0 (.ref it) acc {Ou with scope:=relabel scope X.env}) (RR acc Ou.locals) s₄) E s₃) E s₂:=by
 refine wpAny_newObj_type (wpAny_newFunctionEnv B.JH (by intro y hy;simp at hy) (fun h₁ LV LZ=>?_) B.kind);have EQ:H s₂.heap.objs.size=none:=I.hok.fresh (qO_ _);have I3:L2.Inv X pins σ (upd H s₂.heap.objs.size (.lst [])) {s₂ with heap:=s₂.heap.push {cls:= .type "list",data:= .seq ([]:List Value).toArray},toks:=s₂.toks}:=
  I.laid (t':=s₂.toks) (fun b u e=>Heap.get?_push_of_some _ e) (qO_ _) ⟨qf_ _,[],0,.nil,Heap.get?_push_size _ rfl⟩
 have SJ:s₂.heap.objs.size∉μ:=fun z=>qe_ _ (S.lt I _ z);have S3:=S.same (gH.new (.lst []) EQ);have We:Up μ μ H (upd H s₂.heap.objs.size (.lst [])):=Up.same (gH.new _ EQ);have Md:∀b∈fp,b < s₂.heap.objs.size:=fun b hb=>by
  obtain⟨o,e,_⟩:=Tn.obj 0 _ st b hb;exact Heap.lt_size e
 have Tu:∀b∈fp,oZ X pins (upd H s₂.heap.objs.size (.lst [])) b:=fun b hb=>⟨by rw[aI (Nat.ne_of_lt (Md b hb))];exact(hf b hb).1,(hf b hb).2⟩;generalize hpp:s₂.heap.objs.size=p at*;generalize hH3:upd H p (.lst [])=H₃ at*;have UX:H₃ p=some (.lst []):=by rw[<-hH3];exact aH
 generalize hs3:({s₂ with heap:=s₂.heap.push {cls:= .type "list",data:= .seq ([]:List Value).toArray},toks:=s₂.toks}:Shared)=s₃ at*;have N4:s₃.heap.objs.size=p+1:=by rw[<-hs3];show (s₂.heap.push _).objs.size=p+1;rw[Heap.size_push,hpp]
 have OJ:∀b∈fp,b < s₃.heap.objs.size:=fun b hb=>by rw[N4];exact Nat.lt_succ_of_lt (Md b hb)
 have e3:s₂.heap.push {cls:= .type "list",data:= .seq ([]:List Value).toArray}=s₃.heap:=by rw[<-hs3]
 have IL:∀b o,s₃.heap.get? b=some o->h₁.get? b=some o:=fun b o e=>(LZ.2 b (Nat.ne_of_lt (Heap.lt_size e))).trans (Heap.get?_push_of_some _ e);generalize hC:s₃.heap.objs.size=C at*;have I4:∀E',L2.Inv (blk X x caps scope cl s₃ H₃ C fp E') pins (σ0 σ caps) H₃ {s₃ with heap:=h₁,toks:=s₃.toks+([]:List (Str×Value)).length}:=fun E'=>by
  subst hC;exact Gi B I3 Tu OJ LV IL
 have BV:∀b∈fp,(b∈X.ex\/X.s₀.heap.objs.size<=b)/\b≠X.env.locals/\(∀x c,X.env.cells.lookup x=some c->c≠b)/\∀q∈X.pn++pins,q.1≠b:=fun b hb=>⟨(hf b hb).2.2.2.1,(hf b hb).2.1,(hf b hb).2.2.2.2.1,(hf b hb).2.2.2.2.2⟩;have Tv:tn 0 h₁:=Tn.keep 0 _ _ st fun b hb o e=>IL b o (by rw[<-e3];exact Heap.get?_push_of_some _ e);have loop:∀s₄:Shared,s₄={s₃ with heap:=h₁,toks:=s₃.toks+([]:List (Str×Value)).length}->
  codeAny (model X.prog X.w) X.A (.compLoop (.ListComp elt [⟨.Name x px,iter,ifs,0⟩] scope pos) 0 (.ref it) (.ref p) (compEnvC scope cl C X.env)) (RR (.ref p) C) s₄:=by
  rintro s₄ rfl;generalize hE:notedBy (model X.prog X.w) X.A (compEnvC scope cl C X.env) (fun e s'=>RR (.ref p) C (.error e) s')=E';refine codeAny_compLoop_tests (fun k s'=>∃(i:Nat),∃ys ws o H' μ' G',L2.Inv (blk X x caps scope cl s₃ H₃ C fp E') pins (o :: caps.map fun q=>(σ[q.2]?).join) H' s'/\tn i s'.heap/\(∀b∈fp,H' b=none)/\i<=src.xs.length/\k=src.xs.length+1 - i/\
   Up μ μ' H H'/\Sim T X.K μ' H' G'/\H' p=some (.lst ws)/\p∉μ'/\ay X.K H' μ' ys ws/\M3.run (M3.cg src.ck (fun z=>ft (some z :: M3.eZ σ3 (caps.map (·.2)))) (fun z=>fe (some z :: M3.eZ σ3 (caps.map (·.2)))) (src.xs.drop i) ys) G' P (Y.x μ H)) ?_ (src.xs.length+1)
   ⟨0,[],[],none,H₃,μ,G,I4 E',Tv,fun b hb=>(Tu b hb).1,qf_ _,rfl,We,S3,UX,SJ,rfl,h⟩
  rintro k s' ⟨i,ys,ws,o,H',μ',G',I',tn',fr',hi,rfl,E0,S',E8,Mi,LP,q'⟩;rw[hE];have LX:∀{H'':Hp},(∀b∈fp,H'' b=none)->∀b∈fp,oZ (blk X x caps scope cl s₃ H₃ C fp E') pins H'' b:=fun {H''} hn b hb=>by
   refine⟨hn b hb,?_,fun z=>?_,.inl hb,fun y c e=>(hf b hb).2.2.2.2.1 y c (B.sub y c e),(hf b hb).2.2.2.2.2⟩
   · exact Nat.ne_of_lt (OJ b hb)
   · rcases qS_.mp (I3.lz b z)with e |e
     · exact(hf b hb).2.1 e
     · exact(hf b hb).2.2.1 e
  by_cases gA:i < src.xs.length
  · rw[List.drop_eq_getElem_cons gA]at q';obtain⟨c,q2⟩:=y0 q';have ex:src.xs[i]? =some src.xs[i]:=qA_ gA;generalize src.xs[i]=d at ex q2;refine wpAny_mono (Tn.item (blk X x caps scope cl s₃ H₃ C fp E') rfl rfl rfl hc i pins s' _ H' E' I' (LX fr') tn' (sr.go i d μ' H' G' E0 S' c ex)) (fun r s1 ⟨u,hr,h1⟩=>?_) fun _ _ z=>z;subst hr;have go:wpAny (model X.prog X.w) X.A (letOwnedTupleGo (.Name x px) (.ref it) u >>= fun _=>assign (.Name x px) (compEnvC scope cl C X.env) u) (fun _ s₂=>
     wpAny (model X.prog X.w) X.A (forIn ifs true fun c r=>if r=true then do let ok <-isTrue c (compEnvC scope cl C X.env) (eval c (compEnvC scope cl C X.env));pure (ForInStep.yield ok)else pure (ForInStep.yield r)) (fun ok EO=>
      if ok=true then wpAny (model X.prog X.w) X.A (eval elt (compEnvC scope cl C X.env)) (fun y s₄=>
       wpAny (model X.prog X.w) X.A (call (.builtin "list.append") [.ref p,y]) (fun _ s₅=>∃m,m < src.xs.length+1 - i/\∃(i:Nat),∃ys ws o H' μ' G',L2.Inv (blk X x caps scope cl s₃ H₃ C fp E') pins (o :: caps.map fun q=>(σ[q.2]?).join) H' s₅/\tn i s₅.heap/\(∀b∈fp,H' b=none)/\i<=src.xs.length/\m=src.xs.length+1 - i/\
    Up μ μ' H H'/\Sim T X.K μ' H' G'/\H' p=some (.lst ws)/\p∉μ'/\ay X.K H' μ' ys ws/\M3.run (M3.cg src.ck (fun z=>ft (some z :: M3.eZ σ3 (caps.map (·.2)))) (fun z=>fe (some z :: M3.eZ σ3 (caps.map (·.2)))) (src.xs.drop i) ys) G' P (Y.x μ H)) E' s₄) E' EO
     else ∃m,m < src.xs.length+1 - i/\∃(i:Nat),∃ys ws o H' μ' G',L2.Inv (blk X x caps scope cl s₃ H₃ C fp E') pins (o :: caps.map fun q=>(σ[q.2]?).join) H' EO/\tn i EO.heap/\(∀b∈fp,H' b=none)/\i<=src.xs.length/\m=src.xs.length+1 - i/\
    Up μ μ' H H'/\Sim T X.K μ' H' G'/\H' p=some (.lst ws)/\p∉μ'/\ay X.K H' μ' ys ws/\M3.run (M3.cg src.ck (fun z=>ft (some z :: M3.eZ σ3 (caps.map (·.2)))) (fun z=>fe (some z :: M3.eZ σ3 (caps.map (·.2)))) (src.xs.drop i) ys) G' P (Y.x μ H)) E' s₂) E' s1:=by
     refine wpAny_bind (thn h1 fun _ s2 ⟨xv,H'',I5,r5,y5,tn5,fr5⟩=>?_);obtain⟨sm,dx⟩:=sr.yld i d xv μ' H' H'' G' E0 S' c ex y5;have us:Up μ' μ' H' H'':=Up.same sm;have E0:=E0.trans us;have S':=S'.same sm;have E8:=sm _ _ E8;have LP:=ay.up us LP;have Se:=I5.pinned (LX fr5) (Tn.obj _ _ tn5);have back:∀{σ7:L2.St} {H7:Hp} {s7:Shared},L2.Inv (blk X x caps scope cl s₃ H₃ C fp E') (pins++qX fp s2.heap) σ7 H7 s7->tn (i+1) s7.heap/\∀b∈fp,H7 b=none:=fun {σ7 H7 s7} I7=>by
      refine⟨Tn.keep _ _ _ tn5 fun b hb ob eb=>(I7.pin (b,ob) (qE_ _ (qE_ _ (kq hb eb)))).1,fun b hb=>?_⟩;obtain⟨ob,eb,_⟩:=Tn.obj _ _ tn5 b hb;exact(I7.pin (b,ob) (qE_ _ (qE_ _ (kq hb eb)))).2.1
     refine thn (vN (X:=blk X x caps scope cl s₃ H₃ C fp E') (i:=0) (pos:=px) B.nd rfl (.inl (lookup_relabel_local B.own)) (.inl (qZ_ rfl)) _ s2 _ _ xv u (fun σ2 H2=>σ2=some xv :: caps.map (fun q=>(σ[q.2]?).join)/\H2=H'') Se r5 ⟨rfl,rfl⟩) fun _ s3 ⟨σ6,H6,I6,e6,e7⟩=>?_;subst e6 e7;have Ml:StD X.K H6 μ' (some d :: M3.eZ σ3 (caps.map (·.2))) (some xv :: caps.map fun q=>(σ[q.2]?).join):=((sd.up E0).eZ caps (some xv)).set 0 dx;refine thn (ht s₃ H₃ C fp E' _ s3 _ H6 (fun b H8=>∃μ8 G8,Up μ' μ8 H6 H8/\Sim T X.K μ8 H8 G8/\M3.run (Eu src.ck (fun z=>ft (some z :: M3.eZ σ3 (caps.map (·.2)))) (fun z=>fe (some z :: M3.eZ σ3 (caps.map (·.2)))) d (src.xs.drop (i+1)) ys b) G8 P (Y.x μ H)) I6
      ⟨μ',_,G',S',Ml,JP (Y:=Y) q2 (fun _ _ z=>Y.up E0 z) fun b G8 H8 μ8 u8 S8 h8=>⟨μ8,G8,u8,S8,h8⟩⟩) fun b s4 ⟨H8,I8,μ8,G8,u8,S8,h8⟩=>?_
     obtain⟨OM,OK⟩:=u8.rest p _ E8 Mi;cases b with
     |false=>obtain⟨V0,WL⟩:=back I8;exact⟨_,by omega,i+1,ys,ws,some xv,H8,μ8,G8,I8.lM,V0,WL,gA,rfl,E0.trans u8,S8,OM,OK,ay.up u8 LP,h8⟩
     |true=>
      refine thn (he s₃ H₃ C fp E' _ s4 _ H8 (fun v H9=>∃y μ9 G9,Up μ8 μ9 H8 H9/\Sim T X.K μ9 H9 G9/\Den X.K H9 μ9 y v/\M3.run (if ys.length < M3.aw then M3.cg src.ck (fun z=>ft (some z :: M3.eZ σ3 (caps.map (·.2)))) (fun z=>fe (some z :: M3.eZ σ3 (caps.map (·.2)))) (src.xs.drop (i+1)) (ys++[y])else M3.fail) G9 P (Y.x μ H)) I8
       ⟨μ8,_,G8,S8,Ml.up u8,Lb (Y:=Y) h8 (fun _ _ z=>Y.up (E0.trans u8) z) fun y G9 v H9 μ9 u9 S9 d9 h9=>⟨y,μ9,G9,u9,S9,d9,h9⟩⟩) fun yv s5 ⟨v,H9,I9,rv,y,μ9,G9,u9,S9,d9,h9⟩=>?_
      obtain⟨HD,OW⟩:=u9.rest p _ OM OK;obtain⟨hl,h9⟩:=lG h9;have OC:=ay.up (u8.trans u9) LP;refine thn (uA (X:=blk X x caps scope cl s₃ H₃ C fp E') _ s5 _ H9 (.ref p) [v] (.ref p) [yv] (fun _ Uu=>Uu=upd H9 p (.lst (ws++[v]))) I9 rfl (.cons rv .nil) ⟨p,ws,v,rfl,rfl,HD,by rw[<-OC.length,<-cM];exact hl,rfl⟩) fun _ s6 ⟨_,Uu,I10,_,e10⟩=>?_;subst e10;obtain⟨Rg,Qw⟩:=back I10;have V2:Keeps H9 (upd H9 p (.lst (ws++[v]))):=Keeps.write HD (fun _ z=>nomatch z) (fun _ _ z=>nomatch z);exact⟨_,by omega,i+1,ys++[y],ws++[v],some xv,_,μ9,G9,I10.lM,Rg,Qw,gA,rfl,((E0.trans u8).trans u9).off EQ HD,S9.off OW HD,aH,OW,ay.mono (List.prefix_refl _) V2 (OC.append (ay.one d9)),h9⟩
    exact go
  · have e:i=src.xs.length:=(by omega);subst e;rw[List.drop_length]at q';obtain⟨c,q2⟩:=Bt q';refine wpAny_mono (Tn.done (blk X x caps scope cl s₃ H₃ C fp E') rfl rfl rfl hc _ pins s' _ H' E' I' (LX fr') tn' (sr.stop μ' H' G' E0 S' c)) (fun r s1 ⟨hr,I5⟩=>?_) fun _ _ z=>z;subst hr;have I6:L2.Inv X pins σ H' s1:=I3.DC (ch:=fp) I5.os I5.base I5.hok I5.bare BV;obtain⟨m,hm,_⟩:=I5.loc;exact fin p C s1 ⟨⟨ys,ws,H',μ',G',I6,E0,S',E8,Mi,LP,q2,I5.free,EQ⟩,⟨m,hm⟩,by rw[N4];exact Nat.le_succ _⟩
 exact codeAny_compStart_list (loop _ rfl) (Tn.self _ 0 _ _ _ Tv (loop _ rfl))
end
def Sim.adopt{T:Tab}{K:PySem.W.Frag}{μ:List Addr}{H:Hp}{G:M3.Hh}{p:Addr}{ws:List V}{ys:List M3.D}(S:Sim T K μ H G)(hp:p∉μ)(hw:H p=some (.lst ws))(d:ay K H μ ys ws):Sim T K (μ++[p]) H (G++[.lst ys]):=by
 have pre:μ <+: μ++[p]:=⟨[p],rfl⟩;have old:∀(n:Nat) a o',(μ++[p])[n]? =some a->(G++[.lst ys])[n]? =some o'->(μ[n]? =some a/\G[n]? =some o')\/(n=G.length/\a=p/\o'= .lst ys):=by
  intro n a o' e1 e2;by_cases h:n < G.length
  · rw[qK_ (by rw[S.len];exact h)]at e1;rw[qK_ h]at e2;exact .inl ⟨e1,e2⟩
  · have hn:n=G.length:=by
     have:=(qB_.mp e2).1;rw[qN_]at this;simp at this;omega
    subst hn;rw[<-S.len]at e1;simp at e1 e2;exact .inr ⟨rfl,e1.symm,e2.symm⟩
 refine⟨by simp [S.len],fun n a o' e1 e2=>?_,fun n m a o1 o2 Oa e1 e2 e3 e4=>?_⟩
 · rcases old n a o' e1 e2 with ⟨h1,h2⟩ |⟨_,rfl,rfl⟩
   · exact(S.obj n a o' h1 h2).mono pre (Keeps.refl _) fun _ z=>z
   · exact⟨ws,hw,ay.mono pre (Keeps.refl _) d⟩
 · rcases old n a o1 e1 e3 with ⟨h1,h2⟩ |⟨rfl,rfl,rfl⟩
   · rcases old m a o2 e2 e4 with ⟨h3,h4⟩ |⟨rfl,rfl,rfl⟩
     · exact S.inj n m a o1 o2 Oa h1 h3 h2 h4
     · exact absurd (qD_ h1) hp
   · rcases old m a o2 e2 e4 with ⟨h3,h4⟩ |⟨h3,_,_⟩
     · exact absurd (qD_ h3) hp
     · exact absurd h3.symm Oa
def Up.adopt{H H':Hp}(u:Up μ μ' H H')(hp:H p=none):Up μ (μ'++[p]) H H':=
 ⟨u.pre.trans ⟨[p],rfl⟩,u.keeps,fun b o e n=>⟨(u.rest b o e n).1,fun z=>by
   rcases qG_.mp z with z |z
   · exact(u.rest b o e n).2 z
   · simp at z;subst z;rw[hp]at e;cases e⟩⟩
section
variable{X:Cx}{T:Tab}{Y:EX}{elt iter:Expr}{x:Str}{px:Pos}{ifs:List Expr}{scope:Scope}{cl:List (Str×Addr)}{caps:List (Str×Nat)}{pos:Pos}{fe:M3.E3}{ft:M3.T3}{it:M3.I3}
def Ar{H H':Hp}{s₂ s':Shared}(I:L2.Inv X pins σ H s₂)(Fc:s₂.heap.objs.size<=C)(I':L2.Inv X pins σ' H' s')(hC:H' C=none)(hs:Heap.SameBut C s'.heap h'):L2.Inv X pins σ' H' {s' with heap:=h'}:=by
 refine I'.turned (t':=s'.toks) (it:=C) (fun b o hb e=>(hs.2 b hb).trans e) hC (Nat.ne_of_gt (qd_ I.lt Fc)) (.inr (Nat.le_trans I.sz Fc)) (fun y c e z=>?_) fun q hq z=>?_
 · obtain⟨v,w⟩:=I.cell y c e;exact absurd (qd_ w.lt (by rw[z];exact Fc)) (qe_ _)
 · exact absurd (qd_ (Heap.lt_size (I.pin q hq).1) (by rw[z];exact Fc)) (qe_ _)
def oW(B:Blk X x caps scope cl)(hc:X.calm=true)(hi:PI X (.Name x px) iter (tI T X.K Y it))(ht:∀s₃ H₃ C fp E',PTs (blk X x caps scope cl s₃ H₃ C fp E') ifs (tT T X.K Y ft))(he:∀s₃ H₃ C fp E',PE (blk X x caps scope cl s₃ H₃ C fp E') elt (tE T X.K Y fe))
 (hs:∀x,foldedSetIterable iter X.env x=pure x:=by intro _;rfl):PE X (.ListComp elt [⟨.Name x px,iter,ifs,0⟩] scope pos) (tE T X.K Y (M3.ij it (caps.map (·.2)) ft fe)):=by
 intro pins s σ H Q I ⟨μ,σ3,G,S,sd,h⟩;rw[eval_ListComp];refine wpAny_comprehension_free (use:=none) rfl hs B.Fn B.kind B.loc (thn (hi pins s σ H (fun J H1=>∃src μ1 G1,Up μ μ1 H H1/\Sim T X.K μ1 H1 G1/\zw T X.K μ1 H1 src J/\
  M3.run (M3.bnd (M3.cg src.ck (fun x=>ft (some x :: M3.eZ σ3 (caps.map (·.2)))) (fun x=>fe (some x :: M3.eZ σ3 (caps.map (·.2)))) src.xs []) fun ys=>M3.new (.lst ys)) G1 (dO T X.K μ H Q) (Y.x μ1 H1)) I
  ⟨μ,σ3,G,S,sd,cS (M3.aN h) fun src G1 q J H1 μ1 u1 S1 sr=>⟨src,μ1,G1,u1,S1,sr,Y.upE u1 q⟩⟩) fun v s1 h1=>thn h1 fun Pl s2 h2=>?_)
 obtain⟨Vl,fp,tn,J,H1,e,I2,Tn,OF,f2,src,μ1,G1,u1,S1,sr,q⟩:=h2;subst e;refine ul (RR:=fun acc C=>compPost (model X.prog X.w) X.A X.xe none (EP X pins σ Q) acc C) B hc he ht I2 Tn OF f2 S1 (sd.up u1) sr (M3.aN q) fun p C s' ce=>?_;obtain⟨⟨ys,ws,H',μ',G',I',u',S',E8,Mi,d,hP,hC,EQ⟩,⟨m,hm⟩,Fc⟩:=ce;refine⟨m,hm,fun h' RS=>⟨.ref p,H',Ar I2 Fc I' hC RS,rfl,?_⟩⟩;refine hP _ H' (μ'++[p]) (u1.trans (u'.adopt EQ)) (S'.adopt Mi E8 d) ⟨p,?_,rfl⟩;rw[<-S'.len];simp
def jt{py OH:Pos}(B:Blk X x caps scope cl)(hc:X.calm=true)(hN:X.N.Nodup)(Wo:X.N[i]? =some y)(hy:X.env.scope.names.lookup y=some .local)
 (hi:PI X (.Name x px) iter (tI T X.K Y it)) (ht:∀s₃ H₃ C fp E',PTs (blk X x caps scope cl s₃ H₃ C fp E') ifs (tT T X.K Y ft)) (he:∀s₃ H₃ C fp E',PE (blk X x caps scope cl s₃ H₃ C fp E') elt (tE T X.K Y fe))
 (U6:swapsWith (.ListComp elt [⟨.Name x px,iter,ifs,0⟩] scope pos) (some (.Name y py)) OH.line X.env=pure true:=by rfl)
 (hs:∀x,foldedSetIterable iter X.env x=pure x:=by intro _;rfl):PS X (.Assign [.Name y py] (.ListComp elt [⟨.Name x px,iter,ifs,0⟩] scope pos) OH) (tS T X.K Y (M3.aV i (M3.ij it (caps.map (·.2)) ft fe))):=by
 intro pins s σ H D I ⟨μ,σ3,G,S,sd,h⟩;rw[exec_Assign_Name_used _ _ _ _ U6];refine wpAny_bind (wpAny_standAt (wpAny_bind ?_));show wpAny _ X.A (do let _ <-comprehension (.ListComp elt [⟨.Name x px,iter,ifs,0⟩] scope pos) scope X.env _ (newList []) false (eval iter X.env) (some (assign (.Name y py) X.env))) _ _ s;refine wpAny_bind (wpAny_mono (wpAny_comprehension_free (use:=some (assign (.Name y py) X.env)) (Q:=fun _ s'=>SP X pins D .next s') rfl hs B.Fn B.kind B.loc
  (thn (hi pins s σ H (fun J H1=>∃src μ1 G1,Up μ μ1 H H1/\Sim T X.K μ1 H1 G1/\zw T X.K μ1 H1 src J/\
  M3.run (M3.bnd (M3.cg src.ck (fun x=>ft (some x :: M3.eZ σ3 (caps.map (·.2)))) (fun x=>fe (some x :: M3.eZ σ3 (caps.map (·.2)))) src.xs []) fun ys=>M3.bnd (M3.new (.lst ys)) fun d=>M3.ret (.next,σ3.set i (some d))) G1 (fw T X.K μ H D) (Y.x μ1 H1)) I
  ⟨μ,σ3,G,S,sd,cS (M3.aN (by
    have h:M3.run (M3.bnd (M3.bnd (it σ3) fun src=>M3.bnd (M3.cg src.ck (fun x=>ft (some x :: M3.eZ σ3 (caps.map (·.2)))) (fun x=>fe (some x :: M3.eZ σ3 (caps.map (·.2)))) src.xs []) fun ys=>M3.new (.lst ys)) fun d=>M3.ret (.next,σ3.set i (some d))) G (fw T X.K μ H D) (Y.x μ H):=h;rw[M3.mx]at h
    exact h)) fun src G1 q J H1 μ1 u1 S1 sr=>⟨src,μ1,G1,u1,S1,sr,Y.upE u1 (by rw[M3.mx]at q;exact q)⟩⟩) fun v s1 h1=>thn h1 fun Pl s2 h2=>?_)) (fun _ s' hq=>wpAny_pure (wpAny_pure hq)) fun _ _ e=>e)
 obtain⟨Vl,fp,tn,J,H1,e,I2,Tn,OF,f2,src,μ1,G1,u1,S1,sr,q⟩:=h2;subst e;refine ul (RR:=fun acc C=>compPost (model X.prog X.w) X.A X.xe (some (assign (.Name y py) X.env)) (fun _ s'=>SP X pins D .next s') acc C) B hc he ht I2 Tn OF f2 S1 (sd.up u1) sr (M3.aN q) fun p C s' ce=>?_;obtain⟨⟨ys,ws,H',μ',G',I',u',S',E8,Mi,d,hP,hC,EQ⟩,⟨m,hm⟩,Fc⟩:=ce;show wpAny _ X.A (assign (.Name y py) X.env (.ref p)) _ _ _;refine wpAny_assign_Name (uj I' hN Wo (.inl hy) (v:= .ref p) rfl (fun s3 I3 ⟨a,hsa,Pk⟩=>?_) (.inr hy));have Wn:C≠a:=by
  rintro rfl;rcases Pk with z |z
  · exact absurd I2.lt (by rw[<-z];exact Nat.not_lt.mpr Fc)
  · obtain⟨v,w⟩:=I2.cell _ _ z;exact absurd (qd_ w.lt Fc) (qe_ _)
 refine⟨m,hm.sameBut hsa Wn,fun h' RS=>⟨_,H',Ar I2 Fc I3 hC RS,?_⟩⟩;have Sa:=S'.adopt Mi E8 d;have ua:=(u1.trans (u'.adopt EQ));have dn:Den X.K H' (μ'++[p]) (.ref G'.length) (.ref p):=⟨p,by rw[<-S'.len];simp,rfl⟩;exact hP _ H' (μ'++[p]) ua Sa ((sd.up ua).set i dn)
theorem Blk.nil(EK:scope.kind= .function)(HL:scope.names.all (fun y=>decide (y.2= .local))=true)(Qx:∀y∈scope.names,scope.names.lookup y.1=some .local)(Sz:scope.names.lookup x=some .local):Blk X x [] scope []:=by
 have hl:∀y∈scope.names,y.2= .local:=fun y hy=>of_decide_eq_true (List.all_eq_true.mp HL y hy);refine⟨EK,fun y hy z=>?_,fun y hy _=>Qx y hy,Sz,closureFor_none fun y hy z=>?_,(by simp),(fun y c e=>by cases e),(fun y hy=>?_),rfl,(fun j y i e=>by simp at e)⟩
 · rw[hl y hy]at z;cases z
 · rw[hl y hy]at z;cases z
 · exfalso;have key:∀(l:List (Str×NameKind)),(∀z∈l,z.2= .local)->∀k,(l.map fun(n,k)=>if (k==NameKind.free&&X.env.scope.kind== .function&&X.env.kindOf n==some .cell)then (n,NameKind.cell)else (n,k)).lookup y=some k->k= .local:=by
    intro l
    induction l with
    |nil=>intro _ k e;cases e
    |cons z r ih=>
     intro hz k e;obtain⟨n,kk⟩:=z;have hk:kk= .local:=hz (n,kk) qI_;subst hk;rw[List.map_cons]at e;simp only[show (NameKind.local==NameKind.free)=false from rfl,Bool.false_and,Bool.false_eq_true,if_false,List.lookup_cons]at e;cases q:y==n with
     |true=>rw[q]at e;cases e;rfl
     |false=>rw[q]at e;exact ih (fun w hw=>hz w (qR_ _ hw)) k e
   rcases hy with z |z
   · exact absurd (key _ hl _ z) (by decide)
   · exact absurd (key _ hl _ z) (by decide)
end
def HY(K:PySem.W.Frag)(mg:Str->Option Value)(x:Str)(d:M3.D):Prop:=∃v u,mg x=some u/\RelV v u/\∀H μ,Den K H μ d v
section
variable{X:Cx}{T:Tab}{Y:EX}{a b e:Expr}{fa fb:M3.E3}{pos:Pos}
def Jn(h:HY X.K X.mg x d)(hg:Gl X x:=by rfl)(hd:(x==("__debug__":Str))=false:=by decide):PE X (.Name x pos) (tE T X.K Y (M3.eC d)):=by
 obtain⟨v,u,h1,h2,h3⟩:=h;exact oC (Fu hg h1 h2 hd) h3
def HW(hu:X.A.units+64 < cLine):OpR X (compareOp .Eq) (sT T X.K false)/\Br2 T X.K Y M3.oEq (sT T X.K false):=IW (by omega)
def Ik(hu:X.A.units+64 < cLine):OpR X (compareOp .NotEq) (sT T X.K true)/\Br2 T X.K Y M3.oNe (sT T X.K true):=J2 (by omega)
def wG(hu:X.A.units+64 < cLine):OpR X (compareOp .NotIn) (B1 T X.K true)/\Br2 T X.K Y M3.lT (B1 T X.K true):=Bg (by omega)
def N2(hu:X.A.units+64 < cLine):OpR X (compareOp .Lt) (Fy X.K)/\Br2 T X.K Y M3.oLt (Fy X.K):=KO (by omega)
def Iu(hu:X.A.units+64 < cLine):OpR X (compareOp .Gt) (GR X.K)/\Br2 T X.K Y M3.oGt (GR X.K):=Kh (by omega)
def M4(hu:X.A.units+64 < cLine):OpR X (compareOp .LtE) (rI0 fun i j=>.bl (decide (i<=j)))/\Br2 T X.K Y M3.oLe (rI0 fun i j=>.bl (decide (i<=j))):=Ll
def MH(hu:X.A.units+64 < cLine):OpR X (compareOp .GtE) (rI0 fun i j=>.bl (decide (j<=i)))/\Br2 T X.K Y M3.oGe (rI0 fun i j=>.bl (decide (j<=i))):=J9
def A9(hu:X.A.units+64 < cLine)(ha:PE X a (tE T X.K Y fa))(hb:PE X b (tE T X.K Y fb))(hs:vO b:=by intro _ _;rfl):PE X (.Subscript a b pos) (tE T X.K Y (M3.eOp M3.oIx fa fb)):=Pp (by omega) ha hb hs
def z8{K:PySem.W.Frag}{a:Addr}{od:Option Addr}{aJ:Array Value}{n:Nat}{sl:Array (Option Value)}{ds:List M3.D}{vs:List V}(l:K.lookup a=some ⟨.type "tuple",od,.seq aJ n,sl⟩)(hz:aJ.size<=sizeLine)(r:Vals vs aJ.toList)(d:∀H μ,ay K H μ ds vs):∀H μ,Den K H μ (.tup ds) (.ref a):=
 fun H μ=>⟨a,vs,rfl,.inr ⟨_,aJ,n,l,rfl,rfl,hz,r⟩,d H μ⟩
def Kf{T:Tab}{K:PySem.W.Frag}{f:List M3.D->M3.M M3.D}{n:Nat}(h:∀ns:List Int,ns.length<=n->M3.run (f [.ref 0]) [.frz (ns.map M3.D.int)] (fun d _=>d= .bl true) fun _ _=>False)
 {H:Hp} {a:Addr} {ns:List Int} (hl:ns.length<=n) (hO:CP H) (sq:SqL K H a (ns.map V.int)):sp3 T K 1 f [.ref a] H (fun v _=>v= .bl true) fun _ _ _=>False:=by
 have sf:SqF K H a (ns.map V.int):=by
  rcases sq with (sq |⟨o,sq⟩) |sq
  · rcases hO a with z |⟨o,xs,z⟩
    · rw[z]at sq;cases sq
    · rw[z]at sq;cases sq
  · exact .inl ⟨o,sq⟩
  · exact .inr sq
 refine⟨rfl,[a],[.ref 0],[.frz (ns.map M3.D.int)],⟨rfl,fun k b o e1 e2=>?_,fun k m b o o' W9 e1 e2 e3 e4=>?_⟩,⟨.ref a,[],rfl,⟨a,rfl,rfl⟩,rfl⟩,M3.ak (h ns hl) (fun d G' e v H' μ' u S r=>?_) fun _ _ z=>z.elim⟩
 · cases k with
   |zero=>cases e1;cases e2;exact⟨_,sf,ay.vn⟩
   |succ k=>simp at e1
 · cases k with
   |zero=>cases e3;exact .inl rfl
   |succ k=>simp at e1
 · subst e;exact r
end
structure zR (T:Tab) (K:PySem.W.Frag) (f:Nat):Prop where
 cl:∀C Ca,C < 1000->T.cls C=some Ca->Cls K Ca/\jE K Ca (T.nm f)
 inj:∀g,T.nm g=T.nm f->g=f
abbrev oj(T:Tab)(K:PySem.W.Frag)(H:Hp)(μ:List Addr):List (Nat×M3.D)->List (Str×V)->Prop:=Paired (fun(p:Nat×M3.D) (q:Str×V)=>q.1=T.nm p.1/\Den K H μ p.2 q.2)
section
variable{X:Cx}{T:Tab}{Y:EX}{a b e o:Expr}{es:List Expr}{fa fb:M3.E3}{f3:M3.A3}{pos pos' p apos:Pos}
theorem oj.get{K:PySem.W.Frag}{H:Hp}{μ:List Addr}{f:Nat}(hf:∀g,T.nm g=T.nm f->g=f):∀{fs:List (Nat×M3.D)} {ws:List (Str×V)} {d:M3.D},oj T K H μ fs ws->fs.lookup f=some d->∃v,ws.lookup (T.nm f)=some v/\Den K H μ d v
 |_,_,_,.nil,e=>by cases e
 |(g,x) :: fs,(s,w) :: ws,d,.cons ⟨h1,h2⟩ t,e=>by
  have h1:s=T.nm g:=h1;subst h1;by_cases h:g=f
  · subst h;simp at e;subst e;exact⟨w,by simp,h2⟩
  · have hn:¬T.nm f=T.nm g:=fun z=>h (hf g z.symm);have h':(f==g)=false:=by simpa using fun z=>h (Eq.symm z)
    have OX:(T.nm f==T.nm g)=false:=by simpa using hn
    rw[List.lookup_cons,h']at e;rw[List.lookup_cons,OX];exact oj.get hf t e
theorem oj.none{K:PySem.W.Frag}{H:Hp}{μ:List Addr}{m:Str}(hm:∀g,T.nm g≠m):∀{fs:List (Nat×M3.D)} {ws:List (Str×V)},oj T K H μ fs ws->ws.lookup m=Option.none
 |_,_,.nil=>rfl
 |(g,x) :: fs,(s,w) :: ws,.cons ⟨h1,h2⟩ t=>by
  have h1:s=T.nm g:=h1;subst h1;have OX:(m==T.nm g)=false:=by simpa using fun z=>hm g (Eq.symm z)
  rw[List.lookup_cons,OX];exact oj.none hm t
theorem oj.put{K:PySem.W.Frag}{H:Hp}{μ:List Addr}{f:Nat}(hf:∀g,T.nm g=T.nm f->g=f){d:M3.D}{v:V}(dv:Den K H μ d v):∀{fs:List (Nat×M3.D)} {ws:List (Str×V)},oj T K H μ fs ws->oj T K H μ (M3.putN f d fs) (jn (T.nm f) v ws)
 |_,_,.nil=>.cons ⟨rfl,dv⟩ .nil
 |(g,x) :: fs,(s,w) :: ws,.cons ⟨h1,h2⟩ t=>by
  have h1:s=T.nm g:=h1;subst h1;unfold M3.putN jn;by_cases h:g=f
  · subst h;rw[if_pos rfl,if_pos rfl];exact .cons ⟨rfl,dv⟩ t
  · rw[if_neg h,if_neg fun z=>h (hf g z)];exact .cons ⟨rfl,h2⟩ (oj.put hf dv t)
def pK(F:zR T X.K f)(he:PE X e (tE T X.K Y fa))(hn:n=T.nm f:=by rfl)(hb:attributeBase e n X.env (eval e X.env)=eval e X.env:=by rfl):PE X (.Attribute e n pos) (tE T X.K Y (M3.aT fa f)):=by
 subst hn;refine PE.of (Jo he hb) fun σ H Q ⟨μ,σ3,G,S,sd,h⟩=>⟨μ,σ3,G,S,sd,bj h fun d G1 v H1 μ1 u1 S1 d1 h1=>?_⟩;unfold M3.run M3.BX at h1;cases d with
 |ref k=>
  dsimp only at h1;obtain⟨a,ea,rfl⟩:=d1;cases q:G1[k]? with
  |none=>rw[q]at h1;cases h1
  |some ob=>
   have od:=S1.obj k a ob ea q;rw[q]at h1;cases ob with
   |ins C fs=>
    dsimp only at h1;obtain⟨Ca,dx,ws,hc,e1,r⟩:=od;by_cases hC:C < 1000;rotate_left
    · rw[if_neg hC]at h1;cases h1
    rw[if_pos hC]at h1;cases ql:fs.lookup f with
    |none=>rw[ql]at h1;cases h1
    |some d=>rw[ql]at h1;obtain⟨w,e2,dw⟩:=oj.get F.inj r ql;exact⟨a,Ca,dx,ws,w,rfl,e1,(F.cl C Ca hC hc).1,(F.cl C Ca hC hc).2,e2,h1 w H1 μ1 u1 S1 dw⟩
   |_=>cases h1
 |_=>cases h1
def zP{f:Nat}{n:Str}(F:zR T X.K f)(ho:PE X o (tE T X.K Y fa))(he:PE X e (tE T X.K Y fb))(hn:n=T.nm f:=by rfl)(hs:swapsWith e (some (.Attribute o n pos')) pos.line X.env=pure false:=by rfl):PS X (.Assign [.Attribute o n pos'] e pos) (tS T X.K Y (M3.bt fa f fb)):=by
 subst hn;refine PS.of (JE ho he hs) fun D σ H ⟨μ,σ3,G,S,sd,h⟩=>⟨μ,σ3,G,S,sd,bj h fun y G1 w H1 μ1 u1 S1 d1 h1=>⟨μ1,σ3,G1,S1,sd.up u1,bj h1 fun x G2 v H2 μ2 u2 S2 d2 h2=>?_⟩⟩;have h2:=M3.aN h2;unfold M3.run M3.Bm at h2;cases x with
 |ref k=>
  dsimp only at h2;obtain⟨a,ea,rfl⟩:=d2;cases q:G2[k]? with
  |none=>rw[q]at h2;cases h2
  |some ob=>
   have od:=S2.obj k a ob ea q;rw[q]at h2;cases ob with
   |ins C fs=>
    dsimp only at h2;obtain⟨Ca,dx,ws,hc,e1,r⟩:=od;by_cases c:C < 1000/\fs.length < 1000
    · rw[if_pos c]at h2;have up:=Up.set S2 (.ins Ca dx (jn (T.nm f) w ws)) ea q rfl;refine⟨a,Ca,dx,ws,rfl,e1,(F.cl C Ca c.1 hc).1,(F.cl C Ca c.1 hc).2,by rw[<-Paired.length r];exact c.2,?_⟩;have r2:oj T X.K (upd H2 a (.ins Ca dx (jn (T.nm f) w ws))) μ2 fs ws:=Paired.imp' (fun _ _ z=>⟨z.1,Den.up up z.2⟩) r;exact h2 _ _ μ2 ((u1.trans u2).trans up) (S2.set ea q rfl rfl ⟨Ca,dx,_,hc,aH,oj.put F.inj (Den.up (u2.trans up) d1) r2⟩) (sd.up ((u1.trans u2).trans up))
    · rw[if_neg c]at h2;cases h2
   |_=>cases h2
 |_=>cases h2
structure Mt3 (P:Program) (w:World) (K:PySem.W.Frag) (mg:Str->Option Value) (base:Heap) (CX:CXT) (T:Tab) (k:Nat) (C:Nat) (m:Str) (n:Nat) (f:List M3.D->M3.M M3.D):Prop where
 ex:∃Ca fa fd ps,T.cls C=some Ca/\Cls K Ca/\Meth K Ca m fa/\cj P w K mg base CX k fa fd ps (sp3 T K n f)/\Binds K fd ps []
 no:∀g,T.nm g≠m
 len:∀ds G (Q:M3.D->M3.Hh->Prop) (Z:Nat->M3.Hh->Prop),M3.run (f ds) G Q Z->ds.length=n
def JM{Z:Nat->M3.Hh->Prop}{G:M3.Hh}{P:Unit->M3.Hh->Prop}(h:M3.run (M3.isC C x) G P Z):∃k fs,x= .ref k/\G[k]? =some (.ins C fs)/\P () G:=by
 unfold M3.run M3.isC at h;cases x with
 |ref k=>
  dsimp only at h;cases q:G[k]? with
  |none=>rw[q]at h;cases h
  |some ob=>
   rw[q]at h;cases ob with
   |ins C' fs=>
    dsimp only at h;by_cases c:C'=C
    · rw[if_pos c]at h;subst c;exact⟨k,fs,rfl,q,h⟩
    · rw[if_neg c]at h;cases h
   |_=>cases h
 |_=>cases h
def y9{CX:CXT}{E:XK}{P:Program}{w:World}{K:PySem.W.Frag}{mg:Str->Option Value}{base:Heap}{k n:Nat}{C:Nat}{Ca:Addr}{m:Str}{g:List M3.D->M3.M M3.D}(hc:T.cls C=some Ca)(no:∀g,T.nm g≠m)(len:∀ds G (Q:M3.D->M3.Hh->Prop) (Z:Nat->M3.Hh->Prop),M3.run (g ds) G Q Z->ds.length=n)
 {σ:L2.St} {H:Hp} {Q:VK} (h:tE T K (EX.of T K E) (M3.aK C g fa f3) σ H Q):Ci Ca m (sp3 T K n g) [] E (tE T K (EX.of T K E) fa) (tA T K (EX.of T K E) f3) σ H Q:=by
 obtain⟨μ,σ3,G,S,sd,h⟩:=h;refine⟨μ,σ3,G,S,sd,bj h fun x G1 v H1 μ1 u1 S1 d1 h1=>?_⟩;obtain⟨i,fs,rfl,q,h2⟩:=JM (M3.aN h1);obtain⟨a,ea,rfl⟩:=id d1;obtain⟨W6,dx,ws,OT,e1,r⟩:=S1.obj i a _ ea q;rw[hc]at OT;cases OT;refine⟨a,dx,ws,rfl,e1,oj.none no r,μ1,σ3,G1,S1,sd.up u1,pY h2 fun ds G2 vs H2 μ2 u2 S2 d2 h3=>?_⟩;rw[qY_];have dd:ay K H2 μ2 (.ref i :: ds) (.ref a :: vs):=⟨_,_,rfl,Den.up u2 d1,d2⟩;exact⟨by rw[<-dd.length];exact len _ _ _ _ h3,μ2,_,G2,S2,dd,cS h3 fun _ _ z=>z.up (u1.trans u2)⟩
def yx{CX:CXT}{E:XK}{k n:Nat}{C:Nat}{m:Str}{g:List M3.D->M3.M M3.D}{pl:Sem Bool}(F:Mt3 X.prog X.w X.K X.mg X.base CX T k C m n g)(hr:dR k X.A)(hx:fQ CX X E)(ho:PE X o (tE T X.K (EX.of T X.K E) fa))(ha:PA X (e :: es) (tA T X.K (EX.of T X.K E) f3))
 (HE:starEach (e :: es) X.env=(false,eval e X.env) :: starEach es X.env:=by rfl) (gZ:(backTo pos (starEach es X.env)).any (·.1)=false:=by rfl)
 (ht:eval (.Call (.Attribute o m apos) (e :: es) [] pos) X.env=(do
   let ov <-eval o X.env
   standAt apos.atName
   let (f,first) <-holding [ov] (getMethod ov m pl)
   callWith pos f first (backTo pos (starEach (e :: es) X.env)) (backToKw pos (keywordEach [] X.env))):=by rfl):
 PE X (.Call (.Attribute o m apos) (e :: es) [] pos) (tE T X.K (EX.of T X.K E) (M3.aK C g fa f3)):=by
 obtain⟨Ca,Q8,fd,ps,hc,cl,hm,G,hb⟩:=F.ex;exact PE.of (Fo (pl:=pl) ho cl hm G hr hb .nil hx ha HE gZ ht) fun _ _ _ h=>y9 (CX:=CX) (P:=X.prog) (w:=X.w) (mg:=X.mg) (base:=X.base) (k:=k) hc F.no F.len h
def zU{CX:CXT}{E:XK}{k n:Nat}{C:Nat}{m:Str}{g:List M3.D->M3.M M3.D}{pl:Sem Bool}(F:Mt3 X.prog X.w X.K X.mg X.base CX T k C m n g)(hr:dR k X.A)(hx:fQ CX X E)(ho:PE X o (tE T X.K (EX.of T X.K E) fa))
 (ht:eval (.Call (.Attribute o m apos) [] [] pos) X.env=(do
   let ov <-eval o X.env
   standAt apos.atName
   let (f,first) <-holding [ov] (getMethod ov m pl)
   callWith pos f first (backTo pos (starEach [] X.env)) (backToKw pos (keywordEach [] X.env))):=by rfl):
 PE X (.Call (.Attribute o m apos) [] [] pos) (tE T X.K (EX.of T X.K E) (M3.aK C g fa M3.ah)):=by
 obtain⟨Ca,Q8,fd,ps,hc,cl,hm,G,hb⟩:=F.ex;refine PE.of (DJ (pl:=pl) ho cl hm G hr hb .nil hx ht) fun σ H Q h=>?_;obtain⟨μ,σ3,G,S,sd,h⟩:=y9 (f3:=M3.ah) (CX:=CX) (P:=X.prog) (w:=X.w) (mg:=X.mg) (base:=X.base) (k:=k) hc F.no F.len h;refine⟨μ,σ3,G,S,sd,cS h fun d G1 q v H1 μ1 u1 S1 d1=>?_⟩;obtain⟨a,dx,fs,e1,e2,e3,μ2,σ4,G2,S2,WR,h2⟩:=q v H1 μ1 u1 S1 d1;exact⟨a,dx,fs,e1,e2,e3,h2 [] H1 μ2 (Up.refl _ _) S2 rfl⟩
structure Ct3 (P:Program) (w:World) (K:PySem.W.Frag) (mg:Str->Option Value) (base:Heap) (CX:CXT) (T:Tab) (k:Nat) (x:Str) (C:Nat) (n:Nat) (f:List M3.D->M3.M M3.D):Prop where
 ex:∃Ca fa fd ps,T.cls C=some Ca/\Mk K Ca fa/\mg x=some (.ref Ca)/\cj P w K mg base CX k fa fd ps (sp3 T K n f)/\Binds K fd ps []
 len:∀ds G (Q:M3.D->M3.Hh->Prop) (Z:Nat->M3.Hh->Prop),M3.run (f ds) G Q Z->ds.length=n
def Ec{E:XK}{K:PySem.W.Frag}{n:Nat}{C:Nat}{Ca:Addr}{g:List M3.D->M3.M M3.D}(hc:T.cls C=some Ca)(len:∀ds G (Q:M3.D->M3.Hh->Prop) (Z:Nat->M3.Hh->Prop),M3.run (g ds) G Q Z->ds.length=n)
 {H1:Hp} {μ μ1:List Addr} {H:Hp} {G1:M3.Hh} {ds:List M3.D} {vs:List V} {Q:VK} (u1:Up μ μ1 H H1) (S1:Sim T K μ1 H1 G1) (d1:ay K H1 μ1 ds vs) (h:M3.run (M3.bnd (M3.new (.ins C [])) fun x=>M3.bnd (g (x :: ds)) fun r=>M3.bnd (M3.Au r) fun _=>M3.ret x) G1 (dO T K μ H Q) ((EX.of T K E).x μ1 H1)):
 ∀x dx,H1 x=none->H1 dx=none->dx≠x->sp3 T K n g (.ref x :: vs) (upd (upd H1 dx (.own x)) x (.ins Ca dx [])) (fun v H2=>v= .non/\Q (.ref x) H2) E:=by
 intro x dx hx Tx mU;have UO:upd H1 dx (.own x) x=none:=by rw[aI (Ne.symm mU)];exact hx
 have ua:Up μ1 μ1 H1 (upd H1 dx (.own x)):=Up.same (gH.new _ Tx);have Sa:=S1.same (gH.new (.own x) Tx);have ub:=Up.new (μ:=μ1) (.ins Ca dx []) UO;have Sb:=Sa.new (o:= .ins C []) UO rfl ⟨Ca,dx,[],hc,aH,.nil⟩;have RK:=ua.trans ub;have LJ:Den K (upd (upd H1 dx (.own x)) x (.ins Ca dx [])) (μ1++[x]) (.ref G1.length) (.ref x):=⟨x,by rw[<-S1.len];simp,rfl⟩;have dd:ay K (upd (upd H1 dx (.own x)) x (.ins Ca dx [])) (μ1++[x]) (.ref G1.length :: ds) (.ref x :: vs):=⟨_,_,rfl,LJ,ay.up RK d1⟩;have h2:M3.run (M3.bnd (g (.ref G1.length :: ds)) fun r=>M3.bnd (M3.Au r) fun _=>M3.ret (M3.D.ref G1.length)) (G1++[.ins C []]) (dO T K μ H Q) ((EX.of T K E).x μ1 H1):=h;refine⟨by rw[<-dd.length];exact len _ _ _ _ (M3.aN h2),_,_,_,Sb,dd,M3.ak (M3.aN h2) (fun r G2 q v H2 μ2 u2 S2 dr=>?_) fun c G2 z=>(EX.of T K E).up RK z⟩;cases r with
 |non=>exact⟨dr,q _ H2 μ2 ((u1.trans RK).trans u2) S2 (Den.up u2 LJ)⟩
 |_=>cases q
def DA{CX:CXT}{E:XK}{g:List M3.D->M3.M M3.D}(F:Ct3 X.prog X.w X.K X.mg X.base CX T k x C n g)(hr:dR (k+1) X.A)(hx:fQ CX X E)(ha:PA X (e :: es) (tA T X.K (EX.of T X.K E) f3))(hg:Gl X x:=by rfl)(qg:(x==("__debug__":Str))=false:=by decide)
 (he:starEach (e :: es) X.env=(false,eval e X.env) :: starEach es X.env:=by rfl) (gZ:(backTo pos (starEach es X.env)).any (·.1)=false:=by rfl):PE X (.Call (.Name x p) (e :: es) [] pos) (tE T X.K (EX.of T X.K E) (M3.kC C g f3)):=by
 obtain⟨Ca,Q8,fd,ps,hc,M,hm,G,hb⟩:=F.ex;refine PE.of (Gj M G hr hg hm hb .nil hx ha qg he gZ) fun σ H Q ⟨μ,σ3,G,S,sd,h⟩=>⟨μ,σ3,G,S,sd,pY h fun ds G1 vs H1 μ1 u1 S1 d1 h1=>?_⟩;rw[qY_];exact Ec hc F.len u1 S1 d1 h1
def Al{CX:CXT}{E:XK}{g:List M3.D->M3.M M3.D}(F:Ct3 X.prog X.w X.K X.mg X.base CX T k x C n g)(hr:dR (k+1) X.A)(hx:fQ CX X E)(hg:Gl X x:=by rfl)(qg:(x==("__debug__":Str))=false:=by decide):
 PE X (.Call (.Name x p) [] [] pos) (tE T X.K (EX.of T X.K E) (M3.kC C g M3.ah)):=by
 obtain⟨Ca,Q8,fd,ps,hc,M,hm,G,hb⟩:=F.ex;refine PE.of (B8 M G hr hg hm hb .nil hx qg) fun σ H Q ⟨μ,σ3,G,S,sd,h⟩=>?_;exact Ec (ds:=[]) (vs:=[]) hc F.len (Up.refl _ _) S rfl h
end
section
variable{X:Cx}{T:Tab}{Y:EX}{a b e o i:Expr}{es:List Expr}{fa fb fc:M3.E3}{ft:M3.T3}{f3:M3.A3}{pos pos' p p2 apos:Pos}
abbrev iC{κ:Type}(K:PySem.W.Frag)(H:Hp)(μ:List Addr):List (κ×M3.D)->List (κ×V)->Prop:=Paired (fun(p:κ×M3.D) (q:κ×V)=>p.1=q.1/\Den K H μ p.2 q.2)
theorem iC.any{κ:Type} [DecidableEq κ]{K:PySem.W.Frag}{H:Hp}{μ:List Addr}(k:κ):∀{kvs:List (κ×M3.D)} {ws:List (κ×V)},iC K H μ kvs ws->(kvs.any fun kv=>decide (kv.1=k))=ws.any fun kv=>decide (kv.1=k)
 |_,_,.nil=>rfl
 |(k1,d) :: kvs,(k2,v) :: ws,.cons ⟨h1,h2⟩ t=>by
  cases (show k1=k2 from h1);rw[List.any_cons,List.any_cons,iC.any k t]
theorem iC.map{κ:Type} [DecidableEq κ]{K:PySem.W.Frag}{H:Hp}{μ:List Addr}(k:κ){d:M3.D}{v:V}(dv:Den K H μ d v):∀{kvs:List (κ×M3.D)} {ws:List (κ×V)},iC K H μ kvs ws->iC K H μ (kvs.map fun kv=>if kv.1=k then (kv.1,d)else kv) (ws.map fun kv=>if kv.1=k then (kv.1,v)else kv)
 |_,_,.nil=>.nil
 |(k1,x) :: kvs,(k2,w) :: ws,.cons ⟨h1,h2⟩ t=>by
  cases (show k1=k2 from h1);rw[List.map_cons,List.map_cons];by_cases h:k1=k
  · rw[if_pos h,if_pos h];exact .cons ⟨rfl,dv⟩ (iC.map k dv t)
  · rw[if_neg h,if_neg h];exact .cons ⟨rfl,h2⟩ (iC.map k dv t)
theorem iC.snoc{κ:Type}{K:PySem.W.Frag}{H:Hp}{μ:List Addr}(k:κ){d:M3.D}{v:V}(dv:Den K H μ d v):∀{kvs:List (κ×M3.D)} {ws:List (κ×V)},iC K H μ kvs ws->iC K H μ (kvs++[(k,d)]) (ws++[(k,v)])
 |_,_,.nil=>.cons ⟨rfl,dv⟩ .nil
 |_,_,.cons h t=>.cons h (iC.snoc k dv t)
theorem iC.put{κ:Type} [DecidableEq κ]{K:PySem.W.Frag}{H:Hp}{μ:List Addr}(k:κ){d:M3.D}{v:V}(dv:Den K H μ d v){kvs:List (κ×M3.D)}{ws:List (κ×V)}(r:iC K H μ kvs ws):iC K H μ (M3.put kvs k d) (putK ws k v):=by
 unfold M3.put putK;rw[iC.any k r];by_cases h:(ws.any fun kv=>decide (kv.1=k))=true
 · rw[if_pos h,if_pos h];exact iC.map k dv r
 · rw[if_neg h,if_neg h];exact iC.snoc k dv r
def GP:PE X (.Dict [] [] pos) (tE T X.K Y M3.lR):=by
 refine PE.of Cd fun σ H Q ⟨μ,σ3,G,S,sd,h⟩ q hq=>?_;have u2:=Up.new (μ:=μ) (.dK []) hq;refine h _ _ (μ++[q]) u2 (S.new hq rfl ⟨[],aH,.nil⟩) ⟨q,?_,rfl⟩;rw[<-S.len];simp
def set_dict(hu:X.A.units+64 < cLine):w4 X (fun o i v H Q=>∃a H',o= .ref a/\Cg H a i v H'/\Q H'):=by
 intro pins s σ H o i v ov iv u Q I ro ri rv h;obtain⟨a,H',rfl,g,q⟩:=h;cases (show ov=Value.ref a from ro);exact Bs (by omega) I g ri rv fun s' I'=>⟨H',I',q⟩
def w4.or{t t':Gg}(h:w4 X t)(h':w4 X t'):w4 X (fun o i v H Q=>t o i v H Q\/t' o i v H Q):=by
 intro pins s σ H o i v ov iv u Q I ro ri rv q;rcases q with q |q
 · exact h pins s σ H o i v ov iv u Q I ro ri rv q
 · exact h' pins s σ H o i v ov iv u Q I ro ri rv q
theorem ay.set{K:PySem.W.Frag}{H:Hp}{μ:List Addr}{d:M3.D}{v:V}(dv:Den K H μ d v):∀{ds:List M3.D} {vs:List V} (j:Nat),ay K H μ ds vs->ay K H μ (ds.set j d) (vs.set j v)
 | [],_,_,h=>by cases (show _=[]from h);rfl
 |_ :: _,_,0,⟨w,r,e,h,t⟩=>by subst e;exact⟨v,r,rfl,dv,t⟩
 |_ :: _,_,j+1,⟨w,r,e,h,t⟩=>by subst e;exact⟨w,r.set j v,rfl,h,ay.set dv j t⟩
def Ig(hu:X.A.units+64 < cLine)(ho:PE X o (tE T X.K Y fa))(hi:PE X i (tE T X.K Y fb))(he:PE X e (tE T X.K Y fc))
 (ha:∀v,assign (.Subscript o i pos') X.env v=(do
   let ov <-holding [v] (eval o X.env)
   let iv <-holding [v,ov] (eval i X.env)
   standAt pos'
   holding [v,ov,iv] (setItem ov iv v)
   release [v,ov,iv] []):=by intro _;rfl)
 (hs:swapsWithSole [.Subscript o i pos'] e pos.line X.env=pure false:=by rfl) (hw:swappedStores [.Subscript o i pos'] e X.env=pure none:=by rfl)
 (h1:(assignEach [.Subscript o i pos'] X.env).map (·.2)=[assign (.Subscript o i pos') X.env]:=by rfl):PS X (.Assign [.Subscript o i pos'] e pos) (tS T X.K Y (M3.dS fa fb fc)):=by
 refine PS.of (Ed he (Kx ho hi (w4.or set_list (set_dict hu)) ha) hs hw h1) fun D σ H ⟨μ,σ3,G,S,sd,h⟩=>⟨μ,σ3,G,S,sd,bj h fun w G1 wv H1 μ1 u1 S1 d1 h1=>?_⟩;refine⟨μ1,σ3,G1,S1,sd.up u1,bj h1 fun x G2 xv H2 μ2 u2 S2 d2 h2=>⟨μ2,σ3,G2,S2,sd.up (u1.trans u2),bj h2 fun y G3 yv H3 μ3 u3 S3 d3 h3=>?_⟩⟩;have h3:=M3.aN h3;have dw:=Den.up (u2.trans u3) d1;unfold M3.run M3.vE at h3;cases x with
 |ref n=>
  dsimp only at h3;obtain⟨c,ec,rfl⟩:=Den.up u3 d2;cases q:G3[n]? with
  |none=>rw[q]at h3;cases h3
  |some ob=>
   have od:=S3.obj n c ob ec q;rw[q]at h3;cases ob with
   |lst xs=>
    obtain⟨vs,e1,r⟩:=od;cases y with
    |int k=>
     dsimp only at h3;cases qk:M3.ixN xs.length k with
     |none=>rw[qk]at h3;cases h3
     |some j=>rw[qk]at h3;have up:=Up.set S3 (.lst (vs.set j wv)) ec q rfl;refine .inl ⟨c,vs,k,j,rfl,d3,e1,by rw[<-r.length];exact qk,?_⟩;exact h3 _ _ μ3 (((u1.trans u2).trans u3).trans up) (S3.set ec q rfl rfl ⟨_,aH,ay.up up (ay.set dw j r)⟩) (sd.up (((u1.trans u2).trans u3).trans up))
    |_=>cases h3
   |dK kvs=>
    obtain⟨ws,e1,r⟩:=od;dsimp only at h3;cases qk:M3.qW y with
    |none=>rw[qk]at h3;cases h3
    |some k=>
     rw[qk]at h3;dsimp only at h3;by_cases cl:kvs.length < M3.aw
     · rw[if_pos cl]at h3;cases wd qk d3;have up:=Up.set S3 (.dK (putK ws k wv)) ec q rfl;refine .inr ⟨c,_,rfl,Cg.k e1 (by rw[<-Paired.length r,<-cM];exact cl),?_⟩;have r2:iC X.K (upd H3 c (.dK (putK ws k wv))) μ3 kvs ws:=Paired.imp' (fun _ _ z=>⟨z.1,Den.up up z.2⟩) r;exact h3 _ _ μ3 (((u1.trans u2).trans u3).trans up) (S3.set ec q rfl rfl ⟨_,aH,iC.put k (Den.up up dw) r2⟩) (sd.up (((u1.trans u2).trans u3).trans up))
     · rw[if_neg cl]at h3;cases h3
   |_=>cases h3
 |_=>cases h3
def N0(T:Tab)(K:PySem.W.Frag)(μ:List Addr)(H:Hp)(Q:Option Int->Hp->Prop)(d:Option Int)(G':M3.Hh):Prop:=∀H' μ',Up μ μ' H H'->Sim T K μ' H' G'->Q d H'
def tP(T:Tab)(K:PySem.W.Frag)(Y:EX)(f:M3.P3):TO:=fun σ H Q=>∃μ σ3 G,Sim T K μ H G/\StD K H μ σ3 σ/\M3.run (f σ3) G (N0 T K μ H Q) (Y.x μ H)
def PO.of{e:Option Expr}{t u:TO}(h:PO X e t)(f:∀σ H Q,u σ H Q->t σ H Q):PO X e u:=fun pins s σ H Q I q=>h pins s σ H Q I (f σ H Q q)
def DE:PO X none (tP T X.K Y M3.wF):=PO.of Gk fun σ H Q ⟨μ,σ3,G,S,sd,h⟩=>h H μ (Up.refl _ _) S
def CB(h:PE X e (tE T X.K Y fa)):PO X (some e) (tP T X.K Y (M3.nP fa)):=by
 refine PO.of (Hg h) fun σ H Q ⟨μ,σ3,G,S,sd,h⟩=>⟨μ,σ3,G,S,sd,bj h fun d G1 v H1 μ1 u1 S1 d1 h1=>?_⟩;cases d with
 |int k=>exact⟨k,d1,h1 H1 μ1 u1 S1⟩
 |_=>cases h1
def ay.cut{K:PySem.W.Frag}{H:Hp}{μ:List Addr}{ds:List M3.D}{vs:List V}(r:ay K H μ ds vs)(lo hi:Option Int):ay K H μ (M3.cutD ds lo hi) (sQ vs lo hi):=by
 have dr:∀(n:Nat) {ds:List M3.D} {vs:List V},ay K H μ ds vs->ay K H μ (ds.drop n) (vs.drop n):=by
  intro n
  induction n with
  |zero=>intro ds vs r;simpa using r
  |succ n ih=>
   intro ds vs r;cases ds with
   |nil=>cases (show vs=[]from r);rfl
   |cons d ds=>obtain⟨w,t,rfl,_,r⟩:=r;simpa using ih r
 have tk:∀(n:Nat) {ds:List M3.D} {vs:List V},ay K H μ ds vs->ay K H μ (ds.take n) (vs.take n):=by
  intro n
  induction n with
  |zero=>intro ds vs r;simp;rfl
  |succ n ih=>
   intro ds vs r;cases ds with
   |nil=>cases (show vs=[]from r);rfl
   |cons d ds=>obtain⟨w,t,rfl,h,r⟩:=r;exact⟨w,t.take n,rfl,h,ih r⟩
 have es:∀(n d:Nat) (o:Option Int),M3.sIx n d o=HT.sIx n d o:=by intro n d o;cases o <;> rfl
 unfold M3.cutD sQ;rw[es,es,r.length];exact tk _ (dr _ r)
def GF{lo hi:Option Expr}{fl fh:M3.P3}(he:PE X e (tE T X.K Y fa))(hl:PO X lo (tP T X.K Y fl))(hh:PO X hi (tP T X.K Y fh)):PE X (.Subscript e (.Slice lo hi none p2) pos) (tE T X.K Y (M3.eSl fa fl fh)):=by
 refine PE.of (CT (L2.SlR.or Jd F0) he hl hh) fun σ H Q ⟨μ,σ3,G,S,sd,h⟩=>⟨μ,σ3,G,S,sd,bj h fun x G1 v H1 μ1 u1 S1 d1 h1=>?_⟩;refine⟨μ1,σ3,G1,S1,sd.up u1,M3.ak (M3.aN h1) (fun l G2 h2 H2 μ2 u2 S2=>⟨μ2,σ3,G2,S2,sd.up (u1.trans u2),M3.ak (M3.aN h2) (fun k G3 h3 H3 μ3 u3 S3=>?_) fun _ _ z=>Y.up u2 z⟩) fun _ _ z=>z⟩;have d3:=Den.up (u2.trans u3) d1;have u:=(u1.trans u2).trans u3;unfold M3.run M3.oSl at h3;cases x with
 |tup xs=>
  dsimp only at h3;obtain⟨c,vs,rfl,sq,r⟩:=d3;by_cases cw:M3.sIx xs.length 0 l=0/\M3.sIx xs.length xs.length k=xs.length
  · rw[if_pos cw]at h3;cases h3
  · rw[if_neg cw]at h3;refine .inl ⟨c,vs,rfl,sq,fun z=>cw ?_,fun q hq=>?_⟩
    · have es:∀(n d:Nat) (o:Option Int),M3.sIx n d o=HT.sIx n d o:=by
       intro n d o;cases o <;> rfl
      rw[es,es,r.length];exact z
    · have u4:Up μ3 μ3 H3 (upd H3 q (.tup (sQ vs l k))):=Up.same (gH.new _ hq);exact h3 _ _ μ3 (u.trans u4) (S3.same (gH.new _ hq)) ⟨q,_,rfl,SqT.of aH,ay.up u4 (r.cut l k)⟩
 |ref n=>
  dsimp only at h3;obtain⟨c,ec,rfl⟩:=d3;have fin:∀{xs:List M3.D} {vs:List V},SqL X.K H3 c vs->ay X.K H3 μ3 xs vs->dO T X.K μ H Q (.ref G3.length) (G3++[.lst (M3.cutD xs l k)])->M2 X.K (.ref c) l k H3 Q:=by intro xs vs sq r hq;refine⟨c,vs,rfl,sq,fun q hn=>?_⟩;have u4:=Up.new (μ:=μ3) (.lst (sQ vs l k)) hn;refine hq _ _ (μ3++[q]) (u.trans u4) (S3.new hn rfl ⟨_,aH,ay.up u4 (r.cut l k)⟩) ⟨q,?_,rfl⟩;rw[<-S3.len];simp
  cases qn:G3[n]? with
  |none=>rw[qn]at h3;cases h3
  |some ob=>
   have od:=S3.obj n c ob ec qn;rw[qn]at h3;cases ob with
   |lst xs=>obtain⟨vs,e1,r⟩:=od;exact .inr (fin (SqL.of e1) r h3)
   |frz xs=>obtain⟨vs,e1,r⟩:=od;exact .inr (fin e1.sq r h3)
   |_=>cases h3
 |_=>cases h3
def zO{c:Expr}{body:List Stmt}{f:M3.S3}(hp:PassesOwn (model X.prog X.w) X.A X.env X.xe)(hc:PT X c (tT T X.K Y ft))(hb:PSs X body (tS T X.K Y f)):PS X (.While c body [] pos) (tS T X.K Y (M3.rU ft f)):=by
 refine PS.of (CK hp hc hb) fun D σ H ⟨μ,σ3,G,S,sd,h⟩=>?_;have h:M3.run (M3.kc ft f M3.vf σ3) G (fw T X.K μ H D) (Y.x μ H):=h;generalize M3.vf=n at h;refine⟨fun m σ' H'=>∃μ' σ3' G',Up μ μ' H H'/\Sim T X.K μ' H' G'/\StD X.K H' μ' σ3' σ'/\M3.run (M3.kc ft f m σ3') G' (fw T X.K μ H D) (Y.x μ' H'),⟨n,μ,σ3,G,Up.refl _ _,S,sd,h⟩,?_⟩;rintro m σ' H' ⟨μ',σ3',G',u',S',wu,q⟩;cases m with
 |zero=>cases q
 |succ m=>
  refine⟨μ',σ3',G',S',wu,ud q fun b G1 H1 μ1 u1 S1 h1=>?_⟩;cases b with
  |false=>exact h1 σ' H1 μ1 (u'.trans u1) S1 (wu.up u1)
  |true=>
   refine⟨fun σ2 H2=>∃μ2 σ4 G2,Up μ μ2 H H2/\Sim T X.K μ2 H2 G2/\StD X.K H2 μ2 σ4 σ2/\M3.run (M3.kc ft f m σ4) G2 (fw T X.K μ H D) (Y.x μ2 H2),fun σ2 H2 hN=>⟨m,Nat.lt_succ_self _,hN⟩,?_⟩;refine⟨μ1,σ3',G1,S1,wu.up u1,cS (M3.aN h1) fun p G7 q7 σ7 H7 μ7 u7 S7 AI=>?_⟩;obtain⟨fl,σ8⟩:=p;have up:=(u'.trans u1).trans u7;cases fl with
   |next=>exact⟨μ7,σ8,G7,up,S7,AI,Y.upE u7 q7⟩
   |cont=>exact⟨μ7,σ8,G7,up,S7,AI,Y.upE u7 q7⟩
   |brk=>exact q7 σ7 H7 μ7 up S7 AI
   |ret d=>exact q7 σ7 H7 μ7 up S7 AI
end
open PySem PySem.Spec PyProof.Rows L2
def rf(o:Obj)(f):(o.mapFields f).dict=o.dict:=by
 obtain⟨c,d,dt,sl⟩:=o;cases dt <;> rfl
def Tr(h:Heap)(e:Addr)(c:Value)(t:Option (Addr×Value)):Prop:=
 ∃oe vs,h.get? e=some oe/\(oe.cls=c/\oe.dict=none)/\oe.data= .fields vs/\match t with
  |none=>vs[1]? =some .none
  |some (g,z)=>vs[1]? =some (.ref g)/\g≠e/\∃og ts,h.get? g=some og/\og.data= .fields ts/\ts[3]? =some z
structure uS (fs:List Addr) (e:Addr) (t:Option (Addr×Value)) (g:Addr) (h h':Heap):Prop where
 same:∀b o,h.get? b=some o->b∉fs->b≠e->(∀q,t=some q->b≠q.1)->h'.get? b=some o
 plain:∀b o,h.get? b=some o->(∀ws,o.data≠.fields ws)->∃sl,h'.get? b=some {o with slots:=sl}
 head:(∃z,t=some (g,z))\/h.objs.size<=g
 size:h.objs.size<=h'.objs.size
section
variable{M:Model}{A:Around}{E:Value->Shared->Prop}{s:Shared}{base:Heap}{env:Env}{outer:List Env}{L e:Addr}{c:Value}
def tJ{oe:Obj}{vs:Array Value}{Q:Unit->Shared->Prop}(hA:A.frames=some (env :: outer))(fr:s.heap.FunFrames base (env :: outer))(hL:env.frame=some L)
 (ge:s.heap.get? e=some oe) (dn:oe.dict=none) (de:oe.data= .fields vs) (z1:1 < vs.size)
 (k:∀h' g,s.heap.objs.size<=g->Tr h' e oe.cls (some (g,rawInt L))->(∀b o,s.heap.get? b=some o->b∉frs (env :: outer)->b≠e->h'.get? b=some o)->(∀b o,s.heap.get? b=some o->(∀ws,o.data≠.fields ws)->∃sl,h'.get? b=some {o with slots:=sl})->
   s.heap.objs.size<=h'.objs.size->Q () {s with heap:=h'}):
 wpAny M A (do let a <-frameOf env;let pl <-entryPlaceOf L hn;let b <-EntryCells.newEntry hd0 a .none (rawInt L) .none pl;setField (.ref e) 1 b) Q E s:=by
 have ne:e∉frs (env :: outer):=fun z=>by
  obtain⟨_,o,q,nf⟩:=fr.mem z;rw[ge]at q;cases q;exact nf vs de
 refine wpAny_bind (wpAny_frameOf_fun hA fr hL fun h1 so=>?_);refine wpAny_bind (wpAny_entryPlaceOf fun pl ip=>?_);unfold EntryCells.newEntry newFields;refine wpAny_bind (wpAny_newObj_type ?_ (ip.sizeOk5 _ _ _ _ _));have g1:h1.get? e=some oe:=(so.2.1 e ne).trans ge;generalize Hw:({cls:= .type "traceback",dict:=none,data:= .fields ([hd0,.ref L,.none,rawInt L,.none]++(if pl.isEmpty then List.replicate 6 Value.none else pl)).toArray}:Obj)=ob;have Ww:∃ts:Array Value,ob.data= .fields ts/\ts[3]? =some (rawInt L):=by rw[<-Hw];exact⟨_,rfl,by simp⟩
 have U2:ob.isFreed=false:=by rw[<-Hw];rfl
 have g2:(h1.push ob).get? e=some oe:=Heap.get?_push_of_some _ g1;have TZ:h1.objs.size≠e:=Nat.ne_of_gt (Heap.lt_size g1);refine wpAny_setField g2 de z1 (k _ h1.objs.size (by rw[so.1];exact qO_ _) ?_ (fun b o q n1 n2=>?_) (fun b o q nf=>?_) ?_)
 · have d3:=Obj.data_mapFields de (·.setIfInBounds 1 (Value.ref h1.objs.size));obtain⟨ts,q1,q2⟩:=Ww;refine⟨_,_,Heap.get?_update_self _ g2 (Obj.isFreed_of_fields d3),⟨Obj.cls_mapFields _ _,(rf _ _).trans dn⟩,d3,by simp [z1],TZ,ob,ts,?_,q1,q2⟩;rw[Heap.get?_update_other _ _ (Ne.symm TZ)];exact Heap.get?_push_size _ U2
 · rw[Heap.get?_update_other _ _ (Ne.symm n2)];exact Heap.get?_push_of_some _ ((so.2.1 b n1).trans q)
 · have nb:b≠e:=by
    rintro rfl;rw[ge]at q;cases q;exact nf vs de
   obtain⟨sl,q1⟩:=so.2.2 b o q;refine⟨sl,?_⟩;rw[Heap.get?_update_other _ _ (Ne.symm nb)];exact Heap.get?_push_of_some _ q1
 · rw[Heap.size_after_update,Heap.size_push,so.1];exact Nat.le_succ _
def yc{Q:Unit->Shared->Prop}(hA:A.frames=some (env :: outer))(fr:s.heap.FunFrames base (env :: outer))(hL:env.frame=some L)(tr:Tr s.heap e c t)
 (k:∀h' g,uS (frs (env :: outer)) e t g s.heap h'->Tr h' e c (some (g,rawInt L))->Q () {s with heap:=h'}):wpAny M A (noteFrame (.ref e) env) Q E s:=by
 obtain⟨oe,vs,ge,⟨ce,dn⟩,de,ht⟩:=tr;subst ce;unfold noteFrame;simp only[hL];cases t with
 |none=>refine wpAny_bind (wpAny_field ge de ht ?_);rw[if_neg (by decide)];refine tJ hA fr hL ge dn de (Array.getElem?_eq_some_iff.mp ht).1 fun h' g hg SK sm pl sz=>k h' g ⟨fun b o q n1 n2 _=>sm b o q n1 n2,pl,.inr hg,sz⟩ SK
 |some q=>
  obtain⟨g0,z⟩:=q;obtain⟨h1,mU,og,ts,gg,dg,h3⟩:=ht;refine wpAny_bind (wpAny_field ge de h1 ?_);rw[if_pos (by rfl)];refine wpAny_bind (wpAny_field gg dg h3 ?_);by_cases hz:(z==rawInt L)=true
  · rw[if_pos hz];have RO:z=rawInt L:=by simpa using hz
    subst RO;refine wpAny_pure (k s.heap g0 ⟨fun b o q _ _ _=>q,fun b o q _=>⟨o.slots,q⟩,.inl ⟨_,rfl⟩,qO_ _⟩ ⟨oe,vs,ge,⟨rfl,dn⟩,de,h1,mU,og,ts,gg,dg,h3⟩)
  · rw[if_neg hz];refine wpAny_bind (wpAny_setField gg dg (Array.getElem?_eq_some_iff.mp h3).1 ?_);have O2:∀b,b≠g0->(s.heap.update g0 (Obj.mapFields (·.setIfInBounds 3 Value.none))).get? b=s.heap.get? b:=fun b n=>Heap.get?_update_other _ _ (Ne.symm n);have TN:∀b o,s.heap.get? b=some o->(∀ws,o.data≠.fields ws)->b≠g0:=fun b o q nf w=>by
     rw[w,gg]at q;cases q;exact nf ts dg
    refine tJ (s:={s with heap:=s.heap.update g0 (Obj.mapFields (·.setIfInBounds 3 Value.none))}) hA (fr.of_keeps fun b o q nf=>⟨o,(O2 b (TN b o q nf)).trans q,rfl⟩) hL ((O2 e (Ne.symm mU)).trans ge) dn de (Array.getElem?_eq_some_iff.mp h1).1 fun h' g hg SK sm pl sz=>?_;have e0:(s.heap.update g0 (Obj.mapFields (·.setIfInBounds 3 Value.none))).objs.size=s.heap.objs.size:=Heap.size_after_update ..;refine k h' g ⟨fun b o q n1 n2 n3=>sm b o ((O2 b (n3 _ rfl)).trans q) n1 n2,fun b o q nf=>pl b o ((O2 b (TN b o q nf)).trans q) nf,.inr (by rw[<-e0];exact hg),by rw[<-e0];exact sz⟩ SK
def rB{f:Option Addr}{Q:Unit->Shared->Prop}(tr:Tr s.heap e c (some (g,z)))
 (k:∀h',(∀b o,b≠g->s.heap.get? b=some o->h'.get? b=some o)->Tr h' e c (some (g,f.elim .none fun f=>rawInt f))->s.heap.objs.size<=h'.objs.size->(∀b o,s.heap.get? b=some o->(∀ws,o.data≠.fields ws)->h'.get? b=some o)->Q () {s with heap:=h'}):wpAny M A (setFlight (.ref e) f) Q E s:=by
 obtain⟨oe,vs,ge,ce,de,h1,mU,og,ts,gg,dg,h3⟩:=tr;unfold setFlight;refine wpAny_bind (wpAny_field ge de h1 ?_);rw[if_pos (by rfl)];have z3:=(Array.getElem?_eq_some_iff.mp h3).1;refine wpAny_setField gg dg z3 (k _ (fun b o n q=>?_) ?_ ?_ fun b o q nf=>?_)
 · rw[Heap.get?_update_other _ _ (Ne.symm n)];exact q
 · have d3:=Obj.data_mapFields dg (·.setIfInBounds 3 (f.elim Value.none fun f=>rawInt f));exact⟨oe,vs,by rw[Heap.get?_update_other _ _ mU];exact ge,ce,de,h1,mU,_,_,Heap.get?_update_self _ gg (Obj.isFreed_of_fields d3),d3,by simp [z3]⟩
 · rw[Heap.size_after_update];exact qO_ _
 · have n:b≠g:=by
    rintro rfl;rw[gg]at q;cases q;exact nf ts dg
   rw[Heap.get?_update_other _ _ (Ne.symm n)];exact q
end
def Fly(k:Heap)(H:Hp)(h:Heap)(e:Addr)(c:Value)(t:Option (Addr×Value)):Prop:=Tr h e c t/\H e=none/\k.get? e=none/\∀q,t=some q->H q.1=none/\k.get? q.1=none
def Fly.old{n m:Heap}{H:Hp}(f:Fly n H h e c t)(hm:∀b o,m.get? b=some o->∃o',n.get? b=some o'):Fly m H h e c t:=by
 have go:∀b,n.get? b=none->m.get? b=none:=fun b z=>by
  cases q:m.get? b with
  |none=>rfl
  |some o=>obtain⟨o',w⟩:=hm b o q;rw[z]at w;cases w
 exact⟨f.1,f.2.1,go _ f.2.2.1,fun q z=>⟨(f.2.2.2 q z).1,go _ (f.2.2.2 q z).2⟩⟩
def CX1(P:Program)(w:World):CXT:=fun outer H s E x s'=>∃e H' c dx t,x= .ref e/\s'.os=s.os/\AllBare s'.gens/\Un (frs outer) [] H H' s.heap s'.heap/\HOk P w H' s'.heap/\Fly s.heap H' s'.heap e c t/\E c dx H'
def XOk(X:Cx)(E:XK):Prop:=∀σ H s e c dx t,L2.Inv X [] σ H s->Fly X.s₀.heap H s.heap e c t->E c dx H->X.xe (.ref e) s
structure Own (X:Cx):Prop where
 stk:X.stack=X.env :: X.outer
 fr:X.env.frame=some X.env.locals
 pn:X.pn=[]
 ex:X.ex=[]
section
variable{X:Cx}{σ:L2.St}{H:Hp}{s:Shared}{e:Addr}{c:Value}{t:Option (Addr×Value)}
def Inv.turn(I:L2.Inv X [] σ H s)(O:Own X)(f:Fly X.s₀.heap H s.heap e c t)(tn:uS (frs X.stack) e t g s.heap h'):L2.Inv X [] σ H {s with heap:=h'}:=by
 obtain⟨tr,he,ne,nt⟩:=f;have U8:∀b,b∉X.ex:=fun b z=>by rw[O.ex]at z;simp at z
 have Od:∀b,b∈frs X.stack->∃o,s.heap.get? b=some o/\∀vs,o.data≠.fields vs:=fun b hb=>(I.stack.mem hb).2;have sub:∀b,b∈X.fs->b∈frs X.stack:=fun b hb=>by
  rw[O.stk];unfold frs;rw[List.filterMap_cons,O.fr];exact qR_ _ hb
 have yg:∀b o,X.s₀.heap.get? b=some o->b≠e/\(∀q,t=some q->b≠q.1)/\b≠X.env.locals:=fun b o q=>
  ⟨fun z=>(by rw[z,ne]at q;cases q),fun p w z=>(by rw[z,(nt p w).2]at q;cases q),Nat.ne_of_lt (qd_ (Heap.lt_size q) I.ok.above)⟩
 have Of:∀{d:Addr} {v:Option Value},s.heap.IsCell d v->h'.IsCell d v:=fun {d v} ⟨o,q,dd⟩=>by
  obtain⟨sl,z⟩:=tn.plain d o q fun ws w=>by rw[dd]at w;cases w
  exact⟨_,z,dd⟩
 refine⟨I.ok,I.os,I.bare,⟨fun b o q n nf nx=>?_,fun b o q n hf nx=>?_,I.base.free,fun b o q nx=>?_,I.base.sv,I.base.oV,I.base.sy⟩,?_,fun x d q=>?_,I.free,I.gI,fun p hp=>?_,fun b u q=>?_,I.len⟩
 · obtain⟨n1,n2,n3⟩:=yg b o q;refine tn.same b o (I.base.keep b o q n nf nx) (fun z=>?_) n1 n2;rcases qS_.mp (I.lz b z)with w |w
   · exact n3 w
   · exact nf w
 · obtain⟨sl,q1⟩:=I.base.slot b o q n hf nx;obtain⟨o',q2,nf⟩:=Od b (sub b hf);rw[q1]at q2;cases q2;obtain⟨AJ,z⟩:=tn.plain b _ q1 nf;exact⟨AJ,z⟩
 · obtain⟨n1,n2,n3⟩:=yg b o q;obtain⟨o1,q1⟩:=I.base.there b o q nx;by_cases hf:b∈frs X.stack
   · obtain⟨o',q2,nf⟩:=Od b hf;obtain⟨sl,z⟩:=tn.plain b o' q2 nf;exact⟨_,z⟩
   · exact⟨o1,tn.same b o1 q1 hf n1 n2⟩
 · obtain⟨m,⟨o,es,ep,q,d,r⟩,hm⟩:=I.loc;obtain⟨sl,z⟩:=tn.plain _ o q fun ws w=>by rw[d]at w;cases w
   refine⟨m,⟨_,es,ep,z,d,r⟩,fun i x v h1 h2 h3=>?_⟩;obtain⟨u,ru,lk⟩:=hm i x v h1 h2 h3;refine⟨u,ru,?_⟩;rcases lk with lk |⟨k,d',hd,ic⟩
   · exact .inl lk
   · exact .inr ⟨k,d',hd,Of ic⟩
 · obtain⟨v,w⟩:=I.cell x d q;exact⟨v,Of w⟩
 · rw[O.pn]at hp;simp at hp
 · refine(I.hok b u q).jV (fun d v hc w=>?_) (fun _ z=>z) fun _ _ z=>z;have hd:∃u',H d=some u':=by
    rcases hc with z |z
    · rw[z];exact⟨u,q⟩
    · exact⟨_,z⟩
   obtain⟨u',zL⟩:=hd;refine tn.same d v w (fun z=>?_) (fun z=>?_) fun p y z=>?_
   · rw[I.qF d z]at zL;cases zL
   · rw[z,he]at zL;cases zL
   · rw[z,(nt p y).1]at zL;cases zL
def Fly.turn(I:L2.Inv X [] σ H s)(f:Fly X.s₀.heap H s.heap e c t)(tn:uS fs e t g s.heap h')(tr:Tr h' e c (some (g,z))):Fly X.s₀.heap H h' e c (some (g,z)):=by
 refine⟨tr,f.2.1,f.2.2.1,fun q w=>?_⟩;cases w;rcases tn.head with ⟨y,w⟩ |w
 · exact f.2.2.2 (g,y) w
 · exact⟨I.hok.fresh w,Heap.get?_none_of_le (Nat.le_trans I.sz w)⟩
def Ee{A:Around}{EE:Value->Shared->Prop}{Q:Unit->Shared->Prop}(O:Own X)(hA:A.frames=some X.stack)(I:L2.Inv X [] σ H s)(f:Fly X.s₀.heap H s.heap e c t)
 (k:∀h' g,L2.Inv X [] σ H {s with heap:=h'}->Fly X.s₀.heap H h' e c (some (g,rawInt X.env.locals))->Q () {s with heap:=h'}):wpAny M A (noteFrame (.ref e) X.env) Q EE s:=by
 have fr:=I.stack;rw[O.stk]at fr hA;refine yc hA fr O.fr f.1 fun h' g tn tr=>k h' g (Inv.turn I O f (by rw[O.stk];exact tn)) (Fly.turn I f tn tr)
def yT{EE:Value->Shared->Prop}{Q:Unit->Shared->Prop}{fo:Option Addr}(O:Own X)(I:L2.Inv X [] σ H s)(f:Fly X.s₀.heap H s.heap e c (some (g,z)))
 (k:∀h',L2.Inv X [] σ H {s with heap:=h'}->Fly X.s₀.heap H h' e c (some (g,fo.elim .none fun f=>rawInt f))->Q () {s with heap:=h'}):wpAny M A (setFlight (.ref e) fo) Q EE s:=
 rB f.1 fun h' sm tr sz pl=>k h' (Inv.turn (g:=g) I O f ⟨fun b o q _ _ n=>sm b o (n _ rfl) q,fun b o q nf=>⟨o.slots,pl b o q nf⟩,.inl ⟨_,rfl⟩,sz⟩) ⟨tr,f.2.1,f.2.2.1,fun q w=>by cases w;exact f.2.2.2 (g,z) rfl⟩
def DH{E:XK}(O:Own X)(h:XOk X E):fQ (CX1 X.prog X.w) X E:=by
 rintro pins σ H s x s' I ⟨e,H',c,dx,t,rfl,os,bare,un,hok,f,q⟩;have I':L2.Inv X pins σ H' s':=I.DC (ch:=[]) os un hok bare (fun b z=>absurd z (by simp));have I0:L2.Inv X [] σ H' s':=I'.qD fun p hp=>absurd hp (by simp);exact h σ H' s' e c dx t I0 (f.old fun b o z=>I.base.there b o z (by rw[O.ex];simp)) q
end
def kT{P:Program}{w:World}{K:PySem.W.Frag}{mg:Str->Option Value}{base:Heap}{N:List Str}{qual:Str}{scope:Scope}{fa:Addr}{cd:Value}{A:Around}{outer:List Env}{s:Shared}{H:Hp}{E:XK}:
 XOk (mK (CX1 P w) P w K mg base N qual scope fa cd A outer s H E) E:=by
 intro σ H' s' e c dx t I f q;have O:Own (mK (CX1 P w) P w K mg base N qual scope fa cd A outer s H E):=⟨rfl,rfl,rfl,rfl⟩;show wpAny _ _ (leaving _ _) _ _ _;unfold leaving;refine wpAny_bind (Ee O I.ok.frames I f fun h1 g I1 f1=>?_);refine yT O I1 f1 fun h2 I2 f2=>?_;exact⟨e,H',c,dx,_,rfl,I2.os,I2.bare,I2.base,I2.hok,f2,q⟩
def kX{CX:CXT}{P:Program}{w:World}{K:PySem.W.Frag}{mg:Str->Option Value}{base:Heap}{N:List Str}{qual:Str}{scope:Scope}{fa:Addr}{cd:Value}{A:Around}{outer:List Env}{s:Shared}{H:Hp}{E:XK}:
 Own (mK CX P w K mg base N qual scope fa cd A outer s H E):=⟨rfl,rfl,rfl,rfl⟩
def xZ{CX:CXT}{P:Program}{w:World}{K:PySem.W.Frag}{mg:Str->Option Value}{base:Heap}{N:List Str}{qual:Str}{scope:Scope}{fa:Addr}{cd:Value}{A:Around}{outer:List Env}{s:Shared}{H:Hp}{E:XK}:
 PassesOwn (model P w) (mK CX P w K mg base N qual scope fa cd A outer s H E).A (mK CX P w K mg base N qual scope fa cd A outer s H E).env (mK CX P w K mg base N qual scope fa cd A outer s H E).xe:=by
 intro x s' h;have h:wpAny (model P w) (A.deeper (envOfC qual scope s.heap.objs.size fa cd)) (leaving (envOfC qual scope s.heap.objs.size fa cd) x) (fun _ HC=>CX outer H s E x HC) (fun e' HC=>CX outer H s E e' HC) s':=h;exact PassesOwn.leaving (Q₁:=fun x HC=>CX outer H s E x HC) x s' h
section
variable{T:Tab}
def Nq{P:Program}{w:World}{K:PySem.W.Frag}{mg:Str->Option Value}{base:Heap}{x qual:Str}{st:Stmt}{fa:Addr}{fd:FuncData}{N ps:List Str}{k n:Nat}{pad:M3.St}{body:M3.S3}(F:Fun K x qual st fa fd)(S:iG N ps (bu st))
 (hn:ps.length=n) (EN:pad=List.replicate (N.length - n) none)
 (h:∀(jC:Value) (A:Around) (outer:List Env) (s:Shared) (H:Hp) (E:XK),dR k (A.deeper (envOfC qual (bu st) s.heap.objs.size fa jC))->PSs (mK (CX1 P w) P w K mg base N qual (bu st) fa jC A outer s H E) (gO st) (tS T K (EX.of T K E) body)):
 cj P w K mg base (CX1 P w) (k+1) fa fd ps (sp3 T K n (M3.fnM n pad body)):=by
 obtain⟨oc,od,kV,doc,pm,an,jC,ct,E5,rfl,lk,BN⟩:=F.ex;refine Ie lk BN S (fun vs H Q E q=>by rw[hn];exact q.1) fun A outer s H vs Q E hr q=>⟨_,h jC A outer s H E hr,?_⟩;obtain⟨hl,μ,ds,G,Sm,d,q⟩:=q;unfold M3.fnM at q;obtain⟨c,q⟩:=lG q;have e1:L2.start N vs=vs.map some++List.replicate (N.length - n) none:=by unfold L2.start;rw[hl]
 rw[e1];refine⟨μ,_,G,Sm,by rw[EN];exact StD.start _ d,cS (M3.aN q) fun r G1 q1 σ' H' μ' u S' wu=>?_⟩;obtain⟨fl,σ2⟩:=r;cases fl with
 |next=>exact q1 .non H' μ' u S' rfl
 |brk=>cases q1
 |cont=>cases q1
 |ret d=>exact fun v dv=>q1 v H' μ' u S' dv
end
def bO.at{P:Program}{w:World}{H:Hp}{h:Heap}{a:Addr}{o:HO}(x:bO P w H h a o):∃u,h.get? a=some u:=by
 cases o with
 |lst xs=>obtain⟨_,_,_,_,z⟩:=x;exact⟨_,z⟩
 |tup xs=>obtain⟨_,_,_,z⟩:=x;obtain⟨u,z,_⟩:=z;exact⟨u,z⟩
 |dK kvs=>obtain⟨_,_,_,_,_,_,_,z,_⟩:=x;exact⟨_,z⟩
 |dT kvs=>obtain⟨_,_,_,_,_,_,_,z,_⟩:=x;exact⟨_,z⟩
 |set S n=>obtain⟨_,_,_,_,z,_⟩:=x;exact⟨_,z⟩
 |ins C dx fs=>obtain⟨_,_,_,z,_⟩:=x;exact⟨_,z⟩
 |own y=>exact x
 |xd fs=>obtain⟨_,⟨_,_,_,z,_⟩,_⟩:=x;exact⟨_,z⟩
 |rng lo hi=>obtain⟨_,_,_,z⟩:=x;exact⟨_,z⟩
 |frz ob u=>exact⟨_,x.1⟩
 |tbl ps=>exact⟨_,x⟩
 |met f y=>exact⟨_,x⟩
 |ext φ=>exact x.2.1
def veM:List Value:=[.type "ValueError",.type "Exception",.type "BaseException",.type "object"]
structure XCl (K:PySem.W.Frag) (mg:Str->Option Value) (x:Str) (C:Addr):Prop where
 bd:mg x=some (.ref C)
 ex:PySem.W.excIn K C veM "ValueError.__new__"=true
def XCl.obj{K:PySem.W.Frag}{mg:Str->Option Value}{x:Str}{C:Addr}(z:XCl K mg x C){h₁:Heap}(X₁:K.In h₁):
 ∃bm N nm q bs hdct sn sub ab col dd k0 k1 k2 k3 k5 mN,∀h:Heap,K.In h->h.get? C=some (excClassObj nm q C N bs bm hdct sn sub ab col dd k0 k1 k2 k3 k5 "ValueError.__new__")/\h.Ns N mN/\mN "__init__"=none/\OwnTail h veM bm:=by
 have q:=z.ex;unfold PySem.W.excIn at q;split at q
 case h_2=>cases q
 rename_i dd cd sl at_;split at q
 case h_2=>cases q
 rename_i C' bm k0 k1 k2 k3 n k5 em es;simp only[Bool.and_eq_true,beq_iff_eq,Bool.not_eq_true']at q;obtain⟨⟨⟨⟨⟨e1,e2⟩,e3⟩,e4⟩,e5⟩,e6⟩:=q;subst e1 e2;obtain⟨nm,bs,mro,ns,qn,hd,sn,sub,ab,col,del⟩:=cd;have em:mro= .ref C' :: bm:=em;have e3:del=false:=e3;subst em e3;have e7:sl=#[k0,k1,k2,k3,some (.builtin "ValueError.__new__"),k5]:=by
  cases sl with
  |mk l=>exact congrArg Array.mk es
 subst e7;have n1:h₁.Ns ns (h₁.nsMap ns):= .of_isNs (PySem.W.isNs_of_in X₁ e5);refine⟨bm,ns,nm,qn,bs,hd,sn,sub,ab,col,dd,k0,k1,k2,k3,k5,h₁.nsMap ns,fun h Xh=>⟨Xh _ _ at_,?_,PySem.W.nsMap_none_of_in X₁ e5 e6,PySem.W.tail_of_in Xh e4⟩⟩;refine n1.at fun o eo=>?_;have e5:=e5;unfold PySem.W.nsOkIn at e5;split at e5
 case h_2=>cases e5
 rename_i lk;have:=X₁ _ _ lk;rw[eo]at this;cases this;exact Xh _ _ lk
section
variable{X:Cx}{T:Tab}{E:XK}
def B2{H:Hp}{s:Shared}(O:Own X)(ok:XOk X E)(I:L2.Inv X pins σ H s)(m:Heap.MadeExcOf s.heap h' e (.ref C) us)(q:E (.ref C) dx H):X.xe (.ref e) {s with heap:=h'}:=by
 have I1:L2.Inv X pins σ H {s with heap:=h'}:=I.kept (t':=s.toks) m.keeps;have I0:L2.Inv X [] σ H {s with heap:=h'}:=I1.qD fun p hp=>absurd hp (by simp);obtain⟨t,g,_,_⟩:=m.there;refine ok σ H _ e (.ref C) dx none I0 ⟨⟨_,_,g,⟨rfl,rfl⟩,rfl,rfl⟩,?_,?_,fun q z=>nomatch z⟩ q
 · cases z:H e with
   |none=>rfl
   |some u=>obtain⟨u',w⟩:=bO.at (I.hok e u z);rw[m.new]at w;cases w
 · cases z:X.s₀.heap.get? e with
   |none=>rfl
   |some o=>obtain⟨o',w⟩:=I.base.there e o z (by rw[O.ex];simp);rw[m.new]at w;cases w
variable{x:Str}{np qC pos:Pos}{e0:Expr}{es:List Expr}{fa:M3.A3}{c:Nat}{C:Addr}
def y_raise(O:Own X)(ok:XOk X E)(hh:X.A.handled=none)(k:XCl X.K X.mg x C)(hc:T.cls c=some C)(ha:PA X (e0 :: es) (tA T X.K (EX.of T X.K E) fa))(hg:Gl X x:=by rfl)(qg:(x==("__debug__":Str))=false:=by decide)
 (he:starEach (e0 :: es) X.env=(false,eval e0 X.env) :: starEach es X.env:=by rfl) (gZ:(backTo qC (starEach es X.env)).any (·.1)=false:=by rfl):PS X (.Raise (some (.Call (.Name x np) (e0 :: es) [] qC)) none pos) (tS T X.K (EX.of T X.K E) (M3.nL c fa)):=by
 intro pins s σ H D I ⟨μ,σ3,G,S,sd,h⟩;obtain⟨bm,N,nm,q,bs,hdct,sn,sub,ab,col,dd,k0,k1,k2,k3,k5,mN,hk⟩:=k.obj I.kIn;obtain⟨hC,hN,Vd,tl⟩:=hk s.heap I.kIn;have eO:bm.contains (.type "BaseException")=true:=tl.hasType (by decide);refine wpAny_Raise_call_subT (C:=C) (nm:=nm) (q:=q) (N:=N) (bs:=bs) (bm:=bm) (hdct:=hdct) (sn:=sn) (sub:=sub) (ab:=ab) (col:=col) (dd:=dd) (k0:=k0) (k1:=k1) (k2:=k2) (k3:=k3) (k5:=k5) (bmB:=veM) PySem.F.excBase_ValueError (mN:=mN) eO hh
  (by rw[he];show (false||(backTo qC (starEach es X.env)).any (·.1))=false;rw[gZ];rfl) Vd (mj I hg k.bd ⟨rfl,?_⟩ qg)
 have key:=ha qC pins s σ H (fun vs H1=>vs.length<=sizeLine/\∃dx,E (.ref C) dx H1) I ⟨μ,σ3,G,S,sd,pY h fun ds G1 vs H1 μ1 u1 S1 d1 h1=>?_⟩
 · rw[he]at key ⊢;refine Calls.evalArgs_plain (thn key fun us s2 ⟨vs,H1,I1,r1,hl,dx,q1⟩=>?_);obtain⟨VU,Vq,WJ,U7⟩:=hk s2.heap I1.kIn;exact⟨rfl,by rw[<-r1.length];exact hl,VU,Vq,U7,fun h' e m=>B2 O ok I1 m q1⟩
 · obtain⟨hl,h1⟩:=lG h1;exact⟨by rw[<-d1.length,<-cM];exact hl,none,h1 C none H1 μ1 hc (Up.refl _ _) S1⟩
end
theorem lB{α β:Type} [BEq α] [LawfulBEq α]:∀{l:List (α×β)} {a:α} {b:β},l.lookup a=some b->(a,b)∈l
 | [],_,_,h=>by cases h
 |(c,d) :: r,a,b,h=>by
  rw[List.lookup_cons]at h;cases q:a==c with
  |true=>rw[q]at h;cases h;rw[eq_of_beq q];exact qI_
  |false=>rw[q]at h;exact qR_ _ (lB h)
def Blk.of{X:Cx}{x:Str}{caps:List (Str×Nat)}{scope:Scope}{cl:List (Str×Addr)}(kind:scope.kind= .function)(h1:(scope.names.all fun y=>decide (y.2≠.cell))=true)
 (h2:(scope.names.all fun y=>decide (y.2= .local->scope.names.lookup y.1=some .local))=true) (own:scope.names.lookup x=some .local) (Fn:closureFor scope X.env=pure cl) (nd:(x :: caps.map (·.1)).Nodup)
 (sub:(cl.map fun p=>X.env.cells.lookup p.1)=cl.map fun p=>some p.2) (has:((relabel scope X.env).names.all fun p=>decide ((p.2= .cell\/p.2= .free)->(cl.lookup p.1).isSome=true))=true) (nox:cl.lookup x=none)
 (Rj:(caps.map fun p=>X.N[p.2]?)=caps.map fun p=>some p.1) (Rm:(caps.all fun p=>decide ((X.env.kindOf p.1=some .cell\/X.env.kindOf p.1=some .free)/\((relabel scope X.env).names.lookup p.1=some .cell\/(relabel scope X.env).names.lookup p.1=some .free)))=true):Blk X x caps scope cl:=by
 refine⟨kind,fun y hy=>of_decide_eq_true (List.all_eq_true.mp h1 y hy),fun y hy=>of_decide_eq_true (List.all_eq_true.mp h2 y hy),own,Fn,nd,fun y c e=>?_,fun y hy=>?_,nox,fun j y i e=>?_⟩
 · have m:=lB e;obtain⟨j,hj,e1⟩:=List.getElem_of_mem m;have e2:=congrArg (·[j]?) sub;simp only[qQ_,qA_ hj,e1,Option.map_some]at e2;exact Option.some.inj e2
 · have go:∀k,(relabel scope X.env).names.lookup y=some k->(k= .cell\/k= .free)->∃c,cl.lookup y=some c:=fun k hk hz=>
    Option.isSome_iff_exists.mp (of_decide_eq_true (List.all_eq_true.mp has _ (lB hk)) hz)
   rcases hy with z |z
   · exact go _ z (.inl rfl)
   · exact go _ z (.inr rfl)
 · have hm:(y,i)∈caps:=qD_ e;obtain⟨q1,q2⟩:=of_decide_eq_true (List.all_eq_true.mp Rm _ hm);refine⟨?_,q1,q2⟩;have e2:=congrArg (·[j]?) Rj;simp only[qQ_,e,Option.map_some]at e2;exact Option.some.inj e2
def AX{Z:Nat->M3.Hh->Prop}{G:M3.Hh}{P:M3.D->M3.Hh->Prop}(h:M3.run (M3.jS (.ref n) y) G P Z):∃m xs ys,y= .ref m/\G[n]? =some (.lst xs)/\G[m]? =some (.lst ys)/\xs.length+ys.length<=M3.aw/\P .non (G.set n (.lst (xs++ys))):=by
 unfold M3.run M3.jS at h;cases y with
 |ref m=>
  dsimp only at h;cases q:G[n]? with
  |none=>rw[q]at h;cases h
  |some o=>
   rw[q]at h;cases q2:G[m]? with
   |none=>rw[q2]at h;cases o <;> cases h
   |some o2=>
    rw[q2]at h;cases o with
    |lst xs=>
     cases o2 with
     |lst ys=>
      dsimp only at h;by_cases c:xs.length+ys.length<=M3.aw
      · rw[if_pos c]at h;exact⟨m,xs,ys,rfl,rfl,q2,c,h⟩
      · rw[if_neg c]at h;cases h
     |_=>cases h
    |_=>cases h
 |_=>cases h
def B7{Z:Nat->M3.Hh->Prop}{G:M3.Hh}{P:M3.D->M3.Hh->Prop}(h:M3.run (M3.m6 (.ref n) y) G P Z):∃i xs k z,y= .int i/\G[n]? =some (.lst xs)/\M3.ixN xs.length i=some k/\xs[k]? =some z/\-(2 ^ 62)<=i/\i < 2 ^ 62/\P z (G.set n (.lst (xs.eraseIdx k))):=by
 unfold M3.run M3.m6 at h;cases y with
 |int i=>
  dsimp only at h;cases q:G[n]? with
  |none=>rw[q]at h;cases h
  |some o=>
   rw[q]at h;cases o with
   |lst xs=>
    dsimp only at h;cases qk:M3.ixN xs.length i with
    |none=>rw[qk]at h;cases h
    |some k=>
     rw[qk]at h;dsimp only at h;cases qz:xs[k]? with
     |none=>rw[qz]at h;cases h
     |some z=>
      rw[qz]at h;dsimp only at h;by_cases c:-(2 ^ 62)<=i/\i < 2 ^ 62
      · rw[if_pos c]at h;exact⟨i,xs,k,z,rfl,rfl,qk,qz,c.1,c.2,h⟩
      · rw[if_neg c]at h;cases h
   |_=>cases h
 |_=>cases h
theorem ay.erase{K:PySem.W.Frag}{μ:List Addr}{H:Hp}:∀{ds:List M3.D} {vs:List V} (k:Nat),ay K H μ ds vs->ay K H μ (ds.eraseIdx k) (vs.eraseIdx k)
 | [],vs,k,h=>by cases (show vs=[]from h);simp [ay]
 |_ :: ds,_,0,⟨v,r,e,h,t⟩=>by subst e;exact t
 |_ :: ds,_,k+1,⟨v,r,e,h,t⟩=>by subst e;exact⟨v,r.eraseIdx k,rfl,h,ay.erase k t⟩
section
variable{X:Cx}{T:Tab}{Y:EX}{o e:Expr}{fa fb:M3.E3}{pos apos:Pos}
def ot(ho:PE X o (tE T X.K Y fa))(he:PE X e (tE T X.K Y fb))
 (eO:attributeBase o "extend" X.env (eval o X.env)=eval o X.env:=by rfl)
 (wj:((backTo pos (starEach (e :: []) X.env)).all (fun x=>!x.1)&&(backToKw pos (keywordEach [] X.env)).all (fun x=>x.1.isSome)&&decide ((e :: ([]:List Expr)).length+([]:List Keyword).length+(if ([]:List Keyword).isEmpty then 0 else 1) < 30))=true:=by rfl)
 (fR:(apos.endLine==pos.line)=true:=by rfl) (hs:starEach (e :: []) X.env=(false,eval e X.env) :: starEach [] X.env:=by rfl) (kx:(backTo pos (starEach [] X.env)).any (·.1)=false:=by rfl):
 PE X (.Call (.Attribute o "extend" apos) [e] [] pos) (tE T X.K Y (M3.vc fa fb)):=by
 refine PE.of (Af PySem.F.plainAttrs_list PySem.F.slot_list_extend PySem.F.type_list_extend BF ho (eB he je hs) eO wj fR hs kx) fun σ H Q ⟨μ,σ3,G,S,sd,h⟩=>⟨μ,σ3,G,S,sd,bj h fun d G1 v H1 μ1 u1 S1 d1 h1=>?_⟩;obtain⟨n,xs,rfl,q,h1⟩:=uU (M3.aN h1);obtain⟨a,ea,rfl⟩:=id d1;obtain⟨vs,e1,r1⟩:=S1.obj n a _ ea q;refine⟨.inl ⟨rfl,vs,SqL.of e1⟩,μ1,σ3,G1,S1,sd.up u1,bj h1 fun y G2 w H2 μ2 u2 S2 d2 h2=>?_⟩;obtain⟨m,Ud,W8,rfl,q2,q3,hl,h3⟩:=AX h2;have zJ:=u2.at ea;obtain⟨b,eb,rfl⟩:=id d2;obtain⟨EY,e2,r2⟩:=S2.obj n a _ zJ q2;obtain⟨UN,e3,r3⟩:=S2.obj m b _ eb q3;have up:=Up.set S2 (.lst (EY++UN)) zJ q2 rfl;refine⟨a,b,EY,UN,rfl,rfl,e2,e3,by rw[<-r2.length,<-r3.length,<-cM];exact hl,?_⟩;exact h3 _ _ μ2 ((u1.trans u2).trans up) (S2.set zJ q2 rfl rfl ⟨_,aH,ay.up up (r2.append r3)⟩) rfl
def Ay(ho:PE X o (tE T X.K Y fa))(he:PE X e (tE T X.K Y fb))
 (eO:attributeBase o "pop" X.env (eval o X.env)=eval o X.env:=by rfl)
 (wj:((backTo pos (starEach (e :: []) X.env)).all (fun x=>!x.1)&&(backToKw pos (keywordEach [] X.env)).all (fun x=>x.1.isSome)&&decide ((e :: ([]:List Expr)).length+([]:List Keyword).length+(if ([]:List Keyword).isEmpty then 0 else 1) < 30))=true:=by rfl)
 (fR:(apos.endLine==pos.line)=true:=by rfl) (hs:starEach (e :: []) X.env=(false,eval e X.env) :: starEach [] X.env:=by rfl) (kx:(backTo pos (starEach [] X.env)).any (·.1)=false:=by rfl):
 PE X (.Call (.Attribute o "pop" apos) [e] [] pos) (tE T X.K Y (M3.rK fa fb)):=by
 refine PE.of (Af PySem.F.plainAttrs_list PySem.F.slot_list_pop PySem.F.type_list_pop Es ho (eB he je hs) eO wj fR hs kx) fun σ H Q ⟨μ,σ3,G,S,sd,h⟩=>⟨μ,σ3,G,S,sd,bj h fun d G1 v H1 μ1 u1 S1 d1 h1=>?_⟩;obtain⟨n,xs,rfl,q,h1⟩:=uU (M3.aN h1);obtain⟨a,ea,rfl⟩:=id d1;obtain⟨vs,e1,r1⟩:=S1.obj n a _ ea q;refine⟨.inl ⟨rfl,vs,SqL.of e1⟩,μ1,σ3,G1,S1,sd.up u1,bj h1 fun y G2 w H2 μ2 u2 S2 d2 h2=>?_⟩;obtain⟨i,Ud,k,z,rfl,q2,qk,qz,hi,hj,h3⟩:=B7 h2;have zJ:=u2.at ea;obtain⟨EY,e2,r2⟩:=S2.obj n a _ zJ q2;obtain⟨zv,ez,dz⟩:=r2.get qz;rw[r2.length]at qk;have sq:=uH (show L2.ixN EY.length i=some k from qk);have up:=Up.set S2 (.lst (EY.eraseIdx k)) zJ q2 rfl;have ei:w=V.int i:=d2;subst ei;refine⟨a,EY,i,k,zv,rfl,rfl,e2,by omega,by omega,sq.1,ez,?_⟩;exact h3 _ _ μ2 ((u1.trans u2).trans up) (S2.set zJ q2 rfl rfl ⟨_,aH,ay.up up (ay.erase k r2)⟩) (Den.up up dz)
end
theorem qV:∀{kvs:List (L2.Key×V)} {vs:List (L2.Key×Value)},KV kvs vs->Vals (kvs.map (·.2)) (vs.map (·.2))
 |_,_,.nil=>.nil
 |_,_,.cons r t=>.cons r.2 (qV t)
section
variable{X:Cx}{T:Tab}{Y:EX}{o:Expr}{fa:M3.E3}{p pos apos ipos:Pos}
def xB{to:TE}(hc:X.A.handled=none)(ho:PE X o to)(hm:X.mg "list"=none)(hg:Gl X "list":=by rfl)
 (eO:attributeBase o "values" X.env (eval o X.env)=eval o X.env:=by rfl) (fR:(apos.endLine==ipos.line)=true:=by rfl)
 (he:starEach [.Call (.Attribute o "values" apos) [] [] ipos] X.env=(false,eval (.Call (.Attribute o "values" apos) [] [] ipos) X.env) :: starEach [] X.env:=by rfl) (gZ:(backTo pos (starEach [] X.env)).any (·.1)=false:=by rfl):
 PE X (.Call (.Name "list" p) [.Call (.Attribute o "values" apos) [] [] ipos] [] pos) (fun σ H Q=>to σ H fun x H1=>∃a kvs,x= .ref a/\H1 a=some (.dK kvs)/\∀l,H1 l=none->Q (.ref l) (upd H1 l (.lst (kvs.map (·.2))))):=by
 intro pins s σ H Q I h;refine wpAny_Call_Name_kw (nO I hg hm boot_list ?_ (by decide) (by decide));refine PyProof.Rows.callWith_type1 (Q:=EP X pins σ Q) ?_ he gZ;rw[he];show wpAny _ _ (spliced ((false,eval (.Call (.Attribute o "values" apos) [] [] ipos) X.env) :: backTo pos (starEach [] X.env))) _ _ s;refine Calls.spliced_cons ?_;refine wpAny_Call_method0_late eO fR (thn (ho pins s σ H _ I h) fun v s1 ⟨x,H1,I1,r1,a,kvs,e,ha,q⟩=>?_);subst e;cases r1;obtain⟨h1,h2⟩:=ze I1 (x:= .ref a) rfl (T:="dict") (.inr (.inr (.inl ⟨rfl,.inl ⟨kvs,ha⟩⟩)));refine⟨"dict","dict.values",PySem.F.plainAttrs_dict,PySem.F.slot_dict_values,PySem.F.type_dict_values,h1,h2,Calls.callWith_builtin rfl (PySem.evalArgs_none ?_)⟩;obtain⟨hz,hS,vs,rv,dd⟩:=xA I1.hok ha;refine call_meetsIn PySem.F.slot_dict_values dd.typeIs PySem.F.entry_dict_values (PySem.F.args_dict_values_1 _) (meets_dict_values (bx X.prog X.w) a hS) ⟨⟨vs,dd⟩,?_⟩;show wpAny _ _ (spliced []) _ _ _;refine Calls.spliced_nil ?_;have I2:L2.Inv X pins σ H1 {s1 with heap:=s1.heap.push {cls:= .type "dict_values",data:= .fields #[.ref a]}}:=I1.kept (t':=s1.toks) fun b u e=>Heap.get?_push_of_some _ e;obtain⟨ep,mH⟩:=dd.dictAt;refine PySem.W.kdl_call (PySem.W.kdl_values (knd:=bx X.prog X.w) (d:=a) (r:=s1.heap.objs.size) (kvs:=vs) (ep:=ep)) hc ⟨⟨_,Heap.get?_push_size _ rfl,rfl,rfl⟩,mH.push _⟩ (by rw[<-rv.length];exact hz) fun h' tk acc c' hk Qk items=>?_;have ev:acc.toList=vs.map (·.2):=PySem.W.kdl_vals_eq acc.toList (by rw[Array.length_toList];exact items.1) fun j v e=>items.2 j v (by rw[<-Array.getElem?_toList];exact e);have rr:Vals (kvs.map (·.2)) acc.toList:=by rw[ev];exact qV rv
 refine⟨.ref (s1.heap.push {cls:= .type "dict_values",data:= .fields #[.ref a]}).objs.size,_,I2.laid (t':=tk) hk (qO_ _) (show bO X.prog X.w _ h' _ (.lst (kvs.map (·.2)))from⟨by rw[qM_];exact hz,acc.toList,c',rr,by rw[Array.toArray_toList];exact Qk⟩),rfl,q _ (I2.hok.fresh (qO_ _))⟩
theorem ay.Iw{K:PySem.W.Frag}{H:Hp}{μ:List Addr}:∀{kvs:List (M3.Key×M3.D)} {ws:List (L2.Key×V)},Paired (fun(p:M3.Key×M3.D) (q:L2.Key×V)=>p.1=q.1/\Den K H μ p.2 q.2) kvs ws->ay K H μ (kvs.map (·.2)) (ws.map (·.2))
 |_,_,.nil=>rfl
 |_,_,.cons r t=>⟨_,_,rfl,r.2,ay.Iw t⟩
def yp(hc:X.A.handled=none)(ho:PE X o (tE T X.K Y fa))(hm:X.mg "list"=none)(hg:Gl X "list":=by rfl)
 (eO:attributeBase o "values" X.env (eval o X.env)=eval o X.env:=by rfl) (fR:(apos.endLine==ipos.line)=true:=by rfl)
 (he:starEach [.Call (.Attribute o "values" apos) [] [] ipos] X.env=(false,eval (.Call (.Attribute o "values" apos) [] [] ipos) X.env) :: starEach [] X.env:=by rfl) (gZ:(backTo pos (starEach [] X.env)).any (·.1)=false:=by rfl):
 PE X (.Call (.Name "list" p) [.Call (.Attribute o "values" apos) [] [] ipos] [] pos) (tE T X.K Y (M3.Dx fa)):=by
 refine PE.of (xB hc ho hm hg eO fR he gZ) fun σ H Q ⟨μ,σ3,G,S,sd,h⟩=>⟨μ,σ3,G,S,sd,bj h fun d G1 v H1 μ1 u1 S1 d1 h1=>?_⟩;unfold M3.run M3.xT at h1;cases d with
 |ref n=>
  dsimp only at h1;obtain⟨a,ea,rfl⟩:=id d1;cases q:G1[n]? with
  |none=>rw[q]at h1;cases h1
  |some ob=>
   have od:=S1.obj n a ob ea q;rw[q]at h1;cases ob with
   |dK kvs=>obtain⟨ws,e1,r⟩:=od;refine⟨a,ws,rfl,e1,fun l hl=>?_⟩;have up:=Up.new (μ:=μ1) (.lst (ws.map (·.2))) hl;exact h1 _ _ (μ1++[l]) (u1.trans up) (S1.new hl rfl ⟨_,aH,ay.up up (ay.Iw r)⟩) ⟨l,by rw[<-S1.len];simp,rfl⟩
   |_=>cases h1
 |_=>cases h1
end
def ApP(pins:List (Addr×Obj))(e:Addr)(t:Option (Addr×Value)):Prop:=∀p∈pins,p.1≠e/\∀q,t=some q->p.1≠q.1
section
variable{X:Cx}{σ:L2.St}{H:Hp}{s:Shared}{e:Addr}{c:Value}{t:Option (Addr×Value)}{pins:List (Addr×Obj)}
def Inv.HQ(I:L2.Inv X pins σ H s)(O:Own X)(f:Fly X.s₀.heap H s.heap e c t)(ap:ApP pins e t)(tn:uS (frs X.stack) e t g s.heap h'):L2.Inv X pins σ H {s with heap:=h'}:=by
 obtain⟨tr,he,ne,nt⟩:=f;have U8:∀b,b∉X.ex:=fun b z=>by rw[O.ex]at z;simp at z
 have Od:∀b,b∈frs X.stack->∃o,s.heap.get? b=some o/\∀vs,o.data≠.fields vs:=fun b hb=>(I.stack.mem hb).2;have sub:∀b,b∈X.fs->b∈frs X.stack:=fun b hb=>by
  rw[O.stk];unfold frs;rw[List.filterMap_cons,O.fr];exact qR_ _ hb
 have yg:∀b o,X.s₀.heap.get? b=some o->b≠e/\(∀q,t=some q->b≠q.1)/\b≠X.env.locals:=fun b o q=>
  ⟨fun z=>(by rw[z,ne]at q;cases q),fun p w z=>(by rw[z,(nt p w).2]at q;cases q),Nat.ne_of_lt (qd_ (Heap.lt_size q) I.ok.above)⟩
 have Of:∀{d:Addr} {v:Option Value},s.heap.IsCell d v->h'.IsCell d v:=fun {d v} ⟨o,q,dd⟩=>by
  obtain⟨sl,z⟩:=tn.plain d o q fun ws w=>by rw[dd]at w;cases w
  exact⟨_,z,dd⟩
 refine⟨I.ok,I.os,I.bare,⟨fun b o q n nf nx=>?_,fun b o q n hf nx=>?_,I.base.free,fun b o q nx=>?_,I.base.sv,I.base.oV,I.base.sy⟩,?_,fun x d q=>?_,I.free,I.gI,fun p hp=>?_,fun b u q=>?_,I.len⟩
 · obtain⟨n1,n2,n3⟩:=yg b o q;refine tn.same b o (I.base.keep b o q n nf nx) (fun z=>?_) n1 n2;rcases qS_.mp (I.lz b z)with w |w
   · exact n3 w
   · exact nf w
 · obtain⟨sl,q1⟩:=I.base.slot b o q n hf nx;obtain⟨o',q2,nf⟩:=Od b (sub b hf);rw[q1]at q2;cases q2;obtain⟨AJ,z⟩:=tn.plain b _ q1 nf;exact⟨AJ,z⟩
 · obtain⟨n1,n2,n3⟩:=yg b o q;obtain⟨o1,q1⟩:=I.base.there b o q nx;by_cases hf:b∈frs X.stack
   · obtain⟨o',q2,nf⟩:=Od b hf;obtain⟨sl,z⟩:=tn.plain b o' q2 nf;exact⟨_,z⟩
   · exact⟨o1,tn.same b o1 q1 hf n1 n2⟩
 · obtain⟨m,⟨o,es,ep,q,d,r⟩,hm⟩:=I.loc;obtain⟨sl,z⟩:=tn.plain _ o q fun ws w=>by rw[d]at w;cases w
   refine⟨m,⟨_,es,ep,z,d,r⟩,fun i x v h1 h2 h3=>?_⟩;obtain⟨u,ru,lk⟩:=hm i x v h1 h2 h3;refine⟨u,ru,?_⟩;rcases lk with lk |⟨k,d',hd,ic⟩
   · exact .inl lk
   · exact .inr ⟨k,d',hd,Of ic⟩
 · obtain⟨v,w⟩:=I.cell x d q;exact⟨v,Of w⟩
 · obtain⟨z1,z2,z3,z4,z5⟩:=I.pin p hp;rw[O.pn]at hp;obtain⟨y1,y2⟩:=ap p (by simpa using hp);refine⟨tn.same p.1 p.2 z1 (fun z=>?_) y1 y2,z2,z3,z4,z5⟩;rcases qS_.mp (I.lz p.1 z)with w |w
   · exact z3 w
   · exact z4 w
 · refine(I.hok b u q).jV (fun d v hc w=>?_) (fun _ z=>z) fun _ _ z=>z;have hd:∃u',H d=some u':=by
    rcases hc with z |z
    · rw[z];exact⟨u,q⟩
    · exact⟨_,z⟩
   obtain⟨u',zL⟩:=hd;refine tn.same d v w (fun z=>?_) (fun z=>?_) fun p y z=>?_
   · rw[I.qF d z]at zL;cases zL
   · rw[z,he]at zL;cases zL
   · rw[z,(nt p y).1]at zL;cases zL
def AO{A:Around}{EE:Value->Shared->Prop}{Q:Unit->Shared->Prop}(O:Own X)(hA:A.frames=some X.stack)(I:L2.Inv X pins σ H s)(f:Fly X.s₀.heap H s.heap e c t)(ap:ApP pins e t)
 (k:∀h' g,L2.Inv X pins σ H {s with heap:=h'}->Fly X.s₀.heap H h' e c (some (g,rawInt X.env.locals))->ApP pins e (some (g,rawInt X.env.locals))->Q () {s with heap:=h'}):wpAny M A (noteFrame (.ref e) X.env) Q EE s:=by
 have fr:=I.stack;rw[O.stk]at fr hA;have pl:∀p∈pins,p.1 < s.heap.objs.size:=fun p hp=>Heap.lt_size (I.pin p (qE_ _ hp)).1;refine yc hA fr O.fr f.1 fun h' g tn tr=>k h' g (Inv.HQ I O f ap (by rw[O.stk];exact tn)) ?_ fun p hp=>⟨(ap p hp).1,fun q w=>?_⟩
 · refine⟨tr,f.2.1,f.2.2.1,fun q w=>?_⟩;cases w;rcases tn.head with ⟨y,w⟩ |w
   · exact f.2.2.2 (g,y) w
   · exact⟨I.hok.fresh w,Heap.get?_none_of_le (Nat.le_trans I.sz w)⟩
 · cases w;rcases tn.head with ⟨y,w⟩ |w
   · exact(ap p hp).2 (g,y) w
   · exact Nat.ne_of_lt (qd_ (pl p hp) w)
def pU{EE:Value->Shared->Prop}{Q:Unit->Shared->Prop}{fo:Option Addr}(O:Own X)(I:L2.Inv X pins σ H s)(f:Fly X.s₀.heap H s.heap e c (some (g,z)))(ap:ApP pins e (some (g,z)))
 (k:∀h',L2.Inv X pins σ H {s with heap:=h'}->Fly X.s₀.heap H h' e c (some (g,fo.elim .none fun f=>rawInt f))->ApP pins e (some (g,fo.elim .none fun f=>rawInt f))->Q () {s with heap:=h'}):wpAny M A (setFlight (.ref e) fo) Q EE s:=
 rB f.1 fun h' sm tr sz pl=>k h' (Inv.HQ (g:=g) I O f ap ⟨fun b o q _ _ n=>sm b o (n _ rfl) q,fun b o q nf=>⟨o.slots,pl b o q nf⟩,.inl ⟨_,rfl⟩,sz⟩) ⟨tr,f.2.1,f.2.2.1,fun q w=>by cases w;exact f.2.2.2 (g,z) rfl⟩ fun p hp=>⟨(ap p hp).1,fun q w=>by cases w;exact(ap p hp).2 (g,z) rfl⟩
def XP(X:Cx)(pins:List (Addr×Obj))(σ:L2.St)(E:XK)(x:Value)(s':Shared):Prop:=∃e H' c dx t,x= .ref e/\L2.Inv X pins σ H' s'/\Fly X.s₀.heap H' s'.heap e c t/\ApP pins e t/\E c dx H'
def PEx(X:Cx)(e:Expr)(t:L2.St->Hp->VK->XK->Prop):Prop:=∀(pins:List (Addr×Obj)) (s:Shared) (σ:L2.St) (H:Hp) (Q:VK) (E:XK),L2.Inv X pins σ H s->t σ H Q E->wpAny (model X.prog X.w) X.A (eval e X.env) (EP X pins σ Q) (XP X pins σ E) s
def GG{sp:Sp}{Q:VK}{E:XK}(O:Own X)(F:cj X.prog X.w X.K X.mg X.base (CX1 X.prog X.w) k f fd ps sp)(hr:dR k X.A)(hb:Binds X.K fd ps [])
 (I:L2.Inv X pins σ H s) (r:Vals vs us) (h:sp vs H Q E):wpAny (model X.prog X.w) X.A (call (.ref f) us) (EP X pins σ Q) (XP X pins σ E) s:=by
 have hl:(us++[]).length=ps.length:=by rw[qY_,<-r.length];exact F.len _ _ _ _ h
 have Tj:=hb s us I.kIn hl;rw[qY_]at Tj;refine wpAny_call (codeAny_mono (F.run X.A X.stack s H ⟨us,[]⟩ us vs Q E hr I.Jc Tj r h) fun r s' hq=>?_);cases r with
 |error x=>obtain⟨e,H',c,dx,t,rfl,os,bare,un,hok,f,q⟩:=hq;refine⟨e,H',c,dx,t,rfl,I.DC (ch:=[]) os un hok bare (fun b z=>absurd z (by simp)),f.old fun b o z=>I.base.there b o z (by rw[O.ex];simp),fun p hp=>?_,q⟩;have live:=(I.pin p (qE_ _ hp)).1;exact⟨fun z=>(by rw[z,f.2.2.1]at live;cases live),fun y w z=>(by rw[z,(f.2.2.2 y w).2]at live;cases live)⟩
 |ok fl=>
  cases fl with
  |ret u=>exact I.after hq
  |next=>cases hq
  |brk=>cases hq
  |cont=>cases hq
end
def tEx(T:Tab)(K:PySem.W.Frag)(f:M3.E3):L2.St->Hp->VK->XK->Prop:=fun σ H Q E=>tE T K (EX.of T K E) f σ H Q
section
variable{X:Cx}{T:Tab}{o e:Expr}{es:List Expr}{p pos apos:Pos}{fa:M3.E3}{f3:M3.A3}{k n C:Nat}{x m:Str}{g:List M3.D->M3.M M3.D}
def MZ{α:Type}{M:Model}{A:Around}{t:Sem α}{Q Q':α->Shared->Prop}{E:Value->Shared->Prop}{s:Shared}(h:wpAny M A t Q (fun _ _=>False) s)(hq:∀a s,Q a s->Q' a s):wpAny M A t Q' E s:=wpAny_mono h hq fun _ _ z=>z.elim
def GD{pl:Sem Bool}(O:Own X)(F:Mt3 X.prog X.w X.K X.mg X.base (CX1 X.prog X.w) T k C m n g)(hr:dR k X.A)(ho:∀E,PE X.nox o (tE T X.K (EX.of T X.K E) fa))(ha:∀E,PA X.nox (e :: es) (tA T X.K (EX.of T X.K E) f3))
 (HE:starEach (e :: es) X.env=(false,eval e X.env) :: starEach es X.env:=by rfl) (gZ:(backTo pos (starEach es X.env)).any (·.1)=false:=by rfl)
 (ht:eval (.Call (.Attribute o m apos) (e :: es) [] pos) X.env=(do
   let ov <-eval o X.env
   standAt apos.atName
   let (f,first) <-holding [ov] (getMethod ov m pl)
   callWith pos f first (backTo pos (starEach (e :: es) X.env)) (backToKw pos (keywordEach [] X.env))):=by rfl):
 PEx X (.Call (.Attribute o m apos) (e :: es) [] pos) (tEx T X.K (M3.aK C g fa f3)):=by
 obtain⟨Ca,f,fd,ps,hc,cl,hm,ok,hb⟩:=F.ex;intro pins s σ H Q E I h;have h':=y9 (CX:=CX1 X.prog X.w) (P:=X.prog) (w:=X.w) (mg:=X.mg) (base:=X.base) (k:=k) hc F.no F.len h;refine PySem.W.methodCall_KW (pl:=pl) (MZ (ho E pins s σ H _ (I.rV _) h') fun u s1 ⟨y,H1,I1,rx,a,dx,fs,ex,ea,l,q⟩=>?_) ht;subst ex;obtain rfl:u=Value.ref a:=rx;have J1:=I1.hU;refine m7 J1 ea cl hm l ?_;refine PySem.W.callWith_K (first:=[.ref a]) (h₀:=X.base) I.ok.mod.kin hm.kp (MZ (ha E pos pins s1 σ H1 _ I1 q) fun us s2 ⟨vs,H2,I2,r,q2⟩=>⟨I2.hU.kIn,?_⟩) HE gZ
 have q2:sp3 T X.K n g (V.ref a :: (vs++[])) H2 Q E:=q2;rw[qY_]at q2;exact GG (us:= .ref a :: us) (vs:= .ref a :: vs) O ok hr hb I2.hU (.cons rfl r) q2
def mkX(X:Cx)(e:Addr):Cx:={X with A:=X.A.mark (some (.ref e)),calm:=false,xe:=fun _ _=>False}
def Inv.mk'{pins:List (Addr×Obj)}{σ:L2.St}{H:Hp}{s:Shared}{e:Addr}(I:L2.Inv X pins σ H s):L2.Inv (mkX X e) pins σ H s:=
 have ok:=I.ok
 ⟨⟨ok.mod,ok.kind,ok.glob,ok.blt,ok.above,ok.inj,ok.has,ok.cab,(fun z=>nomatch z),ok.frames,ok.stk,ok.exf,ok.bs,ok.bsz,ok.zD,ok.AM,ok.nQ,ok.frf⟩,I.os,I.bare,I.base,I.loc,I.cell,I.free,I.gI,I.pin,I.hok,I.len⟩
def Inv.BG{pins:List (Addr×Obj)}{σ:L2.St}{H:Hp}{s:Shared}{e:Addr}(ok:X.Ok)(I:L2.Inv (mkX X e) pins σ H s):L2.Inv X pins σ H s:=
 ⟨ok,I.os,I.bare,I.base,I.loc,I.cell,I.free,I.gI,I.pin,I.hok,I.len⟩
theorem SP.BG{pins:List (Addr×Obj)}{D:Ends}{f:Flow}{s':Shared}{e:Addr}(ok:X.Ok)(h:SP (mkX X e) pins D f s'):SP X pins D f s':=by
 cases f with
 |next=>obtain⟨σ',H',I,q⟩:=h;exact⟨σ',H',Inv.BG ok I,q⟩
 |brk=>obtain⟨σ',H',I,q⟩:=h;exact⟨σ',H',Inv.BG ok I,q⟩
 |cont=>obtain⟨σ',H',I,q⟩:=h;exact⟨σ',H',Inv.BG ok I,q⟩
 |ret u=>obtain⟨v,σ',H',I,r,q⟩:=h;exact⟨v,σ',H',Inv.BG ok I,r,q⟩
end
inductive Hs (X:Cx) (T:Tab) (Y:EX):List ExceptHandler->List ((Nat->Bool)×M3.S3)->Prop
 |nil:Hs X T Y [] []
 |cons {x:Str} {px pos:Pos} {cv:Value} {m:Nat->Bool} {b:Stmt} {body:List Stmt} {f:M3.S3} {hs:List ExceptHandler} {ms:List ((Nat->Bool)×M3.S3)} (hx:X.mg x=some cv) (hg:Gl X x) (qg:(x==("__debug__":Str))=false)
   (hm:∀c Ca,T.cls c=some Ca->PySem.W.exmOne X.K (.ref Ca) cv=some (m c)) (hb:∀e,PSs (mkX X e) (b :: body) (tS T X.K Y f)) (r:Hs X T Y hs ms):Hs X T Y (.ExceptHandler (some (.Name x px)) none (b :: body) pos :: hs) ((m,f) :: ms)
section
variable{X:Cx}{T:Tab}{Y:EX}{pins:List (Addr×Obj)}{σ:L2.St}{H:Hp}
def handle(O:Own X)(hc:T.cls c=some Ca):∀{hs:List ExceptHandler} {ms:List ((Nat->Bool)×M3.S3)},Hs X T Y hs ms->∀{f:M3.S3},M3.pick c ms=some f->
 ∀{s:Shared} {g:Addr} {z:Value},L2.Inv X pins σ H s->Fly X.s₀.heap H s.heap e (.ref Ca) (some (g,z))->ApP pins e (some (g,z))->tS T X.K Y f D σ H->wpAny (model X.prog X.w) X.A (handleBy (.ref e) X.env hs) (SP X pins D) X.xe s:=by
 intro hs ms hh
 induction hh with
 |nil=>intro f hf;cases hf
 |@cons x px pos cv m b body f0 hs ms hx hg qg hm hb r ih=>
  intro f hf s g z I fl ap ht;refine wpAny_handleBy_cons (codeAny_handlers_test ?_) (by intro q;cases q);refine mj (X:=mkX X e) (Inv.mk' I) hg hx ?_ qg;have lt:PySem.W.Looks (model X.prog X.w) s.heap (typeOf (.ref e)) (.ref Ca):=by obtain⟨oe,vs,ge,⟨ce,_⟩,de,_⟩:=fl.1;rw[<-ce];exact(PySem.W.Looks.ld ge).andThen .now
  refine PySem.W.exm_one I.kIn lt (hm c Ca hc) _ _ _ s (fun _ _ q=>q) ?_;cases q:m c with
  |false=>
   have zI:M3.pick c ms=some f:=by unfold M3.pick at hf;rw[q,if_neg qC_]at hf;exact hf
   exact ih zI I fl ap ht
  |true=>
   have zI:f0=f:=by unfold M3.pick at hf;rw[q,if_pos rfl]at hf;cases hf;rfl
   subst zI;refine codeAny_handlers_suite (pU O I fl ap fun h' I' WY W7=>?_);exact wpAny_mono (hb e pins {s with heap:=h'} σ H D (Inv.mk' I') ht) (fun fl s' q=>SP.BG I.ok q) fun _ _ z=>z.elim
def Kw(O:Own X){ms:List ((Nat->Bool)×M3.S3)}(hh:Hs X T Y hs ms)
 (xp:XP X pins σ (fun cv dx H'=>∃c Ca,cv= .ref Ca/\T.cls c=some Ca/\∃f,M3.pick c ms=some f/\tS T X.K Y f D σ H') x s):
 wpAny (model X.prog X.w) X.A (noteFrame x X.env) (fun _ s₂=>wpAny (model X.prog X.w) X.A (setFlight x none) (fun _ s₃=>wpAny (model X.prog X.w) X.A (handleBy x X.env hs) (SP X pins D) X.xe s₃) X.xe s₂) X.xe s:=by
 obtain⟨e,H',cv,dx,t,rfl,I,fl,ap,c,Ca,rfl,hc,f,hf,ht⟩:=xp;refine AO O I.ok.frames I fl ap fun h1 g I1 Wb VS=>?_;refine pU O I1 Wb VS fun h2 I2 Wt U1=>?_;exact handle O hc hh hf I2 Wt U1 ht
def M6(T:Tab)(K:PySem.W.Frag)(Y:EX)(ms:List ((Nat->Bool)×M3.S3))(D:Ends)(σ:L2.St):XK:=fun cv dx H'=>∃c Ca,cv= .ref Ca/\T.cls c=some Ca/\∃f,M3.pick c ms=some f/\tS T K Y f D σ H'
def CA{K:PySem.W.Frag}{ms:List ((Nat->Bool)×M3.S3)}{D:Ends}{fe:M3.E3}{k:M3.D->M3.St->M3.Fl×M3.St}{μ:List Addr}{σ3:M3.St}{G:M3.Hh}{R:VK}(sd:StD K H μ σ3 σ)(h:M3.run (M3.zh fe k ms σ3) G (fw T K μ H D) (Y.x μ H))
 (ok:∀d G' v H1 μ1,Up μ μ1 H H1->Sim T K μ1 H1 G'->Den K H1 μ1 d v->fw T K μ H D (k d σ3) G'->R v H1):M3.run (fe σ3) G (dO T K μ H R) ((EX.of T K (M6 T K Y ms D σ)).x μ H):=
 M3.ak (M3.Gp h) (fun d G' q v H1 μ1 u S1 dv=>ok d G' v H1 μ1 u S1 dv q) fun c G' ⟨f,hf,hr⟩ Ca dx H' μ' hc u S'=>⟨c,Ca,rfl,hc,f,hf,μ',σ3,G',S',sd.up u,M3.ak hr (fun _ _ q=>q.up u) fun _ _ q=>Y.up u q⟩
variable{e:Expr}{fe:M3.E3}{h0:ExceptHandler}{hs:List ExceptHandler}{ms:List ((Nat->Bool)×M3.S3)}{p1 pos:Pos}
def Cv(O:Own X)(he:PEx X e (tEx T X.K fe))(hh:Hs X T Y (h0 :: hs) ms):PS X (.Try [.Return (some e) p1] (h0 :: hs) [] [] pos) (tS T X.K Y (M3.zh fe (fun d σ=>(.ret d,σ)) ms)):=by
 intro pins s σ H D I ⟨μ,σ3,G,S,sd,h⟩;refine wpAny_Try_except (wpAny_execs_cons (wpAny_Return_some (wpAny_mono (he pins s σ H (fun v H1=>D.rt v H1) (M6 T X.K Y ms D σ) I ⟨μ,σ3,G,S,sd,CA sd h fun d G' v H1 μ1 u S1 dv q=>q σ H1 μ1 u S1 (sd.up u) v dv⟩) (fun v s1 ⟨x,H1,I1,r1,q1⟩=>?_) fun x s1 xp=>Kw O hh xp)));exact⟨x,σ,H1,I1,r1,q1⟩
end
section
variable{P:Program}{w:World}{K:PySem.W.Frag}{mg:Str->Option Value}{base:Heap}{CX:CXT}{T:Tab}{x m qual:Str}{st:Stmt}{fa Ca:Addr}{fd:FuncData}{N ps:List Str}{k n C:Nat}{pad:M3.St}{body:M3.S3}
def cR(ok:cj P w K mg base CX k fa fd ps (sp3 T K n (M3.fnM n pad body)))(F:Fun K x qual st fa fd)(hm:mg x=some (.ref fa))(hb:Binds K fd ps []):Fn3 P w K mg base CX T k x n (M3.fnM n pad body):=
 ⟨⟨fa,fd,ps,ok,hm,F.kp,hb⟩,fun _ _ _ _ q=>qJ q⟩
def bA(ok:cj P w K mg base CX k fa fd ps (sp3 T K n (M3.fnM n pad body)))(hc:T.cls C=some Ca)(cl:Cls K Ca)(me:Meth K Ca m fa)(hb:Binds K fd ps [])(no:∀g,T.nm g≠m):Mt3 P w K mg base CX T k C m n (M3.fnM n pad body):=
 ⟨⟨Ca,fa,fd,ps,hc,cl,me,ok,hb⟩,no,fun _ _ _ _ q=>qJ q⟩
def wJ(ok:cj P w K mg base CX k fa fd ps (sp3 T K n (M3.fnM n pad body)))(hc:T.cls C=some Ca)(mk:Mk K Ca fa)(hm:mg x=some (.ref Ca))(hb:Binds K fd ps []):Ct3 P w K mg base CX T k x C n (M3.fnM n pad body):=
 ⟨⟨Ca,fa,fd,ps,hc,mk,hm,ok,hb⟩,fun _ _ _ _ q=>qJ q⟩
end
end L3
namespace HT
open PySem PyProof.Rows
end HT
namespace L2
open PySem PySem.Spec PyProof.Rows
section
variable{X:Cx}{pins:List (Addr×Obj)}{σ:List (Option V)}{H:Hp}{s:Shared}{h':Heap}
def Inv.FX{t':Nat}{fp:List Addr}(I:Inv X pins σ H s)(k:∀b o,b∉fp->s.heap.get? b=some o->h'.get? b=some o)(hf:∀b∈fp,oZ X pins H b):Inv X pins σ H {s with heap:=h',toks:=t'}:=by
 have OG:∀b u,H b=some u->b∉fp:=fun b u e z=>by rw[(hf b z).1]at e;cases e
 refine I.step (g':=s.gens) (d':=s.drawn) (ch:=fp) (fun b hb=>⟨(hf b hb).2.2.2.1,(hf b hb).2.1,(hf b hb).2.2.2.2.1,(hf b hb).2.2.2.2.2⟩) (fun b o _ _ hc e _=>k b o hc e) (fun b o _ _ hc e _=>⟨o.slots,k b o hc e⟩) (fun _ _ _ _ n=>n)
  (fun b o hc e=>⟨o,k b o hc e⟩) (fun _ _ e=>e) (fun _ _ _ e=>e) (fun b ps e=>⟨#[],by rw[e];simp⟩) (fun m hm=>?_) (fun b u e=>?_) I.bare
 · obtain⟨o,es,ep,ho,r⟩:=hm;exact⟨o,es,ep,k _ o (fun z=>(hf _ z).2.1 rfl) ho,r⟩
 · refine(I.hok b u e).jV (fun c v hc q=>k c v ?_ q) (fun _ q=>q) fun _ _ q=>q;rcases hc with z |z
   · rw[z];exact OG b u e
   · exact OG c _ z
end
def Ite(K:PySem.W.Frag)(a:Addr):It:=
 ⟨fun i H=>∃xs x,SqL K H a xs/\xs[i]? =some x,fun i H x H'=>∃y p,H p=none/\x= .ref p/\H'=upd H p (.tup [.int (i:Int),y])/\∀xs,SqL K H a xs->xs[i]? =some y,fun i H=>∃xs,SqL K H a xs/\xs.length<=i⟩
def AV{P:Program}{w:World}{K:PySem.W.Frag}{elts:List Expr}{k:Nat}{pos:Pos}(a e it:Addr)(mU:e≠it):Turn P w K (.Tuple elts k pos) (Ite K a) [e,it] e (fun i h=>(∃old,IsEnum h e it ((i:Nat):Int) old)/\h.IsListIter it a i) where
 mem:=by simp
 obj:=fun i h st b hb=>by
  obtain⟨⟨old,he⟩,o,eo,c,d⟩:=st;rcases qS_.mp hb with rfl |hb
  · exact⟨_,he,fun v z=>by
     have z':Data.fields _=Data.cell v:=z
     cases z'⟩
  · have e:b=it:=by simpa using hb
    subst e;exact⟨o,eo,fun v z=>by rw[d]at z;cases z⟩
 keep:=fun i h h' st k=>⟨let ⟨old,he⟩:=st.1;⟨old,k e (by simp) _ he⟩,st.2.at fun o eo=>k it (by simp) o eo⟩
 item:=by
  intro X hP hw hK hc i pins s σ H E I hf st hg;subst hP hw hK;obtain⟨⟨old,he⟩,hit⟩:=st;obtain⟨xs,x,hq,hx⟩:=hg;obtain⟨aJ,rv,p,hz⟩:=I.list hq;obtain⟨u,hu,ru⟩:=rv.get hx;refine wpAny_pyNext_enum_item he hit p.isList (x:=u) (by simpa using hu) mU fun h₁ Fe LW EU ON ES=>?_;have gA:∀b∈ [e,it],b < s.heap.objs.size:=fun b hb=>by
   rcases qS_.mp hb with rfl |hb
   · exact Heap.lt_size he
   · have eb:b=it:=by simpa using hb
     subst eb;obtain⟨o,eo,_⟩:=id hit;exact Heap.lt_size eo
  have I1:Inv X pins σ (upd H s.heap.objs.size (.tup [.int (i:Int),x])) {s with heap:=s.heap.push {cls:= .type "tuple",data:= .seq #[.int (i:Int) s.toks,u]},toks:=s.toks+1}:=
   I.laid (fun b o eb=>Heap.get?_push_of_some _ eb) (qO_ _) ⟨by rw[sizeLine_eq];exact qP_ rfl,[.int (i:Int) s.toks,u],.cons ⟨_,rfl⟩ (.cons ru .nil),⟨_,Heap.get?_push_size _ rfl,rfl,_,rfl⟩⟩
  have SV:∀b∈ [e,it],oZ X pins (upd H s.heap.objs.size (.tup [.int (i:Int),x])) b:=fun b hb=>⟨by rw[aI (Nat.ne_of_lt (gA b hb))];exact(hf b hb).1,(hf b hb).2⟩;have I2:Inv X pins σ (upd H s.heap.objs.size (.tup [.int (i:Int),x])) {s with heap:=h₁,toks:=s.toks+1}:=by
   refine Inv.FX (s:={s with heap:=s.heap.push {cls:= .type "tuple",data:= .seq #[.int (i:Int) s.toks,u]},toks:=s.toks+1}) (h':=h₁) (t':=s.toks+1) (fp:=[e,it]) I1 (fun b o hb eb=>?_) SV;rcases Heap.get?_push_cases eb with ⟨z1,z2⟩ |z
   · rw[z1,z2];exact EU
   · exact ES b o (fun z=>hb (by simp [z])) (fun z=>hb (by simp [z])) z
  refine⟨_,rfl,wpAny_letOwnedTupleGo_enum Fe fun h₂ EJ qh=>?_⟩;obtain⟨f0,f1,f2,f3,f4,f5⟩:=SV e (by simp);have qh:Heap.SameBut e h₁ h₂:=qh;have I3:Inv X pins σ (upd H s.heap.objs.size (.tup [.int (i:Int),x])) {s with heap:=h₂,toks:=s.toks+1}:=I2.turned (t':=s.toks+1) (fun b o hb eb=>(qh.2 b hb).trans eb) f0 f1 f3 f4 f5;refine⟨.ref s.heap.objs.size,_,I3,rfl,⟨x,s.heap.objs.size,I.hok.fresh (qO_ _),rfl,rfl,fun ys hy=>by rw[I.lF hy hq];exact hx⟩,⟨⟨u,?_⟩,LW.at fun o eo=>(qh.2 it (Ne.symm mU)).trans eo⟩,fun b hb=>(SV b hb).1⟩;have:((i+1:Nat):Int)=(i:Int)+1:=by push_cast;rfl
  rw[this];exact EJ
 done:=by intro X hP hw hK hc i pins s σ H E I hf st hg;subst hP hw hK;obtain⟨⟨old,he⟩,hit⟩:=st;obtain⟨xs,hq,hx⟩:=hg;obtain⟨aJ,rv,p,hz⟩:=I.list hq;obtain⟨f0,f1,f2,f3,f4,f5⟩:=hf it (by simp);have hl:=rv.length;exact wpAny_pyNext_enum_end (I.ok.hd hc) he hit p.isList (by simp;omega) fun h' eb=>⟨rfl,I.turned (t':=s.toks) (fun b o hb e=>eb b o hb e) f0 f1 f3 f4 f5⟩
 self:=fun _ _ _ _ _ st h=>let ⟨_,he⟩:=st.1;wpAny_pyIter_enum he h
def Lr(K:PySem.W.Frag)(ta:TA):TI:=fun σ H R=>ta σ H fun vs H1=>∃a,vs=[.ref a]/\(∃xs,SqL K H1 a xs)/\R (Ite K a) H1
def Gy{X:Cx}{ta:TA}(hg:Gl X "enumerate")(hm:X.mg "enumerate"=none)(ha:PA X [l] ta)(hs:starEach [l] X.env=[(false,eval l X.env)]:=by rfl):PI X (.Tuple elts k ptg) (.Call (.Name "enumerate" p) [l] [] pos) (Lr X.K ta):=by
 intro pins s σ H R I h;refine Call_ (nO I hg hm boot_enumerate (PyProof.Rows.callWith_type1 (thn (ha pos pins s σ H _ I h) fun us s1 ⟨vs,H1,I1,r1,q1⟩=>?_) hs rfl));obtain⟨a,e,⟨xs,hq⟩,q⟩:=q1;subst e;cases r1 with
 |cons r rr=>
  cases rr;cases r;obtain⟨aJ,rv,pl,hz⟩:=I1.list hq;refine call_enumerate_list pl.isList fun h' hE U3 hsz hk=>?_;have I2:Inv X pins σ H1 {s1 with heap:=h'}:=I1.kept (t':=s1.toks) hk;refine wpAny_pyIter_enum hE ?_;refine⟨s1.heap.objs.size+1,[s1.heap.objs.size+1,s1.heap.objs.size],_,_,H1,rfl,I2,AV a _ _ (Nat.succ_ne_self _),⟨⟨.none,hE⟩,U3⟩,fun b hb=>?_,q⟩;have hb:s1.heap.objs.size<=b:=by
   rcases qS_.mp hb with rfl |hb
   · exact Nat.le_succ _
   · have:b=s1.heap.objs.size:=by simpa using hb
     exact Nat.le_of_eq this.symm
  exact I1.Eh hb (I1.hok.fresh hb)
end L2
namespace L3
open PySem PySem.Spec PyProof.Rows L2 PySem.SeqAt
section
variable{X:Cx}{T:Tab}{Y:EX}{a b e o i:Expr}{es:List Expr}{fa fb fc:M3.E3}{ft:M3.T3}{f3:M3.A3}{pos pos' p p2 apos:Pos}
def DZ(hm:X.mg "enumerate"=none)(ha:PE X a (tE T X.K Y fa))(hg:Gl X "enumerate":=by rfl)(hs:starEach [a] X.env=[(false,eval a X.env)]:=by rfl):PI X (.Tuple elts k ptg) (.Call (.Name "enumerate" p) [a] [] pos) (tI T X.K Y (M3.D7 fa)):=by
 refine PI.of (Gy hg hm (eB ha je hs) hs) fun σ H R ⟨μ,σ3,G,S,sd,h⟩=>⟨μ,σ3,G,S,sd,bj h fun d G1 v H1 μ1 u1 S1 d1 h1=>?_⟩;have main:∀{n:Nat} {xs:List M3.D} {o:M3.O} {ck:M3.Hh->Bool} {q:Addr},μ1[n]? =some q->(∀G',ck G'=true->G'[n]? =some o)->(o= .lst xs\/o= .frz xs)->zw T X.K μ1 H1 ⟨M3.jv xs,ck⟩ (Ite X.K q):=by
  intro n xs o ck q ea wo ho;have key:∀{μ' H' G'},Up μ1 μ' H1 H'->Sim T X.K μ' H' G'->ck G'=true->∃vs,SqL X.K H' q vs/\ay X.K H' μ' xs vs:=by
   intro μ' H' G' u S c;have ob:=S.obj n q o (u.at ea) (wo G' c);rcases ho with rfl |rfl
   · obtain⟨vs,e1,r⟩:=ob;exact⟨vs,SqL.of e1,r⟩
   · obtain⟨vs,e1,r⟩:=ob;exact⟨vs,e1.sq,r⟩
  have Ob:∀{i:Nat} {d:M3.D},(M3.jv xs)[i]? =some d->∃y,xs[i]? =some y/\d= .tup [.int (i:Int),y]:=by
   intro i d h;unfold M3.jv at h;rw[List.getElem?_mapIdx]at h;cases z:xs[i]? with
   |none=>rw[z]at h;cases h
   |some y=>rw[z]at h;exact⟨y,rfl,(Option.some.inj h).symm⟩
  refine⟨fun i d μ' H' G' u S c e=>?_,fun i d v μ' H' H'' G' u S c e y=>?_,fun μ' H' G' u S c=>?_⟩
  · obtain⟨vs,sq,r⟩:=key u S c;obtain⟨y,ey,_⟩:=Ob e;obtain⟨v,e1,_⟩:=r.get ey;exact⟨vs,v,sq,e1⟩
  · obtain⟨vs,sq,r⟩:=key u S c;obtain⟨z,ez,rfl⟩:=Ob e;obtain⟨w,e1,dw⟩:=r.get ez;obtain⟨yv,t,ht,rfl,rfl,hy⟩:=y;have hy:=hy vs sq;rw[e1]at hy;cases hy;have sm:gH H' (upd H' t (.tup [.int (i:Int),w])):=gH.new _ ht;exact⟨sm,t,[.int (i:Int),w],rfl,SqT.of aH,⟨_,_,rfl,rfl,_,_,rfl,Den.up (Up.same (μ:=μ') sm) dw,rfl⟩⟩
  · obtain⟨vs,sq,r⟩:=key u S c;refine⟨vs,sq,Nat.le_of_eq ?_⟩;rw[<-r.length];simp [M3.jv]
 unfold M3.run M3.sC at h1;cases d with
 |ref n=>
  dsimp only at h1;obtain⟨q,eq,rfl⟩:=d1;cases z:G1[n]? with
  |none=>rw[z]at h1;cases h1
  |some ob=>
   have od:=S1.obj n q ob eq z;rw[z]at h1;cases ob with
   |lst xs=>obtain⟨vs,e1,r⟩:=od;exact⟨q,rfl,⟨vs,SqL.of e1⟩,h1 _ H1 μ1 u1 S1 (main eq (fun G' c=>of_decide_eq_true c) (.inl rfl))⟩
   |frz xs=>obtain⟨vs,e1,r⟩:=od;exact⟨q,rfl,⟨vs,e1.sq⟩,h1 _ H1 μ1 u1 S1 (main eq (fun G' c=>of_decide_eq_true c) (.inr rfl))⟩
   |_=>cases h1
 |_=>cases h1
def Ah{K:PySem.W.Frag}{H:Hp}{μ:List Addr}{x:M3.D}{v:V}(d:Den K H μ x v):(V.bl (decide (v= .non)))= .bl (decide (x= .non)):=by
 cases x with
 |non=>cases (show v= .non from d);rfl
 |bl b=>cases (show v= .bl b from d);rfl
 |int b=>cases (show v= .int b from d);rfl
 |str b=>cases (show v= .str b from d);rfl
 |ref n=>obtain⟨_,_,rfl⟩:=d;rfl
 |tup ds=>obtain⟨_,_,rfl,_⟩:=d;rfl
def Nb{j}(ha:PE X a (tE T X.K Y fa)):PT X (.Compare a [.Is] [.Constant .none j pos'] pos) (tT T X.K Y (M3.tB (M3.eUn M3.kN fa))):=by
 refine PT.of (CH (Dg ha)) fun σ H Q ⟨μ,σ3,G,S,sd,h⟩=>?_;have h:M3.run (M3.bnd (M3.bnd (fa σ3) M3.kN) M3.asB) G (qc T X.K μ H Q) (Y.x μ H):=h;rw[M3.mx]at h;exact⟨μ,σ3,G,S,sd,bj h fun x G1 v H1 μ1 u1 S1 d1 h1=>⟨decide (x= .non),Ah d1,h1 H1 μ1 u1 S1⟩⟩
def Lf{j}(ha:PE X a (tE T X.K Y fa)):PT X (.Compare a [.IsNot] [.Constant .none j pos'] pos) (tT T X.K Y (M3.tB (M3.eUn M3.mV fa))):=by
 refine PT.of (CH (GA ha)) fun σ H Q ⟨μ,σ3,G,S,sd,h⟩=>?_;have h:M3.run (M3.bnd (M3.bnd (fa σ3) M3.mV) M3.asB) G (qc T X.K μ H Q) (Y.x μ H):=h;rw[M3.mx]at h;exact⟨μ,σ3,G,S,sd,bj h fun x G1 v H1 μ1 u1 S1 d1 h1=>⟨!decide (x= .non),by have:=Ah d1;injection this with this;rw[this],h1 H1 μ1 u1 S1⟩⟩
end
end L3
namespace HT
open PySem
def mS:entryFor table "dict_itemiterator.__iter__"=some Builtin.«dict_keyiterator.__iter__»:=
 entryFor_alias (id':="dict_keyiterator.__iter__") (by kernel_rfl) (by first |rfl |decide +kernel |(unfold String.splitOn;simp +decide [String.splitOnAux])) (by decide +kernel) (by kernel_rfl)
end HT
namespace L2
open PySem PySem.Spec PyProof.Rows
def CC(h:pV k u=true):RelV (kV k) u:=by
 rcases bN h with ⟨i,t,rfl,rfl⟩ |⟨x,t,rfl,rfl⟩
 · exact⟨t,rfl⟩
 · exact⟨t,rfl⟩
theorem KV.get:∀{kvs:List (Key×V)} {vs:List (Key×Value)} {i:Nat} {k:Key} {v:V},KV kvs vs->kvs[i]? =some (k,v)->∃u,vs[i]? =some (k,u)/\RelV v u
 |_,_,_,_,_,.nil,e=>by simp at e
 |(k1,v1) :: kvs,(k2,u1) :: vs,0,k,v,.cons ⟨h1,h2⟩ t,e=>by
  simp at e;obtain⟨rfl,rfl⟩:=e;exact⟨u1,by rw[<-show k1=k2 from h1];rfl,h2⟩
 |(k1,v1) :: kvs,(k2,u1) :: vs,i+1,k,v,.cons _ t,e=>by
  obtain⟨u,h1,h2⟩:=KV.get (i:=i) t (by simpa using e);exact⟨u,by simpa using h1,h2⟩
def Itd(d:Addr)(ob:Obj)(kvs:List (Key×V)):It:=
 ⟨fun i H=>H d=some (.frz ob (.dK kvs))/\i < kvs.length,fun i H x H'=>∃k v p,kvs[i]? =some (k,v)/\H p=none/\x= .ref p/\H'=upd H p (.tup [kV k,v]),fun i H=>H d=some (.frz ob (.dK kvs))/\kvs.length<=i⟩
def En{X:Cx}{H:Hp}{s:Shared}{ob:Obj}{kvs:List (Key×V)}(I:Inv X pins σ H s)(Hw:ob.data= .dict es ep)(hd:H d=some (.frz ob (.dK kvs))):
 ∃vs,KV kvs vs/\s.heap.DictAt (bx X.prog X.w) d vs ep/\vs.length=kvs.length:=by
 obtain⟨hg,hz,hS,vs,rv,dd⟩:=(show bO X.prog X.w H s.heap d (.frz ob (.dK kvs))from I.hok d _ hd);obtain⟨Pm,mH⟩:=dd.dictAt;obtain⟨o,L0,ho,hc,Om,r⟩:=id mH;rw[hg]at ho;cases ho;rw[Hw]at Om
 injection Om with h1 h2
 subst h2;exact⟨vs,rv,mH,rv.length.symm⟩
def y7{P:Program}{w:World}{K:PySem.W.Frag}{elts:List Expr}{k:Nat}{pos:Pos}(d it:Addr)(ob:Obj)(kvs:List (Key×V))(es:Array DictEntry)(ep:Nat)(Hw:ob.data= .dict es ep):
 Turn P w K (.Tuple elts k pos) (Itd d ob kvs) [it] it (fun i h=>∃ok ov,IsItemIter h it d i kvs.length ep ok ov) where
 mem:=by simp
 obj:=fun i h st b hb=>by
  obtain⟨ok,ov,he⟩:=st;have e:b=it:=by simpa using hb
  subst e;exact⟨_,he,fun v z=>by
   have z':Data.fields _=Data.cell v:=z
   cases z'⟩
 keep:=fun i h h' st k=>let ⟨ok,ov,he⟩:=st;⟨ok,ov,k it (by simp) _ he⟩
 item:=by
  intro X hP hw hK hc i pins s σ H E I hf st hg;subst hP hw hK;obtain⟨ok,ov,he⟩:=st;obtain⟨hd,hi⟩:=hg;obtain⟨vs,rv,mH,hl⟩:=En I Hw hd;have Mf:kvs[i]? =some (kvs[i].1,kvs[i].2):=qA_ hi;generalize kvs[i].1=k0 at Mf;generalize kvs[i].2=v0 at Mf;obtain⟨u,hu,ru⟩:=KV.get rv Mf;obtain⟨f0,f1,f2,f3,f4,f5⟩:=hf it (by simp);have RQ:IsItemIter s.heap it d i vs.length ep ok ov:=by rw[hl];exact he
  refine wpAny_pyNext_items_item RQ mH hu fun key h₁ LB Fe EU ON ES=>?_;have gA:it < s.heap.objs.size:=Heap.lt_size he;have I1:Inv X pins σ (upd H s.heap.objs.size (.tup [kV k0,v0])) {s with heap:=s.heap.push {cls:= .type "tuple",data:= .seq #[key,u]},toks:=s.toks}:=
   I.laid (t':=s.toks) (fun b o eb=>Heap.get?_push_of_some _ eb) (qO_ _) ⟨by rw[sizeLine_eq];exact qP_ rfl,[key,u],.cons (CC LB) (.cons ru .nil),⟨_,Heap.get?_push_size _ rfl,rfl,_,rfl⟩⟩
  have g0:upd H s.heap.objs.size (.tup [kV k0,v0]) it=none:=by rw[aI (Nat.ne_of_lt gA)];exact f0
  have I2:Inv X pins σ (upd H s.heap.objs.size (.tup [kV k0,v0])) {s with heap:=h₁,toks:=s.toks}:=by
   refine Inv.turned (s:={s with heap:=s.heap.push {cls:= .type "tuple",data:= .seq #[key,u]},toks:=s.toks}) (h':=h₁) (t':=s.toks) (it:=it) I1 (fun b o hb eb=>?_) g0 f1 f3 f4 f5;rcases Heap.get?_push_cases eb with ⟨z1,z2⟩ |z
   · rw[z1,z2];exact EU
   · exact ES b o hb z
  refine⟨_,rfl,wpAny_letOwnedTupleGo_items Fe fun h₂ EJ qh=>?_⟩;have qh:Heap.SameBut it h₁ h₂:=qh;have I3:Inv X pins σ (upd H s.heap.objs.size (.tup [kV k0,v0])) {s with heap:=h₂,toks:=s.toks}:=I2.turned (t':=s.toks) (fun b o hb eb=>(qh.2 b hb).trans eb) g0 f1 f3 f4 f5;refine⟨.ref s.heap.objs.size,_,I3,rfl,⟨k0,v0,s.heap.objs.size,Mf,I.hok.fresh (qO_ _),rfl,rfl⟩,⟨key,u,by rw[<-hl];exact EJ⟩,fun b hb=>?_⟩;have e:b=it:=by simpa using hb
  subst e;exact g0
 done:=by
  intro X hP hw hK hc i pins s σ H E I hf st hg;subst hP hw hK;obtain⟨ok,ov,he⟩:=st;obtain⟨hd,hi⟩:=hg;obtain⟨vs,rv,mH,hl⟩:=En I Hw hd;obtain⟨f0,f1,f2,f3,f4,f5⟩:=hf it (by simp);have RQ:IsItemIter s.heap it d i vs.length ep ok ov:=by rw[hl];exact he
  exact wpAny_pyNext_items_end (I.ok.hd hc) RQ mH (List.getElem?_eq_none (by omega)) fun h' eb=>⟨rfl,I.turned (t':=s.toks) (fun b o hb e=>eb b o hb e) f0 f1 f3 f4 f5⟩
 self:=fun A i s Q E st h=>by
  obtain⟨ok,ov,he⟩:=st;have hT:s.TypeIs (.ref it) "dict_itemiterator":=⟨_,he,rfl⟩;refine wpAny_pyIter_slot hT PySem.F.slot_dict_itemiterator_iter (wpAny_call_entry PySem.F.slot_dict_itemiterator_iter hT HT.mS ?_ (PySem.F.args_dict_itemiterator_iter_1 _));show wpAny _ _ (ret (.ref it)) _ _ s;exact wpAny_pure ⟨_,rfl,"dict_itemiterator",_,hT,PySem.F.slot_dict_itemiterator_next.lookup,h⟩
section
variable{X:Cx}{pins:List (Addr×Obj)}{σ:St}{H:Hp}{s:Shared}{d:Addr}{kvs:List (Key×V)}
def Inv.freeze(I:Inv X pins σ H s)(hd:H d=some (.dK kvs))(hg:s.heap.get? d=some ob):Inv X pins σ (upd H d (.frz ob (.dK kvs))) s:=by
 have old:=(show bO X.prog X.w H s.heap d (.dK kvs)from I.hok d _ hd);have:=I.write (x:=d) (e:=d) (o:= .frz ob (.dK kvs)) (h':=s.heap) (t':=s.toks) (by rw[hd];exact True.intro) (.inl rfl) (fun b u _ e=>e) ⟨ob,hg⟩ ⟨hg,old⟩;exact this
def Inv.MJ(I:Inv X pins σ H s)(hd:H d=some (.dK kvs)):∀o u,X.H₀ d≠some (.frz o u):=fun o u z=>by
 have:=I.base.oV d o u z;rw[hd]at this;cases this
def Inv.sX(I:Inv X pins σ H s)(hd:H d=some (.frz ob (.dK kvs)))(nf:∀o u,X.H₀ d≠some (.frz o u)):Inv X pins σ (upd H d (.dK kvs)) s:=by
 have ne:∀b,H b=none->b≠d:=fun b n z=>by rw[z,hd]at n;cases n
 obtain⟨hg,old⟩:=(show bO X.prog X.w H s.heap d (.frz ob (.dK kvs))from I.hok d _ hd);refine⟨I.ok,I.os,I.bare,⟨I.base.keep,I.base.slot,fun b o q n nx=>?_,I.base.there,fun b xs q=>?_,fun b o u q=>?_,fun b ps q=>?_⟩,I.loc,I.cell,by rw[aI (ne _ I.free)];exact I.free,fun x c e=>by rw[aI (ne _ (I.gI x c e))];exact I.gI x c e,fun p hp=>?_,fun b u q=>?_,I.len⟩
 · have:=I.base.free b o q n nx;rw[aI (ne _ this)];exact this
 · have:=I.base.sv b xs q;rw[aI (by rintro rfl;rw[hd]at this;cases this)];exact this
 · have:=I.base.oV b o u q;by_cases z:b=d
   · subst z;exact absurd q (nf o u)
   · rw[aI z];exact this
 · obtain⟨more,this⟩:=I.base.sy b ps q;exact⟨more,by rw[aI (by rintro rfl;rw[hd]at this;cases this)];exact this⟩
 · obtain⟨a1,a2,a3⟩:=I.pin p hp;exact⟨a1,by rw[aI (ne _ a2)];exact a2,a3⟩
 · by_cases z:b=d
   · subst z;rw[aH]at q;cases q;exact old
   · rw[aI z]at q;refine(I.hok b u q).jV (fun c v hc w=>w) (fun c w=>?_) fun c xs w=>?_
     · rw[aI (by rintro rfl;rw[hd]at w;cases w)];exact w
     · rw[aI (by rintro rfl;rw[hd]at w;cases w)];exact w
end
def J7(X:Cx)(to:TE):TI:=fun σ H R=>to σ H fun x H1=>∃d kvs,x= .ref d/\H1 d=some (.dK kvs)/\∀ob,(∀o u,X.H₀ d≠some (.frz o u))->R (Itd d ob kvs) (upd H1 d (.frz ob (.dK kvs)))
def CD{X:Cx}{to:TE}(ho:PE X o to)(eO:attributeBase o "items" X.env (eval o X.env)=eval o X.env:=by rfl)(fR:(apos.endLine==ipos.line)=true:=by rfl):
 PI X (.Tuple elts k ptg) (.Call (.Attribute o "items" apos) [] [] ipos) (J7 X to):=by
 intro pins s σ H R I h;refine wpAny_Call_method0_late eO fR (thn (ho pins s σ H _ I h) fun v s1 ⟨x,H1,I1,r1,d,kvs,e,hd,q⟩=>?_);subst e;cases r1;obtain⟨h1,h2⟩:=ze I1 (x:= .ref d) rfl (T:="dict") (.inr (.inr (.inl ⟨rfl,.inl ⟨kvs,hd⟩⟩)));refine⟨"dict","dict.items",PySem.F.plainAttrs_dict,PySem.F.slot_dict_items,PySem.F.type_dict_items,h1,h2,Calls.callWith_builtin rfl (PySem.evalArgs_none ?_)⟩;obtain⟨hz,hS,vs,rv,dd⟩:=xA I1.hok hd;refine call_meetsIn PySem.F.slot_dict_items dd.typeIs PySem.F.entry_dict_items (PySem.F.args_dict_items_1 _) (meets_dict_items (bx X.prog X.w) d hS) ⟨⟨vs,dd⟩,?_⟩;obtain⟨ep,mH⟩:=dd.dictAt;obtain⟨ob,es,hg,hc,Hw,r⟩:=id mH;have I2:Inv X pins σ H1 {s1 with heap:=s1.heap.push {cls:= .type "dict_items",data:= .fields #[.ref d]}}:=I1.kept (t':=s1.toks) fun b u e=>Heap.get?_push_of_some _ e;refine wpAny_pyIter_items (knd:=bx X.prog X.w) (d:=d) (kvs:=vs) (ep:=ep) ⟨_,Heap.get?_push_size _ rfl,rfl,rfl⟩ (mH.push _) ?_;have I3:Inv X pins σ H1 {s1 with heap:=(s1.heap.push {cls:= .type "dict_items",data:= .fields #[.ref d]}).push {cls:= .type "dict_itemiterator",data:= .fields #[.none,.bool false,.ref d,.int 0 0,.int vs.length 0,.int ep 0,.none,.none]}}:=I2.kept (t':=s1.toks) fun b u e=>Heap.get?_push_of_some _ e;have I4:=I3.freeze (ob:=ob) hd (Heap.get?_push_of_some _ (Heap.get?_push_of_some _ hg));refine⟨(s1.heap.push {cls:= .type "dict_items",data:= .fields #[.ref d]}).objs.size,[(s1.heap.push {cls:= .type "dict_items",data:= .fields #[.ref d]}).objs.size],_,_,_,rfl,I4,y7 d _ ob kvs es ep Hw,⟨.none,.none,?_⟩,fun b hb=>?_,q ob (I1.MJ hd)⟩
 · rw[rv.length];exact Heap.get?_push_size _ rfl
 · have e:b=(s1.heap.push {cls:= .type "dict_items",data:= .fields #[.ref d]}).objs.size:=by simpa using hb
   subst e;refine I2.Eh (qO_ _) ?_;have hn:=I2.hok.fresh (qO_ (s1.heap.push {cls:= .type "dict_items",data:= .fields #[.ref d]}).objs.size);rw[aI (by intro z;rw[z]at hn;rw[hd]at hn;cases hn)];exact hn
end L2
namespace L3
open PySem PySem.Spec PyProof.Rows L2 PySem.SeqAt
section
variable{X:Cx}{T:Tab}{Y:EX}{a b e o i:Expr}{es:List Expr}{fa fb fc:M3.E3}{ft:M3.T3}{f3:M3.A3}{pos pos' p p2 apos ipos:Pos}
def za:PE X e (tE T X.K Y M3.Df):=fun pins s σ H Q I ⟨μ,σ3,G,S,sd,h⟩=>False.elim h
def Up.sX{μ μ1:List Addr}{H H1:Hp}{a:Addr}{n:Nat}{ob:Obj}{ws:List (L2.Key×V)}(ea:μ[n]? =some a)(ha:H a=some (.dK ws))(u:Up μ μ1 (upd H a (.frz ob (.dK ws))) H1):Up μ μ1 H (upd H1 a (.dK ws)):=by
 refine⟨u.pre,⟨fun b xs e=>?_,fun b q w e=>?_⟩,fun b w e nb=>?_⟩
 · have hb:b≠a:=by rintro rfl;rw[ha]at e;cases e
   rw[aI hb];exact u.keeps.tup b xs (by rw[aI hb];exact e)
 · have hb:b≠a:=by rintro rfl;rw[ha]at e;cases e
   rw[aI hb];exact u.keeps.frz b q w (by rw[aI hb];exact e)
 · have hb:b≠a:=by rintro rfl;exact nb (qD_ ea)
   rw[aI hb];exact u.rest b w (by rw[aI hb];exact e) nb
def Sim.sX{K:PySem.W.Frag}{μ:List Addr}{H:Hp}{G:M3.Hh}{n:Nat}{a:Addr}{ob:Obj}{kvs:List (M3.Key×M3.D)}{ws:List (L2.Key×V)}(S:Sim T K μ H G)(ea:μ[n]? =some a)(hn:G[n]? =some (.dF kvs))(ha:H a=some (.frz ob (.dK ws)))
 (k:Keeps H (upd H a (.dK ws))\/True) (r:Paired (fun(p:M3.Key×M3.D) (q:L2.Key×V)=>p.1=q.1/\Den K (upd H a (.dK ws)) μ p.2 q.2) kvs ws)
 (kd:∀d v,Den K H μ d v->Den K (upd H a (.dK ws)) μ d v) (Uv:∀ds vs,ay K H μ ds vs->ay K (upd H a (.dK ws)) μ ds vs):Sim T K μ (upd H a (.dK ws)) (G.set n (.dK kvs)):=by
 have hl:=(qB_.mp hn).1;refine⟨by rw[qX_];exact S.len,fun m b o q1 q2=>?_,fun m j b o1 o2 TX q1 q2 q3 q4=>?_⟩
 · by_cases h:m=n
   · subst h;rw[ea]at q1;cases q1;rw[qU_ hl]at q2;cases q2;exact⟨ws,aH,r⟩
   · rw[qV_ (Ne.symm h)]at q2;have od:=S.obj m b o q1 q2;have jV:isF o=false->∀x,H b=some x->upd H a (.dK ws) b=some x:=fun hf x z=>by
      have hb:b≠a:=by
       rintro rfl;rcases S.inj m n b o (.dF kvs) h q1 ea q2 hn with z |z
       · rw[hf]at z;cases z
       · cases z
      rw[aI hb];exact z
     cases o with
     |lst xs=>obtain⟨vs,e1,rr⟩:=od;exact⟨vs,jV rfl _ e1,Uv _ _ rr⟩
     |frz xs=>
      obtain⟨vs,e1,rr⟩:=od;refine⟨vs,?_,Uv _ _ rr⟩;rcases e1 with ⟨o',e1⟩ |e1
      · have hb:b≠a:=by rintro rfl;rw[ha]at e1;cases e1
        exact .inl ⟨o',by rw[aI hb];exact e1⟩
      · exact .inr e1
     |dK xs=>obtain⟨vs,e1,rr⟩:=od;exact⟨vs,jV rfl _ e1,Paired.imp' (fun _ _ z=>⟨z.1,kd _ _ z.2⟩) rr⟩
     |dF xs=>obtain⟨o',vs,e1,rr⟩:=od;exact⟨o',vs,jV rfl _ e1,Paired.imp' (fun _ _ z=>⟨z.1,kd _ _ z.2⟩) rr⟩
     |dT xs=>obtain⟨vs,e1,rr⟩:=od;exact⟨vs,jV rfl _ e1,Paired.imp' (fun p q z=>⟨z.1,(by obtain⟨b',us,e',sq,ds⟩:=kd (.tup (p.1.map M3.D.int)) (.ref q.2.1) ⟨_,_,rfl,z.2.1,ay.vn⟩;cases e';rw[ay.ints ds]at sq;exact sq),let ⟨v,x,y⟩:=z.2.2;⟨v,kd _ _ x,y⟩⟩) rr⟩
     |ins C fs=>obtain⟨Ca,dx,vs,hc,e1,rr⟩:=od;exact⟨Ca,dx,vs,hc,jV rfl _ e1,Paired.imp' (fun _ _ z=>⟨z.1,kd _ _ z.2⟩) rr⟩
 · have back:∀(m:Nat) o,(G.set n (.dK kvs))[m]? =some o->∃o',G[m]? =some o'/\isF o'=isF o:=fun m o q=>by
    by_cases h:m=n
    · subst h;rw[qU_ hl]at q;cases q;exact⟨_,hn,rfl⟩
    · rw[qV_ (Ne.symm h)]at q;exact⟨o,q,rfl⟩
   obtain⟨p1,r1,f1⟩:=back m o1 q3;obtain⟨p2,r2,f2⟩:=back j o2 q4;rw[<-f1,<-f2];exact S.inj m j b p1 p2 TX q1 q2 r1 r2
mutual
theorem Den.off{K:PySem.W.Frag}{μ:List Addr}{H:Hp}{a:Addr}{ob:Obj}{ws:List (L2.Key×V)}(ha:H a=some (.frz ob (.dK ws))):∀{d:M3.D} {v:V},Den K H μ d v->Den K (upd H a (.dK ws)) μ d v
 | .non,_,h=>h
 | .bl _,_,h=>h
 | .int _,_,h=>h
 | .str _,_,h=>h
 | .ref _,_,h=>h
 | .tup ds,_,⟨b,vs,e,h,r⟩=>by
   refine⟨b,vs,e,?_,ay.off ha r⟩;rcases h with (h |⟨o,h⟩) |h
   · exact .inl (.inl (by rw[aI (by rintro rfl;rw[ha]at h;cases h)];exact h))
   · exact .inl (.inr ⟨o,by rw[aI (by rintro rfl;rw[ha]at h;cases h)];exact h⟩)
   · exact .inr h
theorem ay.off{K:PySem.W.Frag}{μ:List Addr}{H:Hp}{a:Addr}{ob:Obj}{ws:List (L2.Key×V)}(ha:H a=some (.frz ob (.dK ws))):∀{ds:List M3.D} {vs:List V},ay K H μ ds vs->ay K (upd H a (.dK ws)) μ ds vs
 | [],_,h=>h
 |_ :: _,_,⟨v,r,e,h,t⟩=>⟨v,r,e,Den.off ha h,ay.off ha t⟩
end
theorem Aa{α β:Type}{R:α->β->Prop}:∀{xs:List α} {ys:List β} {i:Nat} {x:α},Paired R xs ys->xs[i]? =some x->∃y,ys[i]? =some y/\R x y
 |_,_,_,_,.nil,e=>by simp at e
 |_,_,0,_,.cons h t,e=>by simp at e;subst e;exact⟨_,rfl,h⟩
 |_,_,i+1,_,.cons h t,e=>by
  obtain⟨y,h1,h2⟩:=Aa (i:=i) t (by simpa using e);exact⟨y,by simpa using h1,h2⟩
def Ek{Z:Nat->M3.Hh->Prop}{G:M3.Hh}{P:M3.Fl×M3.St->M3.Hh->Prop}(h:M3.run (M3.x3 n kvs m) G P Z):
 M3.run m (G.set n (.dF kvs)) (fun p G'=>G'[n]? =some (.dF kvs)/\P p (G'.set n (.dK kvs))) (fun _ _=>False):=by
 unfold M3.run M3.x3 at*;cases q:m (G.set n (.dF kvs))with
 |none=>rw[q]at h;exact h
 |some z=>
  obtain⟨o,G1⟩:=z;rw[q]at h;cases o with
  |ok a=>
   dsimp only at h ⊢;by_cases c:G1[n]? =some (.dF kvs)
   · rw[if_pos c]at h;exact⟨c,h⟩
   · rw[if_neg c]at h;cases h
  |exc c=>cases h
def IF(X:Cx)(D:Ends):Ends where
 nx:=fun σ H=>∃d ob kvs,H d=some (.frz ob (.dK kvs))/\(∀o u,X.H₀ d≠some (.frz o u))/\D.nx σ (upd H d (.dK kvs))
 rt:=fun v H=>∃d ob kvs,H d=some (.frz ob (.dK kvs))/\(∀o u,X.H₀ d≠some (.frz o u))/\D.rt v (upd H d (.dK kvs))
 bk:=fun σ H=>∃d ob kvs,H d=some (.frz ob (.dK kvs))/\(∀o u,X.H₀ d≠some (.frz o u))/\D.bk σ (upd H d (.dK kvs))
 ct:=fun σ H=>∃d ob kvs,H d=some (.frz ob (.dK kvs))/\(∀o u,X.H₀ d≠some (.frz o u))/\D.ct σ (upd H d (.dK kvs))
theorem SP.sX(h:SP X pins (IF X D) f s'):SP X pins D f s':=by
 cases f with
 |next=>obtain⟨σ',H',I,d,ob,kvs,hd,nf,q⟩:=h;exact⟨σ',_,I.sX hd nf,q⟩
 |brk=>obtain⟨σ',H',I,d,ob,kvs,hd,nf,q⟩:=h;exact⟨σ',_,I.sX hd nf,q⟩
 |cont=>obtain⟨σ',H',I,d,ob,kvs,hd,nf,q⟩:=h;exact⟨σ',_,I.sX hd nf,q⟩
 |ret u=>obtain⟨v,σ',H',I,r,d,ob,kvs,hd,nf,q⟩:=h;exact⟨v,σ',_,I.sX hd nf,r,q⟩
def FK{g:M3.D->M3.St->M3.M M3.St}{f:M3.S3}(hp:PassesOwn (model X.prog X.w) X.A X.env X.xe)(hc:X.calm=true)(ho:PE X o (tE T X.K Y fa))(hg:PG X (.Tuple elts k ptg) (tG T X.K Y g))(hb:PSs X body (tS T X.K Y f))
 (eO:attributeBase o "items" X.env (eval o X.env)=eval o X.env:=by rfl) (fR:(apos.endLine==ipos.line)=true:=by rfl)
 (hs:∀x,foldedSetIterable (.Call (.Attribute o "items" apos) [] [] ipos) X.env x=pure x:=by intro _;rfl):PS X (.For (.Tuple elts k ptg) (.Call (.Attribute o "items" apos) [] [] ipos) body [] pos) (tS T X.K Y (M3.yS fa g f)):=by
 intro pins s σ H D I ⟨μ,σ3,G,S,sd,h⟩;refine wpAny_mono (CQ hp hc (CD (elts:=elts) (k:=k) (ptg:=ptg) (apos:=apos) (ipos:=ipos) ho eO fR) hg hb hs pins s σ H (IF X D) I ⟨μ,σ3,G,S,sd,bj h fun x G1 v H1 μ1 u1 S1 d1 h1=>?_⟩) (fun _ _ z=>SP.sX z) fun _ _ z=>z;unfold M3.yD at h1;cases x with
 |ref n=>
  obtain⟨c,ec,rfl⟩:=d1;have h1:M3.run (fun G=>match G[n]? with
   |some (.dK kvs)=>M3.x3 n kvs (M3.forL (fun _=>true) (fun x σ=>M3.bnd (g x σ) f) (M3.fF kvs) σ3) G
   |_=>none) G1 (fw T X.K μ H D) (Y.x μ1 H1):=h1
  unfold M3.run at h1;dsimp only at h1;cases q:G1[n]? with
  |none=>rw[q]at h1;cases h1
  |some ob1=>
   have od:=S1.obj n c ob1 ec q;rw[q]at h1;cases ob1 with
   |dK kvs=>
    obtain⟨ws,e1,r⟩:=od;refine⟨c,ws,rfl,e1,fun ob nf=>?_⟩;have hw:=Ek (P:=fw T X.K μ H D) (Z:=Y.x μ1 H1) h1;have u2:Up μ1 μ1 H1 (upd H1 c (.frz ob (.dK ws))):=Up.set S1 _ ec q rfl;have S2:Sim T X.K μ1 (upd H1 c (.frz ob (.dK ws))) (G1.set n (.dF kvs)):=S1.set ec q rfl rfl ⟨ob,ws,aH,Paired.imp' (fun _ _ z=>⟨z.1,Den.up u2 z.2⟩) r⟩;have len:(M3.fF kvs).length=ws.length:=by unfold M3.fF;rw[qM_];exact Paired.length r
    refine⟨fun i m σ' H'=>m=ws.length - i/\i<=ws.length/\∃μ' σ3' G',Up μ1 μ' (upd H1 c (.frz ob (.dK ws))) H'/\Sim T X.K μ' H' G'/\StD X.K H' μ' σ3' σ'/\M3.run (M3.forL (fun _=>true) (fun x σ=>M3.bnd (g x σ) f) ((M3.fF kvs).drop i) σ3') G' (fun p G'=>G'[n]? =some (.dF kvs)/\fw T X.K μ H D p (G'.set n (.dK kvs))) (Y.x μ' H'),
     ⟨_,rfl,qf_ _,μ1,σ3,_,Up.refl _ _,S2,(sd.up u1).up u2,M3.ak hw (fun _ _ z=>z) fun _ _ z=>z.elim⟩,?_⟩
    have fin:∀{σ':L2.St} {H':Hp} {μ':List Addr} {p:M3.Fl×M3.St} {G':M3.Hh},Up μ1 μ' (upd H1 c (.frz ob (.dK ws))) H'->Sim T X.K μ' H' G'->G'[n]? =some (.dF kvs)->fw T X.K μ H D p (G'.set n (.dK kvs))->
     H' c=some (.frz ob (.dK ws))/\fw T X.K μ' (upd H' c (.dK ws)) D p (G'.set n (.dK kvs))/\Sim T X.K μ' (upd H' c (.dK ws)) (G'.set n (.dK kvs))/\(StD X.K H' μ' p.2 σ'->StD X.K (upd H' c (.dK ws)) μ' p.2 σ'):=by
     intro σ' H' μ' p G' u' S' hn hP;have hf:H' c=some (.frz ob (.dK ws)):=u'.keeps.frz c ob _ aH;have ut:Up μ1 μ' H1 (upd H' c (.dK ws)):=Up.sX ec e1 u';refine⟨hf,hP.up (u1.trans ut),Sim.sX S' (u'.at ec) hn hf (.inr True.intro) (Paired.imp' (fun _ _ z=>⟨z.1,Den.up ut z.2⟩) r) (fun _ _ z=>Den.off hf z) fun _ _ z=>ay.off hf z,fun wu=>⟨wu.len,fun i d e=>let ⟨v,e1,dv⟩:=wu.at_ i d e;⟨v,e1,Den.off hf dv⟩⟩⟩
    rintro i m σ' H' ⟨rfl,hi,μ',σ3',G',u',S',wu,q'⟩;have hf:H' c=some (.frz ob (.dK ws)):=u'.keeps.frz c ob _ aH;by_cases gA:i < ws.length
    · rw[List.drop_eq_getElem_cons (by rw[len];exact gA)]at q';obtain⟨_,q2⟩:=uz q';have ex:(M3.fF kvs)[i]? =some ((M3.fF kvs)[i]'(by rw[len];exact gA)):=qA_ _;generalize (M3.fF kvs)[i]'(by rw[len];exact gA)=it at ex q2;refine .inr ⟨⟨hf,gA⟩,fun σ2 H2=>∃μ2 σ4 G2,Up μ1 μ2 (upd H1 c (.frz ob (.dK ws))) H2/\Sim T X.K μ2 H2 G2/\StD X.K H2 μ2 σ4 σ2/\M3.run (M3.forL (fun _=>true) (fun x σ=>M3.bnd (g x σ) f) ((M3.fF kvs).drop (i+1)) σ4) G2 (fun p G'=>G'[n]? =some (.dF kvs)/\fw T X.K μ H D p (G'.set n (.dK kvs))) (Y.x μ2 H2),
       fun σ2 H2 hN=>⟨_,by omega,rfl,gA,hN⟩,fun x H'' y=>?_⟩
      obtain⟨k0,v0,t,Mf,ht,rfl,rfl⟩:=y;have sm:gH H' (upd H' t (.tup [kV k0,v0])):=gH.new _ ht;have us:Up μ' μ' H' (upd H' t (.tup [kV k0,v0])):=Up.same sm;have VE:Den X.K (upd H' t (.tup [kV k0,v0])) μ' it (.ref t):=by
       unfold M3.fF at ex;rw[qQ_]at ex;cases z:kvs[i]? with
       |none=>rw[z]at ex;cases ex
       |some kd=>rw[z]at ex;cases ex;obtain⟨q0,z2,h2,h3⟩:=Aa r z;rw[Mf]at z2;cases z2;obtain⟨kk,dd⟩:=kd;have h2:kk=k0:=h2;subst h2;refine⟨t,[kV kk,v0],rfl,SqT.of aH,⟨_,_,rfl,?_,_,_,rfl,Den.up us (Den.up u' (Den.up u2 h3)),rfl⟩⟩;cases kk <;> rfl
      refine⟨μ',σ3',G',_,S'.same sm,wu.up us,VE,cS (Y.upE us (M3.aN (M3.aN q2))) fun σ5 G5 q5 σ6 H6 μ6 u6 S6 Ml=>?_⟩;have u6:=us.trans u6;refine⟨μ6,σ5,G5,S6,Ml,cS (Y.upE u6 q5) fun p G7 q7 σ7 H7 μ7 u7 S7 AI=>?_⟩;obtain⟨fl,σ8⟩:=p;have up:=u'.trans (u6.trans u7);cases fl with
      |next=>exact⟨μ7,σ8,G7,up,S7,AI,Y.upE (u6.trans u7) q7⟩
      |cont=>exact⟨μ7,σ8,G7,up,S7,AI,Y.upE (u6.trans u7) q7⟩
      |brk=>obtain⟨hn,hP⟩:=q7;obtain⟨z1,z2,z3,z4⟩:=fin (σ':=σ7) up S7 hn hP;exact⟨c,ob,ws,z1,nf,z2 σ7 _ μ7 (Up.refl _ _) z3 (z4 AI)⟩
      |ret d=>obtain⟨hn,hP⟩:=q7;obtain⟨z1,z2,z3,z4⟩:=fin (σ':=σ7) up S7 hn hP;exact fun v dv=>⟨c,ob,ws,z1,nf,z2 σ7 _ μ7 (Up.refl _ _) z3 (z4 AI) v (Den.off z1 dv)⟩
    · have e:i=ws.length:=(by omega);subst e;rw[<-len,List.drop_length]at q';obtain⟨_,hn,hP⟩:=wK q';obtain⟨z1,z2,z3,z4⟩:=fin (σ':=σ') u' S' hn hP;exact .inl ⟨⟨hf,qO_ _⟩,c,ob,ws,z1,nf,z2 σ' _ μ' (Up.refl _ _) z3 (z4 wu)⟩
   |_=>cases h1
 |_=>cases h1
theorem gT(K:PySem.W.Frag)(k:M3.Kd):∀cs:List M3.Kd,PySem.W.kitAny K (.type (kn k)) (cs.map fun c=>Value.type (kn c))=some (cs.any (M3.iV k ·))
 | []=>rfl
 |c :: r=>by
  show (match PySem.W.kitOne K (.type (kn k)) (.type (kn c))with
   |some true=>some true
   |some false=>PySem.W.kitAny K (.type (kn k)) (r.map fun c=>Value.type (kn c))
   |none=>none)=_
  rw[jU,List.any_cons];cases M3.iV k c with
  |true=>rfl
  |false=>rw[Bool.false_or];exact gT K k r
theorem Ae:∀{cs:List M3.Kd} {us:List Value},Vals (cs.map fun c=>V.ty (kn c)) us->us=cs.map fun c=>Value.type (kn c)
 | [],_,h=>by cases h;rfl
 |c :: r,_,h=>by
  cases h with
  |cons h t=>rw[List.map_cons,<-Ae t];congr 1
def Ex:gF X (.builtin "isinstance") (fun xs H Q=>∃x k,∃cs:List M3.Kd,∃t,xs=[x,.ref t]/\H t=some (.tup (cs.map fun c=>V.ty (kn c)))/\TyD X.K H x k/\Q (.bl (cs.any (M3.iV k ·))) H):=by
 intro pins s σ H xs us Q I r h;obtain⟨x,k,cs,t,rfl,VQ,ty,q⟩:=h;obtain⟨u,w',rfl,ru,rc⟩:=vals2 r;cases (show w'=Value.ref t from rc);obtain⟨_,aJ,rv,⟨⟨oc,od,UT,E5⟩,ho,LO,nn,RT⟩⟩:=(show bO X.prog X.w H s.heap t (.tup _)from I.hok t _ VQ);have LO:oc= .type "tuple":=LO;have RT:UT= .seq aJ.toArray nn:=RT;subst LO RT;rw[Ae rv]at ho;have fin:∀tk,EP X pins σ Q (.bool (cs.any (M3.iV k ·))) {s with toks:=tk}:=fun tk=>⟨.bl _,H,I.tok tk,rfl,q⟩;cases x with
 |non=>cases (show u=Value.none from ru);cases (show k= .non from ty);exact PySem.W.kia_tup PySem.W.kitx_none I.kIn True.intro ho (gT X.K .non cs) (fun z=>nomatch z) fin
 |bl y=>cases (show u=Value.bool y from ru);cases (show k= .bl from ty);exact PySem.W.kia_tup PySem.W.kitx_bool I.kIn True.intro ho (gT X.K .bl cs) (fun z=>nomatch z) fin
 |int y=>obtain⟨t,rfl⟩:=(show ∃t,u=Value.int y t from ru);cases (show k= .int from ty);exact PySem.W.kia_tup PySem.W.kitx_int I.kIn True.intro ho (gT X.K .int cs) (fun z=>nomatch z) fin
 |str y=>obtain⟨t,rfl⟩:=(show ∃t,u=Value.str y t from ru);cases (show k= .str from ty);exact PySem.W.kia_tup PySem.W.kitx_str I.kIn True.intro ho (gT X.K .str cs) (fun z=>nomatch z) fin
 |ref a=>
  cases (show u=Value.ref a from ru);rcases ty with ⟨rfl,xs,sq⟩ |⟨rfl,xs,sq⟩ |⟨rfl,⟨kvs,ea⟩ |⟨kvs,ea⟩⟩
  · obtain⟨aJ,_,⟨ob,n,h1,h2,_⟩,_⟩:=I.list sq;exact PySem.W.kia_tup PySem.W.kitx_list I.kIn ⟨ob,h1,h2⟩ ho (gT X.K .lst cs) (fun z=>nomatch z) fin
  · obtain⟨aJ,_,⟨ob,h1,h2,_⟩,_⟩:=I.tuple sq;exact PySem.W.kia_tup PySem.W.kitx_tuple I.kIn ⟨ob,h1,h2⟩ ho (gT X.K .tup cs) (fun z=>nomatch z) fin
  · obtain⟨_,_,vs,_,pd⟩:=(show bO X.prog X.w H s.heap a (.dK kvs)from I.hok a _ ea);obtain⟨ob,es,ep,h1,h2,_⟩:=pd;exact PySem.W.kia_tup PySem.W.kitx_dict I.kIn ⟨ob,h1,h2.1⟩ ho (gT X.K .dic cs) (fun z=>nomatch z) fin
  · obtain⟨_,_,xs,_,ob,es,ep,h1,h2,_⟩:=(show bO X.prog X.w H s.heap a (.dT kvs)from I.hok a _ ea);exact PySem.W.kia_tup PySem.W.kitx_dict I.kIn ⟨ob,h1,h2.1⟩ ho (gT X.K .dic cs) (fun z=>nomatch z) fin
 |_=>cases ty
def Je(c1 c2:M3.Kd)(hi:X.mg "isinstance"=none)(VI:X.mg n1=none)(Wj:X.mg n2=none)(ha:PE X e (tE T X.K Y fa))
 (Ve:bootBuiltins n1=some (.type (kn c1)):=by first |exact boot_int |exact boot_bool |exact boot_str |exact boot_tuple |exact boot_list |exact boot_dict) (BL:bootBuiltins n2=some (.type (kn c2)):=by first |exact boot_int |exact boot_bool |exact boot_str |exact boot_tuple |exact boot_list |exact boot_dict)
 (hg:Gl X "isinstance":=by rfl) (Vp:Gl X n1:=by rfl) (QW:Gl X n2:=by rfl) (VW:n1≠"__name__":=by decide) (Vj:n2≠"__name__":=by decide) (Rt:(n1==("__debug__":Str))=false:=by decide) (Rw:(n2==("__debug__":Str))=false:=by decide)
 (he:starEach [e,.Tuple [.Name n1 q1,.Name n2 q2] x1 pt] X.env=(false,eval e X.env) :: starEach [.Tuple [.Name n1 q1,.Name n2 q2] x1 pt] X.env:=by rfl) (R8:starEach [.Tuple [.Name n1 q1,.Name n2 q2] x1 pt] X.env=(false,eval (.Tuple [.Name n1 q1,.Name n2 q2] x1 pt) X.env) :: starEach [] X.env:=by rfl)
 (Mg:starEach [.Name n1 q1,.Name n2 q2] X.env=(false,eval (.Name n1 q1) X.env) :: starEach [.Name n2 q2] X.env:=by rfl) (Pd:starEach [.Name n2 q2] X.env=(false,eval (.Name n2 q2) X.env) :: starEach [] X.env:=by rfl)
 (gZ:(backTo pos (starEach [.Tuple [.Name n1 q1,.Name n2 q2] x1 pt] X.env)).any (·.1)=false:=by rfl):PE X (.Call (.Name "isinstance" p) [e,.Tuple [.Name n1 q1,.Name n2 q2] x1 pt] [] pos) (tE T X.K Y (M3.aq (M3.A8 [c1,c2]) (M3.aa fa M3.ah))):=by
 refine PE.of (q8 Ex hg hi boot_isinstance (eB ha (eB (CI (eB (uT Vp VI Ve (v:= .ty (kn c1)) rfl VW Rt) (eB (uT QW Wj BL (v:= .ty (kn c2)) rfl Vj Rw) je Pd) Mg)) je R8) he) (by decide) (by decide) he gZ) fun σ H Q ⟨μ,σ3,G,S,sd,h⟩=>?_;refine⟨μ,σ3,G,S,sd,bj (M3.aN h) fun d G1 v H1 μ1 u1 S1 d1 h1=>?_⟩;have h2:M3.run (M3.A8 [c1,c2] [d]) G1 (dO T X.K μ H Q) (Y.x μ H):=h1;unfold M3.run M3.A8 at h2;dsimp only at h2;cases q:M3.kdOf G1 d with
 |none=>rw[q]at h2;cases h2
 |some k=>rw[q]at h2;refine⟨by rw[sizeLine_eq];exact qP_ rfl,fun t ht=>?_⟩;have us:Up μ1 μ1 H1 (upd H1 t (.tup [.ty (kn c1),.ty (kn c2)])):=Up.same (gH.new _ ht);exact⟨v,k,[c1,c2],t,rfl,aH,HR (S1.same (gH.new _ ht)) (Den.up us d1) q,h2 _ _ μ1 (u1.trans us) (S1.same (gH.new _ ht)) rfl⟩
end
open PySem PySem.Spec PyProof.Rows L2
def Hi{X:Cx}:PSs X SS (tS T X.K Y M3.Im):=fun pins s σ H D I ⟨μ,σ3,G,S,sd,h⟩=>False.elim h
def Aq{CX:CXT}{P:Program}{w:World}{K:PySem.W.Frag}{mg:Str->Option Value}{base:Heap}{N:List Str}{qual:Str}{scope:Scope}{fa:Addr}{cd:Value}{A:Around}{outer:List Env}{s:Shared}{H:Hp}{E:XK}:
 Own (mK CX P w K mg base N qual scope fa cd A outer s H E).nox:=⟨rfl,rfl,rfl,rfl⟩
def clF(cs xs:List Addr)(c:Nat):Option Addr:=if c < 1000 then cs[c]? else xs[c - 1000]?
def J8(e:clF cs xs c=some Ca)(hc:c < 1000):Ca∈cs:=by
 unfold clF at e;rw[if_pos hc]at e;exact qD_ e
def clP(cs xs:List Addr):List (Addr×Nat):=cs.mapIdx (fun i a=>(a,i))++xs.mapIdx fun i a=>(a,1000+i)
def Kq(e:clF cs xs c=some Ca):(Ca,c)∈clP cs xs:=by
 unfold clF at e;unfold clP;by_cases hc:c < 1000
 · rw[if_pos hc]at e;refine qF_ _ (qD_ (i:=c) ?_);rw[List.getElem?_mapIdx,e];rfl
 · rw[if_neg hc]at e;refine qE_ _ (qD_ (i:=c - 1000) ?_);rw[List.getElem?_mapIdx,e];show some (Ca,1000+(c - 1000))=some (Ca,c);rw[show 1000+(c - 1000)=c by omega]
def nS{K:PySem.W.Frag}{cs xs:List Addr}{C:Addr}{k:Nat}(h:((clP cs xs).all fun p=>PySem.W.exmOne K (.ref p.1) (.ref C)==some (decide (p.2=k)))=true){c:Nat}{Ca:Addr}(e:clF cs xs c=some Ca):PySem.W.exmOne K (.ref Ca) (.ref C)=some (decide (c=k)):=
 eq_of_beq (List.all_eq_true.mp h _ (Kq e))
def getD_inj{L:List Str}(nd:L.Nodup)(ne:Str.empty∉L)(hf:f < L.length)(h:L.getD g Str.empty=L.getD f Str.empty):g=f:=by
 have e1:L.getD f Str.empty=L[f]:=by rw[List.getD_eq_getElem?_getD,qA_ hf];rfl
 by_cases hg:g < L.length
 · have e2:L.getD g Str.empty=L[g]:=by rw[List.getD_eq_getElem?_getD,qA_ hg];rfl
   rw[e1,e2]at h;exact(List.getElem_inj nd).mp h
 · have e2:L.getD g Str.empty=Str.empty:=by rw[List.getD_eq_getElem?_getD,List.getElem?_eq_none (by omega)];rfl
   rw[e1,e2]at h;exact absurd (h ▸ List.getElem_mem hf) ne
def Ly{L:List Str}{K:PySem.W.Frag}{cl:Nat->Option Addr}{Cs:List Addr}{f:Nat}(LO:∀c Ca,cl c=some Ca->c < 1000->Ca∈Cs)(hC:∀Ca,Ca∈Cs->Cls K Ca/\∀x∈L,jE K Ca x)(nd:L.Nodup)(ne:Str.empty∉L)(hf:f < L.length):
 zR ⟨cl,fun g=>L.getD g Str.empty⟩ K f:=by
 refine⟨fun C Ca gA e=>?_,fun g h=>getD_inj nd ne hf h⟩;obtain⟨h1,h2⟩:=hC Ca (LO C Ca e gA);refine⟨h1,h2 _ ?_⟩;show L.getD f Str.empty∈L;rw[List.getD_eq_getElem?_getD,qA_ hf];exact List.getElem_mem hf
def NQ{L:List Str}(h:m∉L)(h0:m≠Str.empty)(g:Nat):L.getD g Str.empty≠m:=by
 intro e;by_cases hg:g < L.length
 · rw[List.getD_eq_getElem?_getD,qA_ hg]at e;exact h (e ▸ List.getElem_mem hg)
 · rw[List.getD_eq_getElem?_getD,List.getElem?_eq_none (by omega)]at e;exact h0 e.symm
def DW(nm:Nat->Str)(K:PySem.W.Frag)(n:Nat)(f:List M3.D->M3.M M3.D):Sp:=fun vs H Q E=>∀cl,sp3 ⟨cl,nm⟩ K n f vs H Q E
def KU{P:Program}{w:World}{K:PySem.W.Frag}{mg:Str->Option Value}{base:Heap}{CX:CXT}{k n:Nat}{fa:Addr}{fd:FuncData}{ps:List Str}{nm:Nat->Str}{f:List M3.D->M3.M M3.D}{cl:Nat->Option Addr}(F:cj P w K mg base CX k fa fd ps (sp3 ⟨cl,nm⟩ K n f)):
 cj P w K mg base CX k fa fd ps (DW nm K n f):=F.imp fun vs H Q E q=>q cl
def Hm{nm:Nat->Str}{K:PySem.W.Frag}{f:List M3.D->M3.M M3.D}{n:Nat}(h:∀ns:List Int,ns.length<=n->M3.run (f [.ref 0]) [.frz (ns.map M3.D.int)] (fun d _=>d= .bl true) fun _ _=>False)
 {H:Hp} {a:Addr} {ns:List Int} (hl:ns.length<=n) (hO:CP H) (sq:SqL K H a (ns.map V.int)):DW nm K 1 f [.ref a] H (fun v _=>v= .bl true) fun _ _ _=>False:=fun cl=>Kf h hl hO sq
open PySem
def Eo:starEach (.Tuple xs k p :: es) env=(false,eval (.Tuple xs k p) env) :: starEach es env:=rfl
def Eb:starEach (.List xs p :: es) env=(false,eval (.List xs p) env) :: starEach es env:=rfl
def rP:starEach (.Constant c k p :: es) env=(false,eval (.Constant c k p) env) :: starEach es env:=rfl
def gY:starEach (.Name x p :: es) env=(false,eval (.Name x p) env) :: starEach es env:=rfl
def pk:starEach (.Call f as ks p :: es) env=(false,eval (.Call f as ks p) env) :: starEach es env:=rfl
def Cr:starEach (.BinOp a o b p :: es) env=(false,eval (.BinOp a o b p) env) :: starEach es env:=rfl
def rR:starEach (.Subscript a b p :: es) env=(false,eval (.Subscript a b p) env) :: starEach es env:=rfl
def mG:starEach (.Attribute a x p :: es) env=(false,eval (.Attribute a x p) env) :: starEach es env:=rfl
def Ej{a:Expr}{os:List CmpOp}{bs:List Expr}{p:Pos}{es:List Expr}{env:Env}:starEach (.Compare a os bs p :: es) env=(false,eval (.Compare a os bs p) env) :: starEach es env:=rfl
def Jq:swapsWith (.Tuple xs k p) t l env=pure false:=rfl
def Jp:swapsWith (.List xs p) t l env=pure false:=rfl
def Ef:swapsWith (.Constant c k p) t l env=pure false:=rfl
def F9:swapsWith (.Name x p) t l env=pure false:=rfl
def ou:swapsWith (.Call f as ks p) t l env=pure false:=rfl
def JF:swapsWith (.BinOp a o b p) t l env=pure false:=rfl
def Jj:swapsWith (.Subscript a b p) t l env=pure false:=rfl
def Fw:swapsWith (.Attribute a x p) t l env=pure false:=rfl
def MW:swapsWith (.UnaryOp o a p) t l env=pure false:=rfl
def Cj{X:Cx}{fa fb:M3.E3}(ho:PE X o (tE T X.K Y fa))(he:PE X e (tE T X.K Y fb))
 (hs:starEach (e :: []) X.env=(false,eval e X.env) :: starEach [] X.env)
 (eO:attributeBase o "extend" X.env (eval o X.env)=eval o X.env:=by rfl)
 (fR:(apos.endLine==pos.line)=true:=by rfl):
 PE X (.Call (.Attribute o "extend" apos) [e] [] pos) (tE T X.K Y (M3.vc fa fb)):=by
 refine ot ho he eO ?_ fR hs rfl;rw[hs];rfl
end L3
namespace HT
open PySem PyProof.Rows
end HT
namespace L3
open PySem PySem.Spec PyProof.Rows L2 PySem.SeqAt
open PySem PySem.Spec PyProof.Rows L2
section
variable{X:Cx}{T:Tab}{Y:EX}{a b:Expr}{fa fb:M3.E3}{pos:Pos}
def Jz(ha:PE X a (tE T X.K Y fa))(hb:PE X b (tE T X.K Y fb)):PE X (.BinOp a .Add b pos) (tE T X.K Y (M3.eOp M3.eM fa fb)):=GY Hb ha hb
def JZ(ha:PE X a (tE T X.K Y fa))(hb:PE X b (tE T X.K Y fb)):PE X (.BinOp a .Sub b pos) (tE T X.K Y (M3.eOp M3.yH fa fb)):=GY GU ha hb
def JJ(ha:PE X a (tE T X.K Y fa))(hb:PE X b (tE T X.K Y fb)):PE X (.BinOp a .Mult b pos) (tE T X.K Y (M3.eOp M3.eN fa fb)):=GY FZ ha hb
def Kz(ha:PE X a (tE T X.K Y fa))(hb:PE X b (tE T X.K Y fb)):PE X (.BinOp a .Mod b pos) (tE T X.K Y (M3.eOp M3.oMod fa fb)):=GY Gq ha hb
def Mt(ha:PE X a (tE T X.K Y fa))(hb:PE X b (tE T X.K Y fb))(hu:X.A.units+64 < cLine):PE X (.Compare a [.Eq] [b] pos) (tE T X.K Y (M3.eOp M3.oEq fa fb)):=DU (HW hu) ha hb (kj _)
def NK(ha:PE X a (tE T X.K Y fa))(hb:PE X b (tE T X.K Y fb))(hu:X.A.units+64 < cLine):PE X (.Compare a [.NotEq] [b] pos) (tE T X.K Y (M3.eOp M3.oNe fa fb)):=DU (Ik hu) ha hb (kj _)
def MK(ha:PE X a (tE T X.K Y fa))(hb:PE X b (tE T X.K Y fb))(hu:X.A.units+64 < cLine):PE X (.Compare a [.Gt] [b] pos) (tE T X.K Y (M3.eOp M3.oGt fa fb)):=DU (Iu hu) ha hb (kj _)
def MD(ha:PE X a (tE T X.K Y fa))(hb:PE X b (tE T X.K Y fb))(hu:X.A.units+64 < cLine):PT X (.Compare a [.Eq] [b] pos) (tT T X.K Y (M3.tB (M3.eOp M3.oEq fa fb))):=pX (HW hu) ha hb (kj _)
def Ng(ha:PE X a (tE T X.K Y fa))(hb:PE X b (tE T X.K Y fb))(hu:X.A.units+64 < cLine):PT X (.Compare a [.NotEq] [b] pos) (tT T X.K Y (M3.tB (M3.eOp M3.oNe fa fb))):=pX (Ik hu) ha hb (kj _)
def Ms(ha:PE X a (tE T X.K Y fa))(hb:PE X b (tE T X.K Y fb))(hu:X.A.units+64 < cLine):PT X (.Compare a [.Lt] [b] pos) (tT T X.K Y (M3.tB (M3.eOp M3.oLt fa fb))):=pX (N2 hu) ha hb (kj _)
def MO(ha:PE X a (tE T X.K Y fa))(hb:PE X b (tE T X.K Y fb))(hu:X.A.units+64 < cLine):PT X (.Compare a [.Gt] [b] pos) (tT T X.K Y (M3.tB (M3.eOp M3.oGt fa fb))):=pX (Iu hu) ha hb (kj _)
def ME(ha:PE X a (tE T X.K Y fa))(hb:PE X b (tE T X.K Y fb))(hu:X.A.units+64 < cLine):PT X (.Compare a [.LtE] [b] pos) (tT T X.K Y (M3.tB (M3.eOp M3.oLe fa fb))):=pX (M4 hu) ha hb (kj _)
def Nn(ha:PE X a (tE T X.K Y fa))(hb:PE X b (tE T X.K Y fb))(hu:X.A.units+64 < cLine):PT X (.Compare a [.GtE] [b] pos) (tT T X.K Y (M3.tB (M3.eOp M3.oGe fa fb))):=pX (MH hu) ha hb (kj _)
def xa(ha:PE X a (tE T X.K Y fa))(hb:PE X b (tE T X.K Y fb))(hu:X.A.units+64 < cLine)(hm:behindInMarks .NotIn b=false:=by rfl):PT X (.Compare a [.NotIn] [b] pos) (tT T X.K Y (M3.tB (M3.eOp M3.lT fa fb))):=pX (wG hu) ha hb hm
end
section
variable{X:Cx}{T:Tab}{Y:EX}{K:PySem.W.Frag}{o e:Expr}{es:List Expr}{fa:M3.E3}{f3:M3.A3}{pos p:Pos}{x:Str}{C:Nat}{f:List M3.D->M3.M M3.D}
def Fq(h:False):PE X (.Call (.Name x p) (e :: es) [] pos) (tE T K Y (M3.aq f f3)):=h.elim
def Fs(h:False):PE X (.Call (.Attribute o x p) (e :: es) [] pos) (tE T K Y (M3.aK C f fa f3)):=h.elim
def Dw(h:False):PE X (.Call (.Attribute o x p) [] [] pos) (tE T K Y (M3.aK C f fa f3)):=h.elim
def Hf(h:False):PE X (.Call (.Name x p) (e :: es) [] pos) (tE T K Y (M3.kC C f f3)):=h.elim
def DG(h:False):PE X (.Call (.Name x p) [] [] pos) (tE T K Y (M3.kC C f f3)):=h.elim
end
theorem tV:∀(more acc:List (L2.Key×V)),((acc++more).map (·.1)).Nodup->j7 acc more=acc++more
 | [],acc,_=>by simp [j7]
 |(k,v) :: r,acc,h=>by
  have hk:putK acc k v=acc++[(k,v)]:=by unfold putK;rw[if_neg];intro z;obtain⟨kv,hm,e⟩:=List.any_eq_true.mp z;rw[qT_,List.nodup_append]at h;exact h.2.2 kv.1 (qH_.mpr ⟨kv,hm,rfl⟩) k (by simp) (of_decide_eq_true e)
  show j7 (putK acc k v) r=_;rw[hk,tV r (acc++[(k,v)]) (by simpa using h)];simp
section
variable{X:Cx}{T:Tab}{Y:EX}{pos:Pos}
def DP(X:Cx)(T:Tab)(Y:EX)(pos:Pos)(keys:List (Option Expr))(values:List Expr)(ns:List Str)(a:M3.A3):Prop:=
 ∃BM,PPs X pos keys values BM/\∀σ H (Q:List (V×V)->Hp->Prop),tA T X.K Y a σ H (fun vs H'=>Q ((ns.zip vs).map fun p=>(V.str p.1,p.2)) H')->vv BM σ H Q
def Dp:DP X T Y pos [] [] [] M3.ah:=⟨[],Fi,fun σ H Q ⟨μ,σ3,G,S,sd,h⟩=>h [] H μ (Up.refl _ _) S rfl⟩
def iK{fv:M3.E3}{a:M3.A3}(hv:PE X v (tE T X.K Y fv))(r:DP X T Y pos ks vs ns a):
 DP X T Y pos (some (.Constant (.str k) j p) :: ks) (v :: vs) (k :: ns) (M3.aa fv a):=by
 obtain⟨BM,hp,hr⟩:=r;refine⟨(tC (.str k),tE T X.K Y fv) :: BM,Dn CF hv hp,fun σ H Q ⟨μ,σ3,G,S,sd,h⟩=>?_⟩;refine⟨μ,σ3,G,S,sd,bj h fun x G1 w H1 μ1 u1 S1 d1 h1=>hr σ H1 _ ⟨μ1,σ3,G1,S1,sd.up u1,?_⟩⟩;exact M3.ak (M3.aN h1) (fun xs G2 q ws H2 μ2 u2 S2 LP=>q (w :: ws) H2 μ2 (u1.trans u2) S2 ⟨w,ws,rfl,Den.up u2 d1,LP⟩) fun _ _ z=>z
theorem wD{K:PySem.W.Frag}{H:Hp}{μ:List Addr}:∀{ks:List Str} {ds:List M3.D} {vs:List V},ay K H μ ds vs->iC K H μ ((ks.zip ds).map fun p=>((Sum.inr p.1:M3.Key),p.2)) ((ks.zip vs).map fun p=>((Sum.inr p.1:L2.Key),p.2))
 | [],_,_,_=>.nil
 |_ :: _,[],_,h=>by cases (show _=[]from h);exact .nil
 |k :: ks,_ :: ds,_,⟨v,r,e,h,t⟩=>by subst e;exact .cons ⟨rfl,h⟩ (wD t)
def B3{keys:List (Option Expr)}{a:M3.A3}(d:DP X T Y pos keys values ns a)(af:keys.all (·.isSome)=true:=by rfl)(hl:keys.length=values.length:=by rfl)(h0:keys≠ []:=by simp)(Qn:keys.length<=15:=by decide):
 PE X (.Dict keys values pos) (tE T X.K Y (M3.Ac ns a)):=by
 obtain⟨BM,hp,hr⟩:=d;refine PE.of (Fh hp af hl h0 Qn) fun σ H Q ⟨μ,σ3,G,S,sd,h⟩ p hpn=>?_;have u:=Up.new (μ:=μ) (.dK []) hpn;have S1:Sim T X.K (μ++[p]) (upd H p (.dK [])) (G++[.dK []]):=S.new hpn rfl ⟨[],aH,.nil⟩;have ep:(μ++[p])[G.length]? =some p:=by rw[<-S.len];simp
 have h1:M3.run (M3.bnd (a σ3) fun ds=>M3.t9 ns (.ref G.length) ds) (G++[.dK []]) (dO T X.K μ H Q) (Y.x μ H):=h;refine hr σ _ _ ⟨μ++[p],σ3,_,S1,sd.up u,M3.ak (M3.aN h1) (fun ds G2 q vs H2 μ2 u2 S2 dv=>?_) fun _ _ z=>Y.up u z⟩;have e2:=u2.at ep;unfold M3.run M3.t9 at q;dsimp only at q;cases qn:G2[G.length]? with
 |none=>rw[qn]at q;cases q
 |some ob=>
  rw[qn]at q;have so:=S2.obj _ _ ob e2 qn;cases ob with
  |dK kvs=>
   obtain⟨ws,w1,w2⟩:=so;dsimp only at q;by_cases c:kvs=[]/\ns.Nodup/\ns.length=ds.length/\ns.length<=15
   · rw[if_pos c]at q;obtain⟨rfl,nd,le,W0⟩:=c;cases w2;have lv:=dv.length;have em:j7 [] ((ns.zip vs).map fun p=>((Sum.inr p.1:L2.Key),p.2))=(ns.zip vs).map fun p=>((Sum.inr p.1:L2.Key),p.2):=by
      rw[tV]
      · rfl
      · rw[qc_,qb_];have:((fun x:L2.Key×V=>x.1) ∘ fun p:Str×V=>((Sum.inr p.1:L2.Key),p.2))=(fun k=>(Sum.inr k:L2.Key)) ∘ Prod.fst:=rfl;rw[this,<-qb_,List.map_fst_zip (by omega)];exact List.Pairwise.map _ (fun a b mU z=>mU (Sum.inr.inj z)) nd
     refine⟨w1,(ns.zip vs).map fun p=>((Sum.inr p.1:L2.Key),p.2),by rw[qb_];rfl,by rw[qM_,List.length_zip];omega,?_⟩;rw[em];have up:=Up.set S2 (.dK ((ns.zip vs).map fun p=>((Sum.inr p.1:L2.Key),p.2))) e2 qn rfl;exact q _ _ μ2 ((u.trans u2).trans up) (S2.set e2 qn rfl rfl ⟨_,aH,wD (ay.up up dv)⟩) ⟨p,e2,rfl⟩
   · rw[if_neg c]at q;cases q
  |_=>cases q
theorem tW:∀{kvs:List (L2.Key×V)} {vs:List (L2.Key×Value)} {us:List Value},KV kvs vs->us.length=vs.length->(∀(j:Nat) (v:Value),us[j]? =some v->∃k x,vs[j]? =some (k,x)/\(bx P w).is k v=true)->Vals (kvs.map fun kv=>kV kv.1) us
 | [],_,us,.nil,hl,_=>by
   have:us=[]:=List.length_eq_zero_iff.mp hl;subst this;exact .nil
 |(k,v) :: kvs,_,us,.cons (b:=b) r t,hl,h=>by
  cases us with
  |nil=>simp at hl
  |cons u us=>
   obtain⟨k',x,e,hi⟩:=h 0 u rfl;have e:b=(k',x):=by simpa using e
   have ek:k=k':=by have:=r.1;rw[e]at this;exact this
   subst ek;refine .cons ?_ (tW t (by simpa using hl) fun j v' e'=>by simpa using h (j+1) v' (by simpa using e'));rcases bN (show pV k u=true from hi)with ⟨i,t,rfl,rfl⟩ |⟨z,t,rfl,rfl⟩
   · exact⟨t,rfl⟩
   · exact⟨t,rfl⟩
variable{o e:Expr}{fa fb:M3.E3}{p apos:Pos}
def xh{to:TE}(hc:X.A.handled=none)(ho:PE X o to)(hm:X.mg "list"=none)(hg:Gl X "list":=by rfl)
 (he:starEach [o] X.env=(false,eval o X.env) :: starEach [] X.env:=by rfl) (gZ:(backTo pos (starEach [] X.env)).any (·.1)=false:=by rfl):
 PE X (.Call (.Name "list" p) [o] [] pos) (fun σ H Q=>to σ H fun x H1=>∃a kvs,x= .ref a/\H1 a=some (.dK kvs)/\∀l,H1 l=none->Q (.ref l) (upd H1 l (.lst (kvs.map fun kv=>kV kv.1)))):=by
 intro pins s σ H Q I h;refine wpAny_Call_Name_kw (nO I hg hm boot_list ?_ (by decide) (by decide));refine PyProof.Rows.callWith_type1 (Q:=EP X pins σ Q) ?_ he gZ;rw[he];show wpAny _ _ (spliced ((false,eval o X.env) :: backTo pos (starEach [] X.env))) _ _ s;refine Calls.spliced_cons (thn (ho pins s σ H _ I h) fun v s1 ⟨x,H1,I1,r1,a,kvs,e,ha,q⟩=>?_);subst e;cases r1;show wpAny _ _ (spliced []) _ _ _;refine Calls.spliced_nil ?_;obtain⟨hz,hS,vs,rv,dd⟩:=xA I1.hok ha;obtain⟨ep,mH⟩:=dd.dictAt;refine PySem.W.kdl_call (PySem.W.kdl_dict (knd:=bx X.prog X.w) (d:=a) (kvs:=vs) (ep:=ep) hS) hc mH (by rw[<-rv.length];exact hz) fun h' tk acc c' hk Qk items=>?_;have rr:Vals (kvs.map fun kv=>kV kv.1) acc.toList:=tW rv (by rw[Array.length_toList];exact items.1) fun j v e=>items.2 j v (by rw[<-Array.getElem?_toList];exact e);exact⟨.ref s1.heap.objs.size,_,I1.laid (t':=tk) hk (qO_ _) (show bO X.prog X.w _ h' _ (.lst (kvs.map fun kv=>kV kv.1))from⟨by rw[qM_];exact hz,acc.toList,c',rr,by rw[Array.toArray_toList];exact Qk⟩),rfl,q _ (I1.hok.fresh (qO_ _))⟩
def Hc{K:PySem.W.Frag}{H:Hp}{μ:List Addr}(k:M3.Key):Den K H μ (M3.vU k) (kV k):=by
 cases k <;> rfl
theorem um{K:PySem.W.Frag}{H:Hp}{μ:List Addr}:∀{kvs:List (M3.Key×M3.D)} {ws:List (L2.Key×V)},iC K H μ kvs ws->ay K H μ (kvs.map fun kv=>M3.vU kv.1) (ws.map fun kv=>kV kv.1)
 |_,_,.nil=>rfl
 |_,_,.cons (a:=a) r t=>⟨_,_,rfl,by show Den K H μ (M3.vU a.1) (kV _);rw[r.1];exact Hc _,um t⟩
def zE(hc:X.A.handled=none)(ho:PE X o (tE T X.K Y fa))(hm:X.mg "list"=none)(hg:Gl X "list":=by rfl)
 (he:starEach [o] X.env=(false,eval o X.env) :: starEach [] X.env:=by rfl) (gZ:(backTo pos (starEach [] X.env)).any (·.1)=false:=by rfl):
 PE X (.Call (.Name "list" p) [o] [] pos) (tE T X.K Y (M3.Cu fa)):=by
 refine PE.of (xh hc ho hm hg he gZ) fun σ H Q ⟨μ,σ3,G,S,sd,h⟩=>⟨μ,σ3,G,S,sd,bj h fun d G1 v H1 μ1 u1 S1 d1 h1=>?_⟩;cases d with
 |ref n=>
  obtain⟨a,ea,rfl⟩:=id d1;unfold M3.run M3.xc at h1;dsimp only at h1;cases q:G1[n]? with
  |none=>rw[q]at h1;cases h1
  |some ob=>
   have od:=S1.obj n a ob ea q;rw[q]at h1;cases ob with
   |dK kvs=>obtain⟨ws,e1,r⟩:=od;refine⟨a,ws,rfl,e1,fun l hl=>?_⟩;have up:=Up.new (μ:=μ1) (.lst (ws.map fun kv=>kV kv.1)) hl;have h1:dO T X.K μ H Q (.ref G1.length) (G1++[.lst (kvs.map fun kv=>M3.vU kv.1)]):=h1;exact h1 _ _ (μ1++[l]) (u1.trans up) (S1.new hl rfl ⟨_,aH,ay.up up (um r)⟩) ⟨l,by rw[<-S1.len];simp,rfl⟩
   |_=>cases h1
 |_=>cases h1
end
section
open PySem.SeqAt PySem.MeetsSeq PySem.AutoSeq1
def BZ(l:Addr)(items:Array Value)(n:Nat)(x:Value)(e:Nat->Bool)(j:Nat)(hj:j < items.size)(hit:e j=true)(HL:∀m,m < j->e m=false)(Mg:items.size<=sizeLine)(k:Nat):
 ∀i:Nat,j - i=k->i<=j->Meets (Builtin.«list.remove.loop» ⟨[.ref l,x,rawInt i],[]⟩)
  (fun A R s=>s.heap.get? l=some {cls:= .type "list",dict:=none,data:= .seq items n,slots:=#[]}/\(∀m (hm:m < items.size),m<=j->EqAt A.in1 s items[m] x (e m))/\
    R (.ok (.ret .none)) {s with heap:=s.heap.update l (Obj.mapSeq fun xs=>xs.eraseIdxIfInBounds j)}):=by
 induction k with
 |zero=>
  intro i hk QR prog w A R s Ol;obtain⟨hp,g,d,tk,os⟩:=s;obtain⟨hl,he,h⟩:=Ol;obtain rfl:i=j:=by omega
  wp_walk using wpAny_loadPart' hl
  have QN:items[((i:Nat):Int).toNat]? =some items[i]:=by simp [hj]
  rw[QN];refine wpAny_bind (he i hj (qO_ _) prog w _ _ ?_);rw[hit];have Wx:(items.eraseIdxIfInBounds i).size<=sizeLine+1:=Nat.le_trans (size_erased items _) (Nat.le_succ_of_le Mg)
  wp_walk using (wpAny_updateSeq hl rfl (hz:=Mg) (_hz':=Wx)),wpAny_loadPart' hl
  simpa using h
 |succ k ih=>
  intro i hk QR prog w A R s Ol;obtain⟨hp,g,d,tk,os⟩:=s;obtain⟨hl,he,h⟩:=Ol;have gA:i < items.size:=by omega
  wp_walk using wpAny_loadPart' hl
  have QN:items[((i:Nat):Int).toNat]? =some items[i]:=by simp [gA]
  have O4:((i:Int)+1)=((i+1:Nat):Int):=by push_cast;rfl
  rw[QN];refine wpAny_bind (he i gA QR prog w _ _ ?_);rw[HL i (by omega)]
  wp_walk
  rw[O4];refine⟨plainId_quiet plain_remove_loop _,codeAny_builtin entry_remove_loop ?_⟩;rw[Around.under_plainId plain_remove_loop _];exact ih (i+1) (by omega) (by omega) prog w A R _ ⟨hl,he,h⟩
def DQ(l:Addr)(items:Array Value)(n:Nat)(x:Value)(e:Nat->Bool)(j:Nat)(hj:j < items.size)(hit:e j=true)(HL:∀m,m < j->e m=false)(Mg:items.size<=sizeLine):Meets (Builtin.«list.remove» ⟨[.ref l,x],[]⟩)
 (fun A R s=>s.heap.get? l=some {cls:= .type "list",dict:=none,data:= .seq items n,slots:=#[]}/\(∀m (hm:m < items.size),m<=j->EqAt A.in1 s items[m] x (e m))/\
   R (.ok (.ret .none)) {s with heap:=s.heap.update l (Obj.mapSeq fun xs=>xs.eraseIdxIfInBounds j)}):=by
 intro prog w A R s Ol;obtain⟨hp,g,d,tk,os⟩:=s;obtain⟨hl,he,h⟩:=Ol
 wp_walk using wpAny_loadPart' hl
 refine⟨plainId_quiet plain_remove_loop _,codeAny_builtin entry_remove_loop ?_⟩;rw[Around.under_plainId plain_remove_loop _];exact BZ l items n x e j hj hit HL Mg _ 0 rfl (qf_ _) prog w A R _ ⟨hl,he,h⟩
end
section
variable{X:Cx}{T:Tab}{Y:EX}{o e:Expr}{fa fb:M3.E3}{pos apos:Pos}
def PR(T:Tab)(K:PySem.W.Frag):V->List V->Hp->VK->Prop:=fun x vs H Q=>∃μ G l xs y w j ws,Sim T K μ H G/\x= .ref l/\vs=[w]/\Den K H μ y w/\H l=some (.lst ws)/\ay K H μ xs ws/\M3.s9 G y xs=some j/\Q .non (upd H l (.lst (ws.eraseIdx j)))
theorem Ia:∀{xs:List M3.D} {j:Nat},M3.s9 G y xs=some j->(∃d,xs[j]? =some d/\M3.eqG G 8 d y=some true)/\∀m d,m < j->xs[m]? =some d->M3.eqG G 8 d y=some false
 | [],_,h=>by cases h
 |d :: r,j,h=>by
  unfold M3.s9 at h;cases q:M3.eqG G 8 d y with
  |none=>rw[q]at h;cases h
  |some b=>
   rw[q]at h;cases b with
   |true=>cases h;exact⟨⟨d,rfl,q⟩,fun m d' hm=>absurd hm (Nat.not_lt_zero _)⟩
   |false=>
    dsimp only at h;cases q2:M3.s9 G y r with
    |none=>rw[q2]at h;cases h
    |some i=>
     rw[q2]at h;cases h;obtain⟨h1,h2⟩:=Ia q2;refine⟨h1,fun m d' hm e=>?_⟩;cases m with
     |zero=>cases e;exact q
     |succ m=>exact h2 m d' (by have hm:m+1 < i+1:=hm;omega) e
def Bz(hu:X.A.units+64 < cLine):MtM X "list.remove" (PR T X.K):=by
 intro pins s σ H x vs v us Q I rx rv h;obtain⟨μ,G,l,xs,y,w,j,ws,S,rfl,rfl,dy,hH,dx,hj,q⟩:=h;cases rx;obtain⟨u,rfl,ru⟩:=rv.one;obtain⟨z,aJ,n,r,hl,e⟩:=I.xS hH;obtain⟨⟨dj,ej,hit⟩,HL⟩:=Ia hj;have Sv:j < aJ.length:=by have:=(qB_.mp ej).1;rw[dx.length]at this;omega
 refine call_meets F.slot_list_remove ⟨_,e,rfl⟩ F.entry_list_remove (F.args_list_remove_2 _ _) (DQ l aJ.toArray n u (fun m=>decide (m=j)) j (by simpa using Sv) (qZ_ rfl) (fun m hm=>qa_ (by omega)) (by rw[qW_];omega)) ⟨e,fun m hm TX=>?_,?_⟩
 · obtain⟨d,v,e1,e2,e3⟩:=vR dx r hm;have hb:M3.eqG G 8 d y=some (decide (m=j)):=by
    by_cases hmj2:m=j
    · subst hmj2;rw[ej]at e1;cases e1;rw[hit,qZ_ rfl]
    · rw[HL m d (by omega) e1,qa_ hmj2]
   exact(xR I S 8 (by show X.A.units+1+8 < cLine;omega) e2 dy e3 ru hb).1
 · refine⟨.non,_,I.Fg (its':=aJ.eraseIdx j) hH e ?_ (r.eraseIdx j) ?_,rfl,q⟩
   · show (aJ.toArray).eraseIdxIfInBounds j=(aJ.eraseIdx j).toArray;rw[List.eraseIdxIfInBounds_toArray]
   · have:=pf ws j;omega
def B4(hu:X.A.units+64 < cLine)(ho:PE X o (tE T X.K Y fa))(he:PE X e (tE T X.K Y fb))
 (eO:attributeBase o "remove" X.env (eval o X.env)=eval o X.env:=by rfl)
 (wj:((backTo pos (starEach (e :: []) X.env)).all (fun x=>!x.1)&&(backToKw pos (keywordEach [] X.env)).all (fun x=>x.1.isSome)
   &&decide ((e :: ([]:List Expr)).length+([]:List Keyword).length+(if ([]:List Keyword).isEmpty then 0 else 1) < 30))=true:=by rfl)
 (fR:(apos.endLine==pos.line)=true:=by rfl) (hs:starEach (e :: []) X.env=(false,eval e X.env) :: starEach [] X.env:=by rfl) (kx:(backTo pos (starEach [] X.env)).any (·.1)=false:=by rfl):
 PE X (.Call (.Attribute o "remove" apos) [e] [] pos) (tE T X.K Y (M3.IS fa fb)):=by
 refine PE.of (Af PySem.F.plainAttrs_list PySem.F.slot_list_remove PySem.F.type_list_remove (Bz (T:=T) hu) ho (eB he je hs) eO wj fR hs kx) fun σ H Q ⟨μ,σ3,G,S,sd,h⟩=>⟨μ,σ3,G,S,sd,bj h fun d G1 v H1 μ1 u1 S1 d1 h1=>?_⟩;obtain⟨n,xs,rfl,q,h1⟩:=uU (M3.aN h1);obtain⟨a,ea,rfl⟩:=id d1;obtain⟨vs,e1,r1⟩:=S1.obj n a _ ea q;refine⟨.inl ⟨rfl,vs,SqL.of e1⟩,μ1,σ3,G1,S1,sd.up u1,bj h1 fun y G2 w H2 μ2 u2 S2 d2 h2=>?_⟩;have zJ:=u2.at ea;unfold M3.run M3.oy at h2;dsimp only at h2;cases q2:G2[n]? with
 |none=>rw[q2]at h2;cases h2
 |some ob=>
  rw[q2]at h2;have so:=S2.obj n a ob zJ q2;cases ob with
  |lst zs=>
   obtain⟨ws,e2,r2⟩:=so;dsimp only at h2;cases qi:M3.s9 G2 y zs with
   |none=>rw[qi]at h2;cases h2
   |some j=>rw[qi]at h2;have up:=Up.set S2 (.lst (ws.eraseIdx j)) zJ q2 rfl;refine⟨μ2,G2,a,zs,y,w,j,ws,S2,rfl,rfl,d2,e2,r2,qi,?_⟩;exact h2 _ _ μ2 ((u1.trans u2).trans up) (S2.set zJ q2 rfl rfl ⟨_,aH,ay.up up (ay.erase j r2)⟩) rfl
  |_=>cases h2
end
end L3
namespace M3
open PySem
section
variable{α β:Type}{G G':Hh}{E:Nat->Hh->Prop}{σ:St}
variable{Q:D->Hh->Prop}{QB:Bool->Hh->Prop}{QA:List D->Hh->Prop}{QS:Fl×St->Hh->Prop}{QU:Unit->Hh->Prop}{QI:Src->Hh->Prop}{QG:St->Hh->Prop}
def Gr{QP:Option Int->Hh->Prop}(h:QP none G):run (wF σ) G QP E:=h
def uK{e:E3}{QP:Option Int->Hh->Prop}(h:run (e σ) G (fun d G1=>run (asI d) G1 QP E) E):run (nP e σ) G QP E:=aB h
def DY{QP:Option Int->Hh->Prop}(h:QP (some i) G):run (asI (.int i)) G QP E:=h
def MM(hn:G[n]? =some (.frz xs))(h:Q (.ref G.length) (G++[.lst (cutD xs lo hi)])):run (oSl (.ref n) lo hi) G Q E:=by
 unfold run oSl;dsimp only;rw[hn];exact h
def F7{e:E3}(h:run (e σ) G (fun x G1=>run (sC x) G1 QI E) E):run (D7 e σ) G QI E:=aB h
def Gh(hl:G[n]? =some (.lst xs))(h:QI ⟨jv xs,fun G'=>decide (G'[n]? =some (.lst xs))⟩ G):run (sC (.ref n)) G QI E:=by
 refine aC (G':=G) ?_ h;unfold sC;dsimp only;rw[hl]
def Bx{xs:List D}{i:Nat}(h:(jv xs)[i]? =some x):∃y,xs[i]? =some y/\x= .tup [.int (i:Int),y]:=by
 unfold jv at h;rw[List.getElem?_mapIdx]at h;cases q:xs[i]? with
 |none=>rw[q]at h;cases h
 |some y=>rw[q]at h;exact⟨y,rfl,(Option.some.inj h).symm⟩
def Bj{xs:List D}:(jv xs).length=xs.length:=by simp [jv]
def ir(hj:j<=1000000)(h:QI ⟨rng 0 j,fun _=>true⟩ G):run (Hj (.int (j:Int))) G QI E:=by
 have c:ur (j:Int)=true:=by unfold ur;exact qZ_ (by omega)
 show run (if ur (j:Int)=true then ret (⟨rng 0 (j:Int).toNat,fun _=>true⟩:Src)else fail) G QI E;rw[if_pos c,Int.toNat_natCast];exact h
def pB{n:Nat}{body:D->St->M (Fl×St)}(P:Nat->St->Hh->Prop)
 (hs:∀(i:Nat) σ G,i < n->P i σ G->run (body (.int (i:Int)) σ) G (fun p G1=>match p.1 with
   | .next=>P (i+1) p.2 G1
   | .cont=>P (i+1) p.2 G1
   | .brk=>QS (.next,p.2) G1
   | .ret d=>QS (.ret d,p.2) G1) E)
 (hd:∀σ G,P n σ G->QS (.next,σ) G) (h0:P 0 σ G):run (forL (fun _=>true) body (rng 0 n) σ) G QS E:=by
 refine sh (xs:=rng 0 n) P (fun _ _ _ _=>rfl) (fun i x σ G hx p=>?_) (fun σ G p=>hd σ G (by rw[qP]at p;exact p)) _ 0 σ G List.drop_zero (qf_ _) h0;obtain⟨rfl,hi⟩:=nR hx;rw[Int.zero_add];exact hs i σ G hi p
def jI{α:Type}{f:α->D}{xs:List α}{ck:Hh->Bool}{body:D->St->M (Fl×St)}(P:Nat->St->Hh->Prop)(wo:∀i σ G,P i σ G->ck G=true)
 (hs:∀(i:Nat) x σ G,xs[i]? =some x->P i σ G->run (body (f x) σ) G (fun p G1=>match p.1 with
   | .next=>P (i+1) p.2 G1
   | .cont=>P (i+1) p.2 G1
   | .brk=>QS (.next,p.2) G1
   | .ret d=>QS (.ret d,p.2) G1) E)
 (hd:∀σ G,P xs.length σ G->QS (.next,σ) G) (h0:P 0 σ G):run (forL ck body (xs.map f) σ) G QS E:=by
 refine sh (xs:=xs.map f) P wo (fun i x σ G hx p=>?_) (fun σ G p=>hd σ G (by rw[qM_]at p;exact p)) _ 0 σ G List.drop_zero (qf_ _) h0;rw[qQ_]at hx;cases q:xs[i]? with
 |none=>rw[q]at hx;cases hx
 |some y=>rw[q]at hx;cases hx;exact hs i y σ G q p
def Dl{kvs:List (Key×D)}(hl:G[n]? =some (.dK kvs))(h:Q (.int kvs.length) G):run (dh [.ref n]) G Q E:=by
 refine aC (a:= .int kvs.length) (G':=G) ?_ h;unfold dh;dsimp only;rw[hl]
end
end M3
local macro_rules |`(tactic|walk_at "f")=>`(tactic|(refine M3.GW rfl ?_;simp only[List.map_cons,List.map_nil,List.cons_append,qc_]))
local macro_rules |`(tactic|lia)=>`(tactic|repeat walk_at "w")
local macro_rules |`(tactic|walk_at "s")=>`(tactic|simp only[List.set_cons_succ,List.set_cons_zero])
local macro_rules |`(tactic|walk_at "w")=>`(tactic|first
 |with_reducible refine M3.aQ ?_
 |((with_reducible refine' M3.w_var ?e1 ?_);case e1=>rfl)
 |(with_reducible first |refine M3.w_c ?_ |refine M3.az ?_)
 |((with_reducible refine M3.w_next ?_);try walk_at "s")
 |(with_reducible first |refine M3.Kj ?_ |refine M3.aY ?_ |refine M3.cJ ?_ |refine M3.bB ?_ |refine M3.dE ?_ |refine M3.kU ?_ |refine M3.bh ?_ |refine M3.ai ?_ |refine M3.ax ?_ |refine M3.As ?_ |refine M3.DV ?_ |refine M3.yq ?_ |refine M3.mP ?_ |refine M3.fD ?_ |refine M3.rz ?_ |refine M3.uq ?_ |refine M3.gj ?_ |refine M3.gK ?_ |refine M3.dP ?_ |refine M3.zf ?_ |refine M3.D1 ?_ |refine M3.K4 ?_ |refine M3.NB ?_ |refine M3.df ?_ |refine M3.dC ?_ |refine M3.iD ?_ |refine M3.oz ?_ |refine M3.jA ?_ |refine M3.zq ?_ |refine M3.Jf ?_)
 |((with_reducible refine' M3.K6 ?e1 ?_);case e1=>decide)
 |((with_reducible refine' M3.JT ?e1 ?_);case e1=>decide)
 |((with_reducible refine' M3.nE ?e1 ?_);case e1=>decide)
 |(with_reducible first |refine M3.Nk ?_ |refine M3.HX ?_ |refine M3.NE ?_ |refine M3.Ny ?_)
 |((with_reducible refine' M3.NT ?e1 ?e2 ?_);(case e1=>rfl);(case e2=>rfl))
 |((with_reducible refine' M3.aS ?e1 ?_);case e1=>rfl)
 |(with_reducible first |refine M3.uB ?_ |refine M3.vq ?_ |refine M3.u5 ?_ |refine M3.zF ?_ |refine M3.wZ ?_ |refine M3.xC ?_ |refine M3.xK ?_ |refine M3.xJ ?_ |refine M3.uZ ?_ |refine M3.vL ?_ |refine M3.uJ ?_ |refine M3.uN ?_ |refine M3.vK ?_ |refine M3.vy ?_ |refine M3.vW ?_ |refine M3.vJ ?_ |refine M3.HN ?_ |refine M3.DT ?_ |refine M3.vH ?_ |refine M3.MQ ?_ |refine M3.pO ?_ |refine M3.qM ?_ |refine M3.CJ ?_ |refine M3.vh ?_ |refine M3.MS ?_ |refine M3.kB ?_ |refine M3.lx ?_ |refine M3.uL ?_ |refine M3.ph ?_ |refine M3.Nu ?_ |refine M3.Gr ?_ |refine M3.uK ?_ |refine M3.DY ?_ |refine M3.F7 ?_)
 |((with_reducible refine' M3.IG ?e1 ?_);(case e1=>rfl);try walk_at "s")
 |((with_reducible refine' M3.uM ?e1 ?_);case e1=>exact qP_ rfl)
 |with_reducible refine And.intro (show (_:Nat)<=M3.aw from qP_ (by with_unfolding_all rfl)) ?_
 |(with_reducible first |refine M3.w_fld ?_ |refine M3.fU ?_ |refine M3.bb ?_ |refine M3.tR ?_ |refine M3.Ax ?_ |refine M3.J3 ?_ |refine M3.Gx ?_)
 |((with_reducible refine' M3.aX ?e1 ?e2 ?e3 ?_);(case e1=>assumption);(case e2=>decide);(case e3=>rfl))
 |((with_reducible refine' M3.bS ?e1 ?_);(case e1=>assumption))
 |with_reducible refine M3.aB ?_)
namespace KH
open PySem M3
def Ext(G G':Hh):Prop:=∃r,G'=G++r
def Ext.refl(G:Hh):Ext G G:=⟨[],by simp⟩
def Ext.trans{A B C:Hh}(a:Ext A B)(b:Ext B C):Ext A C:=by
 obtain⟨r,rfl⟩:=a;obtain⟨t,rfl⟩:=b;exact⟨r++t,by simp⟩
def Ext.add(G:Hh)(o:O):Ext G (G++[o]):=⟨[o],rfl⟩
def Ext.get{A B:Hh}(a:Ext A B){n:Nat}{o:O}(h:A[n]? =some o):B[n]? =some o:=by
 obtain⟨r,rfl⟩:=a;rw[qK_ (qB_.mp h).1];exact h
def aM(G:Hh)(o:O):(G++[o])[G.length]? =some o:=by simp
def take_succ{α:Type}{xs:List α}{i:Nat}{x:α}(h:xs[i]? =some x):xs.take (i+1)=xs.take i++[x]:=by
 rw[List.take_add_one,h];rfl
def qO{α:Type}{f:α->D}{ps:List α}{i:Nat}(h:(ps.map f)[i]? =some x):∃p,ps[i]? =some p/\x=f p:=by
 rw[qQ_]at h;cases e:ps[i]? with
 |none=>rw[e]at h;cases h
 |some p=>rw[e]at h;exact⟨p,rfl,(Option.some.inj h).symm⟩
def bD{α:Type}{f:α->D}{xs:List α}{i:Nat}{x:α}(h:xs[i]? =some x):atI (xs.map f) (i:Int)=some (f x):=by
 have hl:=(qB_.mp h).1;unfold atI M3.ixN;rw[if_pos (Int.natCast_nonneg _),qM_,if_pos (by exact_mod_cast hl)];simp [h]
def ED{α:Type}{f:α->D}{xs:List α}{i:Int}{x:α}(h0:0<=i)(h:xs[i.toNat]? =some x):atI (xs.map f) i=some (f x):=by
 have:=bD (f:=f) h
 rwa [Int.toNat_of_nonneg h0]at this
def eq_int:eqG G (k+1) (.int a) (.int b)=some (decide (a=b)):=rfl
def Ij:eqG G (k+1) (.bl a) (.bl b)=some (a==b):=rfl
def tN{κ:Type} [DecidableEq κ]{kvs:List (κ×D)}{k:κ}:look kvs k=none↔k∉kvs.map (·.1):=by
 unfold look;rw[Option.map_eq_none_iff,List.find?_eq_none];constructor
 · intro h z;obtain⟨kv,hm,e⟩:=qH_.mp z;exact h kv hm (qZ_ e)
 · intro h kv hm e;exact h (qH_.mpr ⟨kv,hm,of_decide_eq_true e⟩)
def pR{κ:Type} [DecidableEq κ]{kvs:List (κ×D)}{k:κ}:(look kvs k).isSome=decide (k∈kvs.map (·.1)):=by
 by_cases h:k∈kvs.map (·.1)
 · rw[qZ_ h];cases q:look kvs k with
   |none=>exact absurd h (tN.mp q)
   |some _=>rfl
 · rw[qa_ h,tN.mpr h];rfl
end KH
namespace KC
open PySem M3
def oQ:S3:=
    (aA (eOp oGt (eOp eN (ae 1) (eC (.int 2))) (ae 0)))
def mD:List D->M D:=fnM 2 [] oQ
def rH:S3:=
    (aj (aV 1 (eC (.tup [(.tup [(.int 0),(.int 0)]),(.int 0)])))
    (aj (li (iOf (ae 0)) (gNm 2) (sIf (tB (eOp oGt (eOp oIx (ae 2) (eC (.int 0))) (eOp oIx (ae 1) (eC (.int 0))))) (aV 1 (ae 2)) aO))
    (aA (ae 1))))
def n0:List D->M D:=fnM 1 [none,none] rH
def iZ:S3:=
    (aj (aV 3 (ij (iOf (ae 0)) [] k9 (eOp oIx (eOp oIx (ae 0) (eC (.int 0))) (eC (.int 0)))))
    (aA (bE (aa (eOp eM (aq wQ (aa (eOp eM (ae 3) (bW (aa (ae 1) ah))) ah)) (eC (.int 1))) (aa (ae 2) ah)))))
def gn:List D->M D:=fnM 3 [none] iZ
def k7:S3:=
    (aj (bt (ae 0) 0 (ae 1))
    (aj (bt (ae 0) 1 (ae 2))
    (aj (bt (ae 0) 2 (eC (.bl false)))
    (aj (bt (ae 0) 3 (eC .non))
    (aj (bt (ae 0) 4 (eC .non))
    (aj (bt (ae 0) 5 (eC (.int 0)))
    (aj (bt (ae 0) 6 lR)
    (bt (ae 0) 7 (eC (.int 0))))))))))
def iE:List D->M D:=fnM 3 [] k7
def hW:S3:=
    (aj (aV 1 (ij (jw (aT (ae 0) 1)) [0] (tB (eOp lT (ae 0) (aT (ae 1) 6))) (ae 0)))
    (aA (ij (iOf (ae 1)) [0] k9 (bE (aa (aT (ae 1) 0) (aa (ae 0) (aa (aT (ae 1) 5) (aa (aT (ae 1) 4) ah))))))))
def cK:List D->M D:=fnM 1 [none] hW
def ff:S3:=
    (aj (bt (ae 0) 5 (eOp eM (aT (ae 0) 5) (eC (.int 1))))
    (aj (bt (ae 0) 4 (ae 1))
    (aj (bt (ae 0) 6 lR)
    (aA (aK 0 cK (ae 0) ah)))))
def bG:List D->M D:=fnM 2 [] ff
def jD:S3:=
    (aj (sIf (tOf (aT (ae 0) 2)) (nL 1004 (aa (eC (.str "the hand is at work already")) ah)) aO)
    (aj (bt (ae 0) 2 (eC (.bl true)))
    (aj (bt (ae 0) 3 (ae 1))
    (aA (aK 0 bG (ae 0) (aa (eC .non) ah))))))
def dZ:List D->M D:=fnM 2 [] jD
def eS:S3:=
    (aA (aK 0 dZ (ae 0) (aa (ae 1) ah)))
def cT:List D->M D:=fnM 2 [] eS
def fO:S3:=
    (aA (aK 0 dZ (ae 0) (aa (eC .non) ah)))
def dG:List D->M D:=fnM 1 [] fO
def eX:S3:=
    (sIf (eF (tOf (aT (ae 0) 2))) (nL 1005 (aa (eC (.str "the hand is not at work")) ah)) aO)
def bH:List D->M D:=fnM 1 [] eX
def fJ:S3:=
    (aj (bq (aK 0 bH (ae 0) ah))
    (aA (aK 0 cK (ae 0) ah)))
def dH:List D->M D:=fnM 1 [] fJ
def hI:S3:=
    (aj (bq (aK 0 bH (ae 0) ah))
    (bt (ae 0) 2 (eC (.bl false))))
def fz:List D->M D:=fnM 1 [] hI
def iY:S3:=
    (aj (aV 1 (Dx (aT (ae 0) 6)))
    (aj (sIf (tB (eUn kN (aT (ae 0) 3))) (aA (aq n0 (aa (ae 1) ah))) aO)
    (aj (aV 2 (aq gn (aa (ae 1) (aa (aT (ae 0) 7) (aa (aT (ae 0) 0) ah)))))
    (aj (bt (ae 0) 7 (eOp oIx (ae 2) (eC (.int 0))))
    (aA (bE (aa (ae 2) (aa (aT (ae 0) 3) ah))))))))
def gm:List D->M D:=fnM 1 [none,none] iY
def lC:S3:=
    (aj (sIf (tOr (eF (tOf (aT (ae 0) 2))) (tB (eOp oNe (eOp oIx (ae 1) (eC (.int 2))) (aT (ae 0) 5)))) (aA (bE (aa (bW ah) (aa (eC .non) ah)))) aO)
    (aj (dS (aT (ae 0) 6) (eOp oIx (ae 1) (eC (.int 1))) (eOp oIx (ae 1) (eC (.int 3))))
    (aj (sIf (eF (tOf (aq mD (aa (aT (ae 0) 1) (aa (aq dh (aa (aT (ae 0) 6) ah)) ah))))) (aA (bE (aa (bW ah) (aa (eC .non) ah)))) aO)
    (aj (sIf (tB (eUn kN (aT (ae 0) 4))) (aA (bE (aa (aK 0 bG (ae 0) (aa (aK 0 gm (ae 0) ah) ah)) (aa (eC .non) ah)))) aO)
    (aj (bt (ae 0) 2 (eC (.bl false)))
    (aA (bE (aa (bW ah) (aa (aT (ae 0) 4) ah)))))))))
def iL:List D->M D:=fnM 2 [] lC
def jj:S3:=
    (aj (bt (ae 0) 4 (eC (.tup [(.tup [(.int 0),(.int 0)]),(.int 0)])))
    (bt (ae 0) 8 (eC (.bl true))))
def gx:List D->M D:=fnM 1 [] jj
def jd:S3:=
    (aj (aV 1 (aT (ae 0) 8))
    (aj (bt (ae 0) 8 (eC (.bl false)))
    (aA (ae 1))))
def gy:List D->M D:=fnM 1 [none] jd
def jf:S3:=
    (aj (aV 1 (DK (aT (ae 0) 8)))
    (aj (bt (ae 0) 8 (eC (.bl true)))
    (aA (ae 1))))
def gr:List D->M D:=fnM 1 [none] jf
def jg:S3:=
    (sIf (tB (eOp oGt (eOp oIx (ae 1) (eC (.int 0))) (eOp oIx (aT (ae 0) 4) (eC (.int 0))))) (bt (ae 0) 4 (ae 1)) aO)
def gz:List D->M D:=fnM 2 [] jg
def eV:S3:=
    (aj (sIf (eF (tOf (aT (ae 0) 8))) (aA (eC .non)) aO)
    (aj (aV 2 (eOp oIx (ae 1) (eC (.int 3))))
    (aj (sIf (tB (eUn kN (ae 2))) (aA (eOp eM (eSl (ae 1) wF (nP (eC (.int 3)))) (bE (aa (aT (ae 0) 4) ah)))) aO)
    (aj (bq (aK 1 gz (ae 0) (aa (ae 2) ah)))
    (aA (eOp eM (eSl (ae 1) wF (nP (eC (.int 3)))) (bE (aa (eC .non) ah))))))))
def cW:List D->M D:=fnM 2 [none] eV
def ly:S3:=
    (aj (bt (ae 0) 9 (ij (jw (ae 1)) [] k9 (kC 1 gx ah)))
    (aj (bt (ae 0) 10 (ij (jw (ae 2)) [1] k9 (kC 0 iE (aa (ae 0) (aa (ae 1) ah)))))
    (bt (ae 0) 11 (bW ah))))
def gD:List D->M D:=fnM 3 [] ly
def hZ:S3:=
    (aj (sIf (tOr (tB (eOp oLt (ae 1) (eC (.int 0)))) (tB (eOp oGe (ae 1) (aq dh (aa (aT (ae 0) 10) ah))))) (nL 1001 (aa (eC (.str "there is no such hand")) ah)) aO)
    (aA (eOp oIx (aT (ae 0) 10) (ae 1))))
def aU:List D->M D:=fnM 2 [] hZ
def fX:S3:=
    (aj (sIf (tOr (tB (eOp oLt (ae 1) (eC (.int 0)))) (tB (eOp oGe (ae 1) (aq dh (aa (aT (ae 0) 9) ah))))) (nL 1002 (aa (eC (.str "there is no such keeper")) ah)) aO)
    (aA (eOp oIx (aT (ae 0) 9) (ae 1))))
def bi:List D->M D:=fnM 2 [] fX
def lI:S3:=
    (bq (vc (aT (ae 0) 11) (ij (iOf (ae 1)) [] k9 (bE (aa (eC (.bl false)) (aa (ae 0) ah))))))
def bT:List D->M D:=fnM 2 [] lI
def jZ:S3:=
    (bq (aK 2 bT (ae 0) (aa (aK 0 cT (aK 2 aU (ae 0) (aa (ae 1) ah)) (aa (ae 2) ah)) ah)))
def gN:List D->M D:=fnM 3 [] jZ
def kL:S3:=
    (bq (aK 2 bT (ae 0) (aa (aK 0 dG (aK 2 aU (ae 0) (aa (ae 1) ah)) ah) ah)))
def iH:List D->M D:=fnM 2 [] kL
def kf:S3:=
    (aj (aV 2 (aK 0 dH (aK 2 aU (ae 0) (aa (ae 1) ah)) ah))
    (aj (bq (aK 2 bT (ae 0) (aa (ae 2) ah)))
    (aA (aq dh (aa (ae 2) ah)))))
def gQ:List D->M D:=fnM 2 [none] kf
def jY:S3:=
    (bq (aK 0 fz (aK 2 aU (ae 0) (aa (ae 1) ah)) ah))
def gR:List D->M D:=fnM 2 [] jY
def fg:S3:=
    (aA (aK 1 gy (aK 2 bi (ae 0) (aa (ae 1) ah)) ah))
def cV:List D->M D:=fnM 2 [] fg
def eY:S3:=
    (aA (aK 1 gr (aK 2 bi (ae 0) (aa (ae 1) ah)) ah))
def cU:List D->M D:=fnM 2 [] eY
def dB:S3:=
    (aj (aV 2 (aK 1 cW (eOp oIx (aT (ae 0) 9) (eOp oIx (ae 1) (eC (.int 1)))) (aa (ae 1) ah)))
    (sIf (tB (eUn mV (ae 2))) (bq (rh (aT (ae 0) 11) (bE (aa (eC (.bl true)) (aa (ae 2) ah))))) aO))
def b9:List D->M D:=fnM 2 [none] dB
def eE:S3:=
    (aj (aV 2 (aK 0 iL (eOp oIx (aT (ae 0) 10) (eOp oIx (ae 1) (eC (.int 0)))) (aa (ae 1) ah)))
    (aj (bq (aK 2 bT (ae 0) (aa (eOp oIx (ae 2) (eC (.int 0))) ah)))
    (aj (sIf (tB (eUn kN (eOp oIx (ae 2) (eC (.int 1))))) (aA (bW ah)) aO)
    (aA (bW (aa (bE (aa (eOp oIx (ae 1) (eC (.int 0))) (aa (eOp oIx (ae 2) (eC (.int 1))) ah))) ah))))))
def cB:List D->M D:=fnM 2 [none] eE
def lP:S3:=
    (aj (aV 3 (eOp oIx (aT (ae 0) 11) (ae 1)))
    (aj (sIf (eF (tOf (ae 2))) (bq (rK (aT (ae 0) 11) (ae 1))) aO)
    (aj (sIf (tOf (eOp oIx (ae 3) (eC (.int 0)))) (aA (aK 2 cB (ae 0) (aa (eOp oIx (ae 3) (eC (.int 1))) ah))) aO)
    (aj (bq (aK 2 b9 (ae 0) (aa (eOp oIx (ae 3) (eC (.int 1))) ah)))
    (aA (bW ah))))))
def cN:List D->M D:=fnM 3 [none] lP
def ko:S3:=
    (aj (sIf (eF (tOf (aT (ae 0) 11))) (nL 1003 (aa (eC (.str "no letter is under way")) ah)) aO)
    (aA (aK 2 cN (ae 0) (aa (eOp oMod (ae 1) (aq dh (aa (aT (ae 0) 11) ah))) (aa (ae 2) ah)))))
def gU:List D->M D:=fnM 3 [] ko
def dN:S3:=
    (aj (li (D7 (aT (ae 0) 11)) (gUn [3,4]) (sIf (tB (eOp oEq (eSl (eOp oIx (ae 4) (eC (.int 1))) wF (nP (eC (.int 2)))) (bE (aa (ae 1) (aa (ae 2) ah))))) (aA (ae 3)) aO))
    (aA (eC .non)))
def bM:List D->M D:=fnM 3 [none,none] dN
def dQ:S3:=
    (aj (bq (aK 2 aU (ae 0) (aa (ae 1) ah)))
    (aj (bq (aK 2 bi (ae 0) (aa (ae 2) ah)))
    (aj (aV 3 (bW ah))
    (aj (aV 4 (aK 2 bM (ae 0) (aa (ae 1) (aa (ae 2) ah))))
    (aj (rU (tB (eUn mV (ae 4))) (aj (bq (vc (ae 3) (aK 2 cN (ae 0) (aa (ae 4) (aa (eC (.bl false)) ah)))))
    (aV 4 (aK 2 bM (ae 0) (aa (ae 1) (aa (ae 2) ah))))))
    (aA (ae 3)))))))
def cn:List D->M D:=fnM 3 [none,none] dQ
def jM:S3:=
    (aj (aV 1 (bW ah))
    (aj (rU (tOf (aT (ae 0) 11)) (bq (vc (ae 1) (aK 2 cN (ae 0) (aa (eC (.int 0)) (aa (eC (.bl false)) ah))))))
    (aA (ae 1))))
def gS:List D->M D:=fnM 1 [none] jM
def kS:S3:=
    (aj (bt (ae 0) 12 (ae 1))
    (aj (bt (ae 0) 13 (ae 2))
    (aj (bt (ae 0) 3 (ae 3))
    (aj (bt (ae 0) 14 (ae 4))
    (aj (bt (ae 0) 15 (eC .non))
    (bt (ae 0) 16 (eC .non)))))))
def iP:List D->M D:=fnM 5 [] kS
def kZ:S3:=
    (aA (bE (aa (aT (ae 0) 12) (aa (aT (ae 0) 13) (aa (aT (ae 0) 3) (aa (aT (ae 0) 14) (aa (aT (ae 0) 15) ah)))))))
def iM:List D->M D:=fnM 1 [] kZ
def jP:S3:=
    (aj (bt (ae 0) 17 (kC 2 gD (aa (ae 1) (aa (ae 2) ah))))
    (aj (bt (ae 0) 18 (bW ah))
    (aj (bt (ae 0) 19 lR)
    (bt (ae 0) 20 (eC (.int 0))))))
def dY:List D->M D:=fnM 3 [] jP
def fL:S3:=
    (aj (aV 4 (aq dh (aa (aT (ae 0) 18) ah)))
    (aj (bq (rh (aT (ae 0) 18) (kC 3 iP (aa (ae 1) (aa (ae 2) (aa (ae 3) (aa (aT (ae 0) 20) ah)))))))
    (aj (dS (aT (ae 0) 19) (ae 1) (ae 4))
    (aA (ae 4)))))
def cm:List D->M D:=fnM 4 [none] fL
def gh:S3:=
    (aj (aV 3 (eOp oIx (aT (ae 0) 19) (ae 1)))
    (aj (aV 4 (eOp oIx (aT (ae 0) 18) (ae 3)))
    (aj (bt (ae 4) 3 (eOp oIx (ae 2) (eC (.int 1))))
    (aj (bt (ae 4) 15 (aT (ae 0) 20))
    (aA (bE (aa (ae 3) (aa (aT (ae 4) 3) ah))))))))
def eA:List D->M D:=fnM 3 [none,none] gh
def fP:S3:=
    (aA (ij (iOf (ae 1)) [0] k9 (aK 4 eA (ae 1) (aa (eOp oIx (ae 0) (eC (.int 0))) (aa (eOp oIx (ae 0) (eC (.int 1))) ah)))))
def bw:List D->M D:=fnM 2 [] fP
def jR:S3:=
    (aj (aV 2 (eOp oIx (ae 1) (eC (.int 0))))
    (aj (sIf (tB (eOp oEq (ae 2) (eC (.str "write")))) (aj (bq (aK 2 gN (aT (ae 0) 17) (aa (eOp oIx (ae 1) (eC (.int 1))) (aa (eOp oIx (ae 1) (eC (.int 2))) ah))))
    (aA (aK 4 cm (ae 0) (aa (eOp oIx (ae 1) (eC (.int 1))) (aa (ae 2) (aa (eOp oIx (ae 1) (eC (.int 2))) ah)))))) aO)
    (aj (sIf (tB (eOp oEq (ae 2) (eC (.str "read")))) (aj (bq (aK 2 iH (aT (ae 0) 17) (aa (eOp oIx (ae 1) (eC (.int 1))) ah)))
    (aA (aK 4 cm (ae 0) (aa (eOp oIx (ae 1) (eC (.int 1))) (aa (ae 2) (aa (eC .non) ah)))))) aO)
    (aj (sIf (tB (eOp oEq (ae 2) (eC (.str "carry")))) (aj (aV 3 (aK 4 bw (ae 0) (aa (aK 2 gU (aT (ae 0) 17) (aa (eOp oIx (ae 1) (eC (.int 1))) (aa (eOp oIx (ae 1) (eC (.int 2))) ah))) ah)))
    (aA (eIf (tOf (ae 3)) (eOp oIx (ae 3) (eC (.int 0))) (eC .non)))) aO)
    (aj (sIf (tB (eOp oEq (ae 2) (eC (.str "pass")))) (aA (aK 4 bw (ae 0) (aa (aK 2 cn (aT (ae 0) 17) (aa (eOp oIx (ae 1) (eC (.int 1))) (aa (eOp oIx (ae 1) (eC (.int 2))) ah))) ah))) aO)
    (aj (sIf (tB (eOp oEq (ae 2) (eC (.str "sweep")))) (aA (aK 4 bw (ae 0) (aa (aK 2 gS (aT (ae 0) 17) ah) ah))) aO)
    (aj (sIf (tB (eOp oEq (ae 2) (eC (.str "again")))) (aA (aK 2 gQ (aT (ae 0) 17) (aa (eOp oIx (ae 1) (eC (.int 1))) ah))) aO)
    (aj (sIf (tB (eOp oEq (ae 2) (eC (.str "quit")))) (aj (bq (aK 2 gR (aT (ae 0) 17) (aa (eOp oIx (ae 1) (eC (.int 1))) ah)))
    (aA (eOp oIx (aT (ae 0) 19) (eOp oIx (ae 1) (eC (.int 1)))))) aO)
    (aj (sIf (tB (eOp oEq (ae 2) (eC (.str "stop")))) (aA (aK 2 cV (aT (ae 0) 17) (aa (eOp oIx (ae 1) (eC (.int 1))) ah))) aO)
    (aA (aK 2 cU (aT (ae 0) 17) (aa (eOp oIx (ae 1) (eC (.int 1))) ah))))))))))))
def gV:List D->M D:=fnM 2 [none,none] jR
def cH:S3:=
    (zh (aK 4 gV (ae 0) (aa (ae 1) ah)) (fun d σ=>(.ret d,σ)) [(fun c=>decide (c=1001),(aA (eC (.str "no hand")))),(fun c=>decide (c=1002),(aA (eC (.str "no keeper")))),(fun c=>decide (c=1003),(aA (eC (.str "no letter")))),(fun c=>decide (c=1004),(aA (eC (.str "busy")))),(fun c=>decide (c=1005),(aA (eC (.str "idle"))))])
def bP:List D->M D:=fnM 2 [] cH
def eI:S3:=
    (yS (aT (ae 0) 19) (gUn [1,2]) (aj (aV 3 (aT (eOp oIx (aT (aT (ae 0) 17) 10) (ae 1)) 4))
    (sIf (tB (eUn mV (ae 3))) (aj (aV 4 (eOp oIx (aT (ae 0) 18) (ae 2)))
    (bt (ae 4) 16 (eOp oIx (ae 3) (eC (.int 0))))) aO)))
def cE:List D->M D:=fnM 1 [none,none,none,none] eI
def ie:S3:=
    (aj (aV 2 (aK 4 bP (ae 0) (aa (ae 1) ah)))
    (aj (bq (aK 4 cE (ae 0) ah))
    (aj (bt (ae 0) 20 (eOp eM (aT (ae 0) 20) (eC (.int 1))))
    (aA (ae 2)))))
def b8:List D->M D:=fnM 2 [none] ie
def pb:S3:=
    (aj (aV 3 (kC 4 dY (aa (ae 0) (aa (ae 1) ah))))
    (aA (ij (iOf (ae 2)) [3] k9 (aK 4 b8 (ae 1) (aa (ae 0) ah)))))
def mn:List D->M D:=fnM 3 [none] pb
def k6:S3:=
    (aj (aV 3 (kC 4 dY (aa (ae 0) (aa (ae 1) ah))))
    (aj (li (iOf (ae 2)) (gNm 4) (bq (aK 4 b8 (ae 3) (aa (ae 4) ah))))
    (aj (aV 5 (ij (iOf (aT (ae 3) 18)) [] k9 (aK 3 iM (ae 0) ah)))
    (aj (aV 6 (ij (iOf (aT (ae 3) 18)) [] k9 (aT (ae 0) 16)))
    (aj (aV 7 (ij (iOf (aT (aT (ae 3) 17) 9)) [] k9 (aT (ae 0) 4)))
    (aA (bE (aa (ae 5) (aa (ae 6) (aa (ae 7) ah))))))))))
def iI:List D->M D:=fnM 3 [none,none,none,none,none] k6
def F4(rec:List D->M D):S3:=
    (aj (sIf (tB (eUn kN (ae 1))) (aA (eUn kN (ae 0))) aO)
    (aj (sIf (tOf (aq (bIs .bl) (aa (ae 1) ah))) (aA (kF (aq (bIs .bl) (aa (ae 0) ah)) (eOp oEq (ae 0) (ae 1)))) aO)
    (aj (sIf (tOf (aq (bIs .int) (aa (ae 1) ah))) (aA (kF (aq (bIs .int) (aa (ae 0) ah)) (kF (DK (aq (bIs .bl) (aa (ae 0) ah))) (eOp oEq (ae 0) (ae 1))))) aO)
    (aj (sIf (tOf (aq (bIs .str) (aa (ae 1) ah))) (aA (kF (aq (bIs .str) (aa (ae 0) ah)) (eOp oEq (ae 0) (ae 1)))) aO)
    (aj (sIf (tOf (aq (bIs .dic) (aa (ae 1) ah))) (aA (kF (aq (bIs .dic) (aa (ae 0) ah)) (aq rec (aa Df (aa Df ah))))) aO)
    (aj (sIf (tB (eOp oNe (aq (bIs .tup) (aa (ae 1) ah)) (aq (bIs .tup) (aa (ae 0) ah)))) (aA (eC (.bl false))) aO)
    (aj (sIf (tOr (tB (eOp oNe (aq (bIs .lst) (aa (ae 1) ah)) (aq (bIs .lst) (aa (ae 0) ah)))) (eF (tOf (aq (A8 [.lst,.tup]) (aa (ae 1) ah))))) (aA (eC (.bl false))) aO)
    (aj (sIf (tB (eOp oNe (aq dh (aa (ae 0) ah)) (aq dh (aa (ae 1) ah)))) (aA (eC (.bl false))) aO)
    (aj (li (jw (aq dh (aa (ae 1) ah))) (gNm 2) (sIf (eF (tOf (aq rec (aa (eOp oIx (ae 0) (ae 2)) (aa (eOp oIx (ae 1) (ae 2)) ah))))) (aA (eC (.bl false))) aO))
    (aA (eC (.bl true))))))))))))
def wC:Nat->List D->M D
 |0=>fnM 2 [none] Im
 |k+1=>fnM 2 [none] (F4 (wC k))
def uY:S3:=
    (aA (kF (aq (bIs .int) (aa (ae 0) ah)) (DK (aq (bIs .bl) (aa (ae 0) ah)))))
def dI:List D->M D:=fnM 1 [] uY
def Ky:S3:=
    (aj (sIf (tB (eOp oLt (ae 1) (aq dh (aa (ae 0) ah)))) (aA (eOp oIx (ae 0) (ae 1))) aO)
    (aA (eC (.int 0))))
def xt:List D->M D:=fnM 2 [] Ky
def nK:S3:=
    (aj (aV 2 (eOp eM (eOp eN (eOp oMod (ae 0) (aq yW (aa (eOp eM (eC (.str "1")) (eOp eN (eC (.str "0")) (eC (.int 88)))) ah))) (eC (.int 100))) (ae 1)))
    (aj (aV 3 (bW (aa (eOp eM (ae 1) (eC (.int 1))) (aa (eOp yH (eOp yH (eC (.int 0)) (ae 1)) (eC (.int 1))) (aa (eOp eM (eOp eN (eC (.int 1000)) (ae 1)) (eC (.int 7))) (aa (ae 2) (aa (eOp yH (eC (.int 0)) (ae 2)) (aa (eC (.int 0)) ah))))))))
    (aA (eOp oIx (ae 3) (eOp oMod (eOp oMod (eOp eN (ae 0) (eC (.int 48271))) (eC (.int 1009))) (eC (.int 6)))))))
def jT:List D->M D:=fnM 2 [none,none] nK
def oR:S3:=
    (aj (aV 4 (eOp oMod (eOp oMod (eOp eN (ae 0) (eC (.int 48271))) (eC (.int 1013))) (eC (.int 20))))
    (aj (aV 5 (eOp oMod (eOp oMod (eOp eN (ae 0) (eC (.int 48271))) (eC (.int 1019))) (ae 3)))
    (aj (aV 6 (eOp oMod (eOp oMod (eOp eN (ae 0) (eC (.int 48271))) (eC (.int 1021))) (ae 2)))
    (aj (sIf (tB (eOp oLt (ae 4) (eC (.int 3)))) (aA (bE (aa (eC (.str "write")) (aa (ae 5) (aa (aq jT (aa (ae 0) (aa (ae 1) ah))) ah))))) aO)
    (aj (sIf (tB (eOp oLt (ae 4) (eC (.int 6)))) (aA (bE (aa (eC (.str "read")) (aa (ae 5) ah)))) aO)
    (aj (sIf (tB (eOp oLt (ae 4) (eC (.int 14)))) (aA (bE (aa (eC (.str "pass")) (aa (ae 5) (aa (ae 6) ah))))) aO)
    (aj (sIf (tB (eOp oLt (ae 4) (eC (.int 16)))) (aj (aV 7 (eOp oMod (eOp oMod (eOp eN (ae 0) (eC (.int 48271))) (eC (.int 1031))) (eC (.int 40))))
    (aj (sIf (tB (eOp oEq (eOp oMod (eOp oMod (eOp eN (ae 0) (eC (.int 48271))) (eC (.int 1049))) (eC (.int 6))) (eC (.int 1)))) (aV 7 (eOp oMod (ae 0) (aq yW (aa (eOp eM (eC (.str "1")) (eOp eN (eC (.str "0")) (eC (.int 90)))) ah)))) aO)
    (aA (bE (aa (eC (.str "carry")) (aa (ae 7) (aa (eOp oGt (eOp oMod (eOp oMod (eOp eN (ae 0) (eC (.int 48271))) (eC (.int 1033))) (eC (.int 3))) (eC (.int 0))) ah))))))) aO)
    (aj (sIf (tB (eOp oEq (ae 4) (eC (.int 18)))) (aA (bE (aa (eC (.str "again")) (aa (ae 5) ah)))) aO)
    (aj (sIf (tB (eOp oEq (ae 4) (eC (.int 19)))) (aA (eOp oIx (bW (aa (bE (aa (eC (.str "quit")) (aa (ae 5) ah))) (aa (bE (aa (eC (.str "sweep")) ah)) ah))) (eOp oMod (eOp oMod (eOp eN (ae 0) (eC (.int 48271))) (eC (.int 1039))) (eC (.int 2))))) aO)
    (aA (eOp oIx (bW (aa (bE (aa (eC (.str "stop")) (aa (ae 6) ah))) (aa (bE (aa (eC (.str "wake")) (aa (ae 6) ah))) ah))) (eOp yH (ae 4) (eC (.int 16))))))))))))))
def jq:List D->M D:=fnM 4 [none,none,none,none] oR
def o5:S3:=
    (aj (aV 3 (eOp oMod (eOp oMod (eOp eN (ae 0) (eC (.int 48271))) (eC (.int 1093))) (eC (.int 4))))
    (aj (sIf (tB (eOp oEq (ae 3) (eC (.int 1)))) (aj (aV 4 (bW (aa (bE (aa (eC (.str "write")) (aa (eC (.int 0)) (aa (eC (.int 7)) ah)))) (aa (bE (aa (eC (.str "carry")) (aa (eC (.int 0)) (aa (eC (.bl true)) ah)))) (aa (bE (aa (eC (.str "carry")) (aa (eC (.int 0)) (aa (eC (.bl true)) ah)))) ah)))))
    (aA (eOp eM (ae 4) (bW (aa (bE (aa (eC (.str "carry")) (aa (ae 1) (aa (eC (.bl false)) ah)))) (aa (bE (aa (eC (.str "carry")) (aa (ae 1) (aa (eC (.bl false)) ah)))) ah)))))) aO)
    (aj (sIf (sJ (tB (eOp oGt (ae 3) (eC (.int 1)))) (sJ (tB (eOp oEq (ae 1) (eC (.int 3)))) (tB (eOp oGt (ae 2) (eC (.int 1)))))) (aj (aV 4 (bW (aa (bE (aa (eC (.str "read")) (aa (eC (.int 0)) ah))) (aa (bE (aa (eC (.str "carry")) (aa (eC (.int 0)) (aa (eC (.bl true)) ah)))) (aa (bE (aa (eC (.str "write")) (aa (eC (.int 1)) (aa (eC (.int 9)) ah)))) ah)))))
    (aj (bq (vc (ae 4) (bW (aa (bE (aa (eC (.str "pass")) (aa (eC (.int 1)) (aa (eC (.int 0)) ah)))) (aa (bE (aa (eC (.str "pass")) (aa (eC (.int 1)) (aa (eC (.int 1)) ah)))) (aa (bE (aa (eC (.str "pass")) (aa (eC (.int 1)) (aa (eC (.int 0)) ah)))) ah))))))
    (aj (bq (vc (ae 4) (bW (aa (bE (aa (eC (.str "carry")) (aa (eC (.int 0)) (aa (eC (.bl true)) ah)))) (aa (bE (aa (eC (.str "carry")) (aa (eC (.int 6)) (aa (eC (.bl false)) ah)))) ah)))))
    (aA (eOp eM (ae 4) (bW (aa (bE (aa (eC (.str "carry")) (aa (eC (.int 3)) (aa (eC (.bl false)) ah)))) (aa (bE (aa (eC (.str "pass")) (aa (eC (.int 0)) (aa (eC (.int 2)) ah)))) ah)))))))) aO)
    (aA (bW ah)))))
def my:List D->M D:=fnM 3 [none,none] o5
def vg:S3:=
    (aj (aV 3 (bW ah))
    (aj (sIf (tB (eOp oNe (ae 0) (bW ah))) (aV 3 (aq my (aa (eOp oIx (ae 0) (eC (.int 0))) (aa (ae 1) (aa (ae 2) ah))))) aO)
    (aj (li (jw (aq dh (aa (ae 0) ah))) (gNm 4) (bq (rh (ae 3) (aq jq (aa (eOp eM (eOp oIx (ae 0) (ae 4)) (eOp eN (eC (.int 7)) (ae 4))) (aa (ae 4) (aa (ae 1) (aa (ae 2) ah))))))))
    (aA (ae 3)))))
def nW:List D->M D:=fnM 3 [none,none] vg
def ng:S3:=
    (aj (sIf (tOr (eF (tOf (aq (bIs .tup) (aa (ae 0) ah)))) (tB (eOp oNe (aq dh (aa (ae 0) ah)) (eC (.int 2))))) (aA (eC (.bl false))) aO)
    (aA (kF (aq dI (aa (eOp oIx (ae 0) (eC (.int 0))) ah)) (aq dI (aa (eOp oIx (ae 0) (eC (.int 1))) ah)))))
def fY:List D->M D:=fnM 1 [] ng
def pj:S3:=
    (aj (sIf (tOr (eF (tOf (aq (bIs .tup) (aa (ae 0) ah)))) (tB (eOp oNe (aq dh (aa (ae 0) ah)) (eC (.int 2))))) (aA (eC (.bl false))) aO)
    (aA (kF (aq fY (aa (eOp oIx (ae 0) (eC (.int 0))) ah)) (aq dI (aa (eOp oIx (ae 0) (eC (.int 1))) ah)))))
def mz:List D->M D:=fnM 1 [] pj
def pE:S3:=
    (aj (sIf (tOr (eF (tOf (aq (bIs .tup) (aa (ae 0) ah)))) (tB (eOp oNe (aq dh (aa (ae 0) ah)) (eC (.int 5))))) (aA (eC (.bl false))) aO)
    (aj (sUn [1,2,3,4,5] (ae 0))
    (aj (sIf (tOr (eF (tOf (aq dI (aa (ae 1) ah)))) (tOr (eF (tOf (aq dI (aa (ae 4) ah)))) (eF (tOf (aq (bIs .str) (aa (ae 2) ah)))))) (aA (eC (.bl false))) aO)
    (aj (sIf (sJ (tB (eUn mV (ae 3))) (eF (tOf (aq dI (aa (ae 3) ah))))) (aA (eC (.bl false))) aO)
    (aA (eOr (eUn kN (ae 5)) (aq dI (aa (ae 5) ah))))))))
def mv:List D->M D:=fnM 1 [none,none,none,none,none] pE
def kK:S3:=
    (aj (sIf (tOr (eF (tOf (aq (bIs .tup) (aa (ae 0) ah)))) (tB (eOp oNe (aq dh (aa (ae 0) ah)) (eC (.int 3))))) (aA (eC (.bl false))) aO)
    (aj (li (iOf (ae 0)) (gNm 2) (sIf (eF (tOf (aq (bIs .lst) (aa (ae 2) ah)))) (aA (eC (.bl false))) aO))
    (aj (li (iOf (eOp oIx (ae 0) (eC (.int 0)))) (gNm 3) (sIf (eF (tOf (aq mv (aa (ae 3) ah)))) (aA (eC (.bl false))) aO))
    (aj (li (iOf (eOp oIx (ae 0) (eC (.int 1)))) (gNm 4) (sIf (sJ (tB (eUn mV (ae 4))) (eF (tOf (aq fY (aa (ae 4) ah))))) (aA (eC (.bl false))) aO))
    (aj (li (iOf (eOp oIx (ae 0) (eC (.int 2)))) (gNm 5) (sIf (eF (tOf (aq mz (aa (ae 5) ah)))) (aA (eC (.bl false))) aO))
    (aA (kF (eOp oEq (aq dh (aa (eOp oIx (ae 0) (eC (.int 0))) ah)) (aq dh (aa (eOp oIx (ae 0) (eC (.int 1))) ah))) (eOp oEq (aq dh (aa (eOp oIx (ae 0) (eC (.int 2))) ah)) (ae 1)))))))))
def iT:List D->M D:=fnM 2 [none,none,none,none] kK
def nH:S3:=
    (aj (aV 3 (aq nV (aa (ae 2) ah)))
    (aj (aV 4 (aq iI (aa (ae 0) (aa (ae 1) (aa (ae 3) ah)))))
    (aj (sIf (tOr (tB (eOp oNe (ae 3) (ae 2))) (eF (tOf (aq iT (aa (ae 4) (aa (ae 0) ah)))))) (aA (eC .non)) aO)
    (aA (ae 4)))))
def jO:List D->M D:=fnM 3 [none,none] nH
def nG:S3:=
    (aj (aV 2 (bW ah))
    (aj (li (jw (ae 1)) (gNm 3) (bq (rh (ae 2) (Ac ["call","own","word","pair","heard"] (aa (eC (.int 0)) (aa (eC (.int 0)) (aa (eC .non) (aa (eC .non) (aa lR ah)))))))))
    (aj (aV 4 (Ac ["pairs","up","hands"] (aa (eOp eN (bW (aa (bE (aa (bE (aa (eC (.int 0)) (aa (eC (.int 0)) ah))) (aa (eC (.int 0)) ah))) ah)) (ae 0)) (aa (eOp eN (bW (aa (eC (.bl true)) ah)) (ae 0)) (aa (ae 2) ah)))))
    (aj (dS (ae 4) (eC (.str "letters")) (bW ah))
    (aj (dS (ae 4) (eC (.str "works")) (bW ah))
    (aj (dS (ae 4) (eC (.str "stamps")) (bW ah))
    (aA (ae 4))))))))
def jQ:List D->M D:=fnM 2 [none,none,none] nG
def yG:S3:=
    (aj (aV 2 (eOp oIx (eOp oIx (ae 0) (eC (.str "hands"))) (ae 1)))
    (aj (aV 3 (eC (.int 0)))
    (aj (li (jw (aq dh (aa (eOp oIx (ae 0) (eC (.str "up"))) ah))) (gNm 4) (sIf (tB (eOp lT (ae 4) (eOp oIx (ae 2) (eC (.str "heard"))))) (aj (bq (rh (eOp oIx (ae 0) (eC (.str "letters"))) (bE (aa (eC (.bl true)) (aa (ae 1) (aa (ae 4) (aa (eOp oIx (ae 2) (eC (.str "call"))) (aa (eOp oIx (ae 2) (eC (.str "pair"))) ah))))))))
    (aV 3 (eOp eM (ae 3) (eC (.int 1))))) aO))
    (aA (ae 3)))))
def nI:List D->M D:=fnM 2 [none,none,none] yG
def rG:S3:=
    (aj (aV 2 (eOp oIx (eOp oIx (ae 0) (eC (.str "hands"))) (ae 1)))
    (aj (aV 3 (bE (aa (bE (aa (eC (.int 0)) (aa (eC (.int 0)) ah))) (aa (eC (.int 0)) ah))))
    (aj (li (iOf (Cu (eOp oIx (ae 2) (eC (.str "heard"))))) (gNm 4) (sIf (tB (eOp oGt (eOp oIx (eOp oIx (eOp oIx (ae 2) (eC (.str "heard"))) (ae 4)) (eC (.int 0))) (eOp oIx (ae 3) (eC (.int 0))))) (aV 3 (eOp oIx (eOp oIx (ae 2) (eC (.str "heard"))) (ae 4))) aO))
    (aj (sIf (tB (eOp oEq (eOp oIx (ae 2) (eC (.str "word"))) (eC (.str "write")))) (aj (dS (ae 2) (eC (.str "own")) (eOp eM (eC (.int 1)) (aq wQ (aa (eOp oIx (ae 2) (eC (.str "own"))) (aa (eOp oIx (eOp oIx (ae 3) (eC (.int 0))) (eC (.int 0))) ah)))))
    (aV 3 (bE (aa (bE (aa (eOp oIx (ae 2) (eC (.str "own"))) (aa (ae 1) ah))) (aa (eOp oIx (eOp oIx (eOp oIx (ae 0) (eC (.str "works"))) (eOp oIx (ae 2) (eC (.str "place")))) (eC (.int 2))) ah))))) aO)
    (aj (dS (eOp oIx (ae 0) (eC (.str "stamps"))) (eOp oIx (ae 2) (eC (.str "place"))) (eOp oIx (ae 3) (eC (.int 0))))
    (aj (dS (ae 2) (eC (.str "pair")) (ae 3))
    (aj (dS (ae 2) (eC (.str "call")) (eOp eM (eOp oIx (ae 2) (eC (.str "call"))) (eC (.int 1))))
    (aj (dS (ae 2) (eC (.str "heard")) lR)
    (bq (aq nI (aa (ae 0) (aa (ae 1) ah))))))))))))
def oB:List D->M D:=fnM 2 [none,none,none] rG
def vm:S3:=
    (aj (sUn [3,4,5,6,7] (ae 1))
    (aj (aV 8 (eOp oIx (eOp oIx (ae 0) (eC (.str "hands"))) (ae 4)))
    (aj (sIf (tOr (tB (eUn kN (eOp oIx (ae 8) (eC (.str "word"))))) (tB (eOp oNe (ae 6) (eOp oIx (ae 8) (eC (.str "call")))))) (aA (bW ah)) aO)
    (aj (dS (eOp oIx (ae 8) (eC (.str "heard"))) (ae 5) (ae 7))
    (aj (sIf (tB (eOp oLe (eOp eN (eC (.int 2)) (aq dh (aa (eOp oIx (ae 8) (eC (.str "heard"))) ah))) (aq dh (aa (eOp oIx (ae 0) (eC (.str "up"))) ah)))) (aA (bW ah)) aO)
    (aj (sIf (tB (eUn kN (eOp oIx (ae 8) (eC (.str "pair"))))) (aj (bq (aq oB (aa (ae 0) (aa (ae 4) ah))))
    (aA (bW ah))) aO)
    (aj (aV 9 (eOp oIx (eOp oIx (ae 0) (eC (.str "works"))) (eOp oIx (ae 8) (eC (.str "place")))))
    (aj (dS (eOp oIx (ae 0) (eC (.str "works"))) (eOp oIx (ae 8) (eC (.str "place"))) (bE (aa (ae 4) (aa (eOp oIx (ae 9) (eC (.int 1))) (aa (eOp oIx (eOp oIx (ae 8) (eC (.str "pair"))) (eC (.int 1))) (aa (eOp oIx (ae 9) (eC (.int 3))) (aa (ae 2) ah)))))))
    (aj (dS (ae 8) (eC (.str "word")) (eC .non))
    (aA (bW (aa (bE (aa (eOp oIx (ae 8) (eC (.str "place"))) (aa (eOp oIx (eOp oIx (ae 8) (eC (.str "pair"))) (eC (.int 1))) ah))) ah))))))))))))
def qH:List D->M D:=fnM 3 [none,none,none,none,none,none,none] vm
def mf:S3:=
    (aj (sUn [3,4,5,6,7] (ae 1))
    (aj (sIf (eF (tOf (ae 3))) (aA (aq qH (aa (ae 0) (aa (ae 1) (aa (ae 2) ah))))) aO)
    (aj (sIf (tOf (eOp oIx (eOp oIx (ae 0) (eC (.str "up"))) (ae 5))) (aj (sIf (sJ (tB (eUn mV (ae 7))) (tB (eOp oGt (eOp oIx (ae 7) (eC (.int 0))) (eOp oIx (eOp oIx (eOp oIx (ae 0) (eC (.str "pairs"))) (ae 5)) (eC (.int 0)))))) (dS (eOp oIx (ae 0) (eC (.str "pairs"))) (ae 5) (ae 7)) aO)
    (bq (rh (eOp oIx (ae 0) (eC (.str "letters"))) (bE (aa (eC (.bl false)) (aa (ae 4) (aa (ae 5) (aa (ae 6) (aa (eOp oIx (eOp oIx (ae 0) (eC (.str "pairs"))) (ae 5)) ah))))))))) aO)
    (aA (bW ah)))))
def fu:List D->M D:=fnM 3 [none,none,none,none,none] mf
def m5:S3:=
    (aj (aV 3 (bW ah))
    (aj (aV 4 (eC (.bl true)))
    (aj (rU (tOf (ae 4)) (aj (aV 4 (eC (.bl false)))
    (li (iOf (aq nV (aa (eOp oIx (ae 0) (eC (.str "letters"))) ah))) (gNm 5) (aj (aV 6 (eOr (eOp oEq (eOp oIx (ae 1) (eC (.int 0))) (eC (.str "sweep"))) (kF (eOp oEq (eOp oIx (ae 5) (eC (.int 1))) (eOp oIx (ae 1) (eC (.int 1)))) (eOp oEq (eOp oIx (ae 5) (eC (.int 2))) (eOp oIx (ae 1) (eC (.int 2)))))))
    (sIf (sJ (tOf (ae 6)) (eF (tOf (ae 4)))) (aj (bq (IS (eOp oIx (ae 0) (eC (.str "letters"))) (ae 5)))
    (aj (bq (vc (ae 3) (aq fu (aa (ae 0) (aa (ae 5) (aa (ae 2) ah))))))
    (aV 4 (eC (.bl true))))) aO)))))
    (aA (ae 3)))))
def j5:List D->M D:=fnM 3 [none,none,none,none] m5
def ig:S3:=
    (aj (aV 3 (eOp oIx (eOp oIx (ae 0) (eC (.str "hands"))) (eOp oIx (ae 1) (eC (.int 1)))))
    (aj (sIf (tOr (tB (eOp oEq (eOp oIx (ae 1) (eC (.int 0))) (eC (.str "write")))) (tB (eOp oEq (eOp oIx (ae 1) (eC (.int 0))) (eC (.str "read"))))) (aj (sIf (tB (eUn mV (eOp oIx (ae 3) (eC (.str "word"))))) (aA (eC (.str "busy"))) aO)
    (aj (dS (ae 3) (eC (.str "word")) (eOp oIx (ae 1) (eC (.int 0))))
    (aj (dS (ae 3) (eC (.str "pair")) (eC .non))
    (aj (dS (ae 3) (eC (.str "heard")) lR)
    (aj (dS (ae 3) (eC (.str "call")) (eOp eM (eOp oIx (ae 3) (eC (.str "call"))) (eC (.int 1))))
    (aj (dS (ae 3) (eC (.str "place")) (aq dh (aa (eOp oIx (ae 0) (eC (.str "works"))) ah)))
    (aj (bq (rh (eOp oIx (ae 0) (eC (.str "works"))) (bE (aa (eOp oIx (ae 1) (eC (.int 1))) (aa (eOp oIx (ae 1) (eC (.int 0))) (aa (eOp oIx (eOp eM (ae 1) (bE (aa (eC .non) ah))) (eC (.int 2))) (aa (ae 2) (aa (eC .non) ah))))))))
    (aj (bq (rh (eOp oIx (ae 0) (eC (.str "stamps"))) (eC .non)))
    (aj (bq (aq nI (aa (ae 0) (aa (eOp oIx (ae 1) (eC (.int 1))) ah))))
    (aA (eOp oIx (ae 3) (eC (.str "place"))))))))))))) aO)
    (aj (sIf (tB (eUn kN (eOp oIx (ae 3) (eC (.str "word"))))) (aA (eC (.str "idle"))) aO)
    (aj (sIf (tB (eOp oEq (eOp oIx (ae 1) (eC (.int 0))) (eC (.str "again")))) (aA (aq nI (aa (ae 0) (aa (eOp oIx (ae 1) (eC (.int 1))) ah)))) aO)
    (aj (dS (ae 3) (eC (.str "word")) (eC .non))
    (aA (eOp oIx (ae 3) (eC (.str "place")))))))))
def eT:List D->M D:=fnM 3 [none] ig
def cZ:S3:=
    (aj (sIf (tOr (tB (eOp oEq (eOp oIx (ae 1) (eC (.int 0))) (eC (.str "sweep")))) (tB (eOp oEq (eOp oIx (ae 1) (eC (.int 0))) (eC (.str "pass"))))) (aA (aq j5 (aa (ae 0) (aa (ae 1) (aa (ae 2) ah))))) aO)
    (aj (sIf (tOr (tB (eOp oEq (eOp oIx (ae 1) (eC (.int 0))) (eC (.str "stop")))) (tB (eOp oEq (eOp oIx (ae 1) (eC (.int 0))) (eC (.str "wake"))))) (aj (aV 3 (eOp oIx (eOp oIx (ae 0) (eC (.str "up"))) (eOp oIx (ae 1) (eC (.int 1)))))
    (aj (dS (eOp oIx (ae 0) (eC (.str "up"))) (eOp oIx (ae 1) (eC (.int 1))) (eOp oEq (eOp oIx (ae 1) (eC (.int 0))) (eC (.str "wake"))))
    (aA (eOp oNe (ae 3) (eOp oIx (eOp oIx (ae 0) (eC (.str "up"))) (eOp oIx (ae 1) (eC (.int 1)))))))) aO)
    (aj (sIf (tB (eOp oNe (eOp oIx (ae 1) (eC (.int 0))) (eC (.str "carry")))) (aA (aq eT (aa (ae 0) (aa (ae 1) (aa (ae 2) ah))))) aO)
    (aj (sIf (tB (eOp oEq (eOp oIx (ae 0) (eC (.str "letters"))) (bW ah))) (aA (eC (.str "no letter"))) aO)
    (aj (aV 4 (eOp oMod (eOp oIx (ae 1) (eC (.int 1))) (aq dh (aa (eOp oIx (ae 0) (eC (.str "letters"))) ah))))
    (aj (aV 5 (eOp oIx (eOp oIx (ae 0) (eC (.str "letters"))) (ae 4)))
    (aj (sIf (eF (tOf (eOp oIx (ae 1) (eC (.int 2))))) (bq (rK (eOp oIx (ae 0) (eC (.str "letters"))) (ae 4))) aO)
    (aA (eOp oIx (eOp eM (aq fu (aa (ae 0) (aa (ae 5) (aa (ae 2) ah)))) (bW (aa (eC .non) ah))) (eC (.int 0)))))))))))
def bR:List D->M D:=fnM 3 [none,none,none] cZ
def iR:S3:=
    (aj (sIf (tB (eUn kN (ae 1))) (aA (eUn kN (ae 0))) aO)
    (aj (sIf (tOf (aq (bIs .str) (aa (ae 1) ah))) (aA (kF (aq (bIs .str) (aa (ae 0) ah)) (eOp oEq (ae 0) (ae 1)))) aO)
    (aj (sIf (tOf (aq (bIs .bl) (aa (ae 1) ah))) (aA (kF (aq (bIs .bl) (aa (ae 0) ah)) (eOp oEq (ae 0) (ae 1)))) aO)
    (aj (sIf (tOf (aq (bIs .tup) (aa (ae 1) ah))) (aA (kF (aq (bIs .tup) (aa (ae 0) ah)) (eOp oEq (ae 0) (ae 1)))) aO)
    (aj (sIf (tOf (aq (bIs .lst) (aa (ae 1) ah))) (aA (kF (aq (bIs .lst) (aa (ae 0) ah)) (eOp oEq (ae 0) (ae 1)))) aO)
    (aA (kF (aq dI (aa (ae 0) ah)) (eOp oEq (ae 0) (ae 1)))))))))
def mw:List D->M D:=fnM 2 [] iR
def yt:S3:=
    (aj (sIf (tB (eOp oGt (aq dh (aa (ae 0) ah)) (eC (.int 63)))) (aA (ae 2)) aO)
    (aA (ae 1)))
def rQ:List D->M D:=fnM 3 [] yt
def D5:S3:=
    (aj (aV 1 (eOp oIx (bW (aa (eC (.int 3)) (aa (eC (.int 3)) (aa (eC (.int 3)) (aa (eC (.int 1)) (aa (eC (.int 2)) (aa (eC (.int 4)) (aa (eC (.int 5)) (aa (eC (.int 3)) (aa (eC (.int 7)) (aa (eC (.int 8)) (aa (eC (.int 9)) (aa (eC (.int 3)) ah))))))))))))) (eOp oMod (eOp oMod (eOp eN (aq xt (aa (ae 0) (aa (eC (.int 0)) ah))) (eC (.int 48271))) (eC (.int 1049))) (eC (.int 12)))))
    (aj (aV 2 (eOp oIx (bW (aa (eC (.int 2)) (aa (eC (.int 2)) (aa (eC (.int 3)) (aa (eC (.int 1)) (aa (eC (.int 2)) (aa (eC (.int 3)) (aa (eC (.int 2)) (aa (eC (.int 9)) ah))))))))) (eOp oMod (eOp oMod (eOp eN (aq xt (aa (ae 0) (aa (eC (.int 0)) ah))) (eC (.int 48271))) (eC (.int 1051))) (eC (.int 8)))))
    (aj (aV 3 (aq nW (aa (eSl (ae 0) (nP (eC (.int 1))) (nP (eOp eM (eC (.int 1)) (aq rQ (aa (ae 0) (aa (eC (.int 16)) (aa (eC (.int 100)) ah))))))) (aa (ae 1) (aa (ae 2) ah)))))
    (aj (aV 4 (aq nV (aa (ae 3) ah)))
    (aj (aV 5 (aq mn (aa (ae 1) (aa (ae 2) (aa (ae 4) ah)))))
    (aj (sIf (tOr (eF (tOf (aq (bIs .lst) (aa (ae 5) ah)))) (tOr (tB (eOp oNe (aq dh (aa (ae 5) ah)) (aq dh (aa (ae 3) ah)))) (tB (eOp oNe (ae 4) (ae 3))))) (aA (eC (.bl false))) aO)
    (aj (aV 6 (aq jQ (aa (ae 1) (aa (ae 2) ah))))
    (aj (li (jw (aq dh (aa (ae 3) ah))) (gNm 7) (sIf (eF (tOf (aq mw (aa (eOp oIx (ae 5) (ae 7)) (aa (aq bR (aa (ae 6) (aa (eOp oIx (ae 3) (ae 7)) (aa (ae 7) ah)))) ah))))) (aA (eC (.bl false))) aO))
    (aj (aV 8 (aq jO (aa (ae 1) (aa (ae 2) (aa (ae 3) ah)))))
    (aj (sIf (tOr (tB (eUn kN (ae 8))) (eF (tOf (aq (wC 9) (aa (eOp oIx (ae 8) (eC (.int 0))) (aa (eOp oIx (ae 6) (eC (.str "works"))) ah)))))) (aA (eC (.bl false))) aO)
    (aj (sIf (eF (tOf (aq (wC 9) (aa (eOp oIx (ae 8) (eC (.int 1))) (aa (eOp oIx (ae 6) (eC (.str "stamps"))) ah))))) (aA (eC (.bl false))) aO)
    (aA (aq (wC 9) (aa (eOp oIx (ae 8) (eC (.int 2))) (aa (eOp oIx (ae 6) (eC (.str "pairs"))) ah)))))))))))))))
def pL:List D->M D:=fnM 1 [none,none,none,none,none,none,none,none] D5
end KC
namespace KH
open PySem M3
def Chg(S:List Nat)(G G':Hh):Prop:=G.length<=G'.length/\∀n,n < G.length->n∉S->G'[n]? =G[n]?
def Chg.refl(S:List Nat)(G:Hh):Chg S G G:=⟨qO_ _,fun _ _ _=>rfl⟩
theorem Chg.trans{S:List Nat}{A B C:Hh}(a:Chg S A B)(b:Chg S B C):Chg S A C:=
 ⟨Nat.le_trans a.1 b.1,fun n hn hs=>(b.2 n (qd_ hn a.1) hs).trans (a.2 n hn hs)⟩
def Chg.trans'{S T:List Nat}{A B C:Hh}(a:Chg S A B)(b:Chg T B C)(h:∀n∈T,n∈S\/A.length<=n):Chg S A C:=
 ⟨Nat.le_trans a.1 b.1,fun n hn hs=>(b.2 n (qd_ hn a.1) (fun z=>(h n z).elim hs fun w=>qe_ _ (qd_ hn w))).trans (a.2 n hn hs)⟩
def Chg.mono{S T:List Nat}{A B:Hh}(a:Chg S A B)(h:∀n∈S,n∈T):Chg T A B:=⟨a.1,fun n hn hs=>a.2 n hn fun z=>hs (h n z)⟩
def Chg.add{S:List Nat}(G:Hh)(o:O):Chg S G (G++[o]):=⟨by simp,fun n hn _=>qK_ hn⟩
theorem Chg.set{S:List Nat}(G:Hh){n:Nat}(o:O)(h:n∈S):Chg S G (G.set n o):=⟨by simp,fun m hm hs=>by
 rw[qV_ (by rintro rfl;exact hs h)]⟩
def Chg.get{S:List Nat}{A B:Hh}(a:Chg S A B){n:Nat}{o:O}(h:A[n]? =some o)(hs:n∉S):B[n]? =some o:=by
 rw[a.2 n (qB_.mp h).1 hs];exact h
def Ext.chg(a:Ext A B):Chg S A B:=by
 obtain⟨r,rfl⟩:=a;exact⟨by simp,fun n hn _=>qK_ hn⟩
def ar{G:Hh}{n:Nat}{o:O}(h:G[n]? =some o):n < G.length:=(qB_.mp h).1
def fy{G:Hh}(h:G[l]? =some o):(G.set l o')[l]? =some o':=qU_ (qB_.mp h).1
section
variable{G G':Hh}{E:Nat->Hh->Prop}{σ:St}{Q:D->Hh->Prop}{QU:Unit->Hh->Prop}{QA:List D->Hh->Prop}{QS:Fl×St->Hh->Prop}
def aL{fs:List (Nat×D)}(hn:G[n]? =some (.ins C fs))(hl:C < 1000/\fs.length < 1000)(h:∀G',Chg [n] G G'->G'.length=G.length->G'[n]? =some (.ins C (putN f y fs))->QU () G'):run (Bm (.ref n) f y) G QU E:=
 Ld hn hl (h _ (Chg.set _ _ qI_) (by simp) (fy hn))
def cq{n:Nat}{kvs:List (Key×D)}{i v:D}{k:Key}(hn:G[n]? =some (.dK kvs))(hk:qW i=some k)(hl:kvs.length < aw)(h:∀G',Chg [n] G G'->G'.length=G.length->G'[n]? =some (.dK (put kvs k v))->QU () G'):run (vE (.ref n) i v) G QU E:=
 J6 hn hk hl (h _ (Chg.set _ _ qI_) (by simp) (fy hn))
def dm{n:Nat}{xs:List D}{y:D}(hl:G[n]? =some (.lst xs))(hz:xs.length < aw)(h:∀G',Chg [n] G G'->G'.length=G.length->G'[n]? =some (.lst (xs++[y]))->Q .non G'):run (kb (.ref n) y) G Q E:=
 Ew hl hz (h _ (Chg.set _ _ qI_) (by simp) (fy hl))
def gk{n m:Nat}{xs ys:List D}(hn:G[n]? =some (.lst xs))(hm:G[m]? =some (.lst ys))(hl:xs.length+ys.length<=aw)(h:∀G',Chg [n] G G'->G'.length=G.length->G'[n]? =some (.lst (xs++ys))->Q .non G'):run (jS (.ref n) (.ref m)) G Q E:=
 Bi hn hm hl (h _ (Chg.set _ _ qI_) (by simp) (fy hn))
def jm(h:∀G',Chg [] G G'->G'.length=G.length+1->G'[G.length]? =some (.dK [])->Q (.ref G.length) G'):run (lR σ) G Q E:=h _ (Chg.add _ _) (by simp) (aM _ _)
def cD(h:∀G',Chg [] G G'->G'.length=G.length+1->G'[G.length]? =some (.lst [])->Q (.ref G.length) G'):run (bW ah σ) G Q E:=DV (ax ⟨qf_ _,h _ (Chg.add _ _) (by simp) (aM _ _)⟩)
def lZ{g:List D->M D}{a:A3}(h:run (a σ) G (fun ds G1=>∀G2,Chg [] G1 G2->G2.length=G1.length+1->G2[G1.length]? =some (.ins C [])->run (g (.ref G1.length :: ds)) G2 (fun r G3=>r= .non/\Q (.ref G1.length) G3) E) E):run (kC C g a σ) G Q E:=
 JI (ak h (fun ds G1 q=>q _ (Chg.add _ _) (by simp) (aM _ _)) fun _ _ z=>z)
def oG{α:Type}{f:α->D}{p:α->Bool}{g:α->D}{xs:List α}{ck:Hh->Bool}{cond:D->M Bool}{elt:D->M D}(wo:ck G=true)(hz:xs.length<=1000000)
 (hc:∀x∈xs,run (cond (f x)) G (fun c G1=>G1=G/\c=p x) E) (he:∀x∈xs,p x=true->run (elt (f x)) G (fun y G1=>G1=G/\y=g x) E)
 (h:QA ((xs.filter p).map g) G):run (cg ck cond elt (xs.map f) []) G QA E:=by
 refine jX (fun i acc G'=>G'=G/\acc=((xs.take i).filter p).map g) ?_ ?_ ?_ (xs.map f) 0 [] G List.drop_zero (qf_ _) ⟨rfl,by simp⟩
 · rintro i acc G' ⟨rfl,_⟩;exact wo
 · rintro i x acc G' hx ⟨rfl,rfl⟩;obtain⟨y,hy,rfl⟩:=qO hx;have hm:=qD_ hy;refine ak (hc y hm) (fun c G1 ⟨e1,e2⟩=>?_) fun _ _ z=>z;subst e1 e2;have e3:((xs.take (i+1)).filter p).map g=((xs.take i).filter p).map g++(if p y=true then [g y]else []):=by
    rw[take_succ hy,List.filter_append,qT_];cases q:p y <;> simp [q]
   cases q:p y with
   |true=>
    rw[if_pos rfl];refine ak (he y hm q) (fun v G2 ⟨e1,e2⟩=>?_) fun _ _ z=>z;subst e1 e2;refine⟨?_,rfl,?_⟩
    · have:=List.length_filter_le p (xs.take i);simp [aw];rw[List.length_take]at this;omega
    · rw[e3,q];rfl
   |false=>rw[if_neg qC_];refine⟨rfl,?_⟩;rw[e3,q];simp
 · rintro acc G' ⟨rfl,rfl⟩;rw[qM_,List.take_length];exact h
theorem vM{t:T3}{body:S3}(P:St->Hh->Nat->Prop)(hs:∀σ G m,P σ G m->run (t σ) G (fun c G1=>if c=true then run (body σ) G1 (fun p G2=>match p.1 with
 | .next=>∃m',m' < m/\P p.2 G2 m'
 | .cont=>∃m',m' < m/\P p.2 G2 m'
 | .brk=>QS (.next,p.2) G2
 | .ret d=>QS (.ret d,p.2) G2) E else QS (.next,σ) G1) E):∀(k:Nat) (σ:St) (G:Hh) (m:Nat),m < k->P σ G m->run (kc t body k σ) G QS E
 |0,_,_,_,h,_=>absurd h (Nat.not_lt_zero _)
 |k+1,σ,G,m,hm,p=>by
  show run (bnd (t σ) fun c=>if c then bnd (body σ) (fun p=>match p.1 with
   | .next=>kc t body k p.2
   | .cont=>kc t body k p.2
   | .brk=>ret (.next,p.2)
   | .ret d=>ret (.ret d,p.2))else ret (.next,σ)) G QS E
  refine aB (ak (hs σ G m p) (fun c G1 q=>?_) fun _ _ z=>z);cases c with
  |false=>exact q
  |true=>
   refine aB (ak q (fun r G2 q2=>?_) fun _ _ z=>z);obtain⟨f,σ'⟩:=r;cases f with
   |next=>obtain⟨m',h1,h2⟩:=q2;exact vM P hs k σ' G2 m' (by omega) h2
   |cont=>obtain⟨m',h1,h2⟩:=q2;exact vM P hs k σ' G2 m' (by omega) h2
   |brk=>exact q2
   |ret d=>exact q2
def sG{t:T3}{body:S3}{m:Nat}(P:St->Hh->Nat->Prop)(hs:∀σ G m,P σ G m->run (t σ) G (fun c G1=>if c=true then run (body σ) G1 (fun p G2=>match p.1 with
 | .next=>∃m',m' < m/\P p.2 G2 m'
 | .cont=>∃m',m' < m/\P p.2 G2 m'
 | .brk=>QS (.next,p.2) G2
 | .ret d=>QS (.ret d,p.2) G2) E else QS (.next,σ) G1) E) (hm:m < 1000000000) (h:P σ G m):run (rU t body σ) G QS E:=vM P hs vf σ G m hm h
end
end KH
namespace KS
open PySem M3 KC KH
abbrev Pr:=(Int×Int)×Int
def pD(p:Pr):D:= .tup [.tup [.int p.1.1,.int p.1.2],.int p.2]
def opD:Option Pr->D
 |none=>.non
 |some p=>pD p
def oD:Option Int->D
 |none=>.non
 |some i=>.int i
def nY(o:Option Pr):decide (opD o= .non)=o.isNone:=by cases o <;> rfl
def Ck(o:Option Int):decide (oD o= .non)=o.isNone:=by cases o <;> rfl
structure Lt where
 hand:Nat
 kpr:Nat
 num:Int
 pair:Option Pr
def ltD(l:Lt):D:= .tup [.int (l.hand:Int),.int (l.kpr:Int),.int l.num,opD l.pair]
def enD(e:Bool×Lt):D:= .tup [.bl e.1,ltD e.2]
def gtS(a b:Int×Int):Bool:=sU [b.1,b.2] [a.1,a.2]
def better(b p:Pr):Pr:=if gtS p.1 b.1 then p else b
def start:Pr:=((0,0),0)
def iO(ps:List Pr):Pr:=ps.foldl better start
def turns(ps:List Pr):List Int:=ps.map fun p=>p.1.1
def mO(ps:List Pr)(own:Int):Int:=match turns ps++[own]with
 |m :: r=>iB m r
 | []=>0
structure Kr where
 pair:Pr
 up:Bool
def krF(k:Kr):List (Nat×D):=[(4,pD k.pair),(8,.bl k.up)]
structure Hd where
 num:Nat
 cnt:Nat
 atw:Bool
 val:Option Int
 pair:Option Pr
 rnd:Int
 av:List (Nat×Option Pr)
 own:Int
def hdF(h:Hd)(d:Nat):List (Nat×D):=[(0,.int (h.num:Int)),(1,.int (h.cnt:Int)),(2,.bl h.atw),(3,oD h.val),(4,opD h.pair),(5,.int h.rnd),(6,.ref d),(7,.int h.own)]
def dU(l:List (Nat×Option Pr)):List (Key×D):=l.map fun e=>(.inl (e.1:Int),opD e.2)
def iy(G:Hh)(a:Nat)(k:Kr):Prop:=G[a]? =some (.ins 1 (krF k))
def fV(G:Hh)(a d:Nat)(h:Hd):Prop:=G[a]? =some (.ins 0 (hdF h d))/\G[d]? =some (.dK (dU h.av))
section
variable{G:Hh}{Q:D->Hh->Prop}{E:Nat->Hh->Prop}
def AU(h:Q (.bl (decide (c < m*2))) G):run (mD [.int c,.int m]) G Q E:=by
 walk_at "f";unfold oQ;lia;exact h
def Et{ps:List Pr}(hl:G[l]? =some (.lst (ps.map pD)))(h:Q (pD (iO ps)) G):run (n0 [.ref l]) G Q E:=by
 walk_at "f";unfold rH;lia;refine eP hl ?_;refine jI (fun i σ G'=>G'=G/\∃x,σ=[some (.ref l),some (pD ((ps.take i).foldl better start)),x]) ?_ ?_ ?_ ⟨rfl,none,rfl⟩
 · rintro i σ G' ⟨rfl,_⟩;exact qZ_ hl
 · rintro i p σ G' hp ⟨rfl,y,rfl⟩;unfold pD;lia;have key:(ps.take (i+1)).foldl better start=better ((ps.take i).foldl better start) p:=by rw[take_succ hp,List.foldl_append];rfl
   refine w_ite (fun c=>?_) fun c=>?_
   · lia;refine⟨rfl,some (pD p),?_⟩
     have:(ps.take (i+1)).foldl better start=p:=(by rw[key,better,if_pos (show gtS p.1 _=true from c)]);rw[this];rfl
   · lia;refine⟨rfl,some (pD p),?_⟩
     have:(ps.take (i+1)).foldl better start=(ps.take i).foldl better start:=by rw[key,better,if_neg (by rw[show gtS p.1 _=false from c];exact qC_)]
     rw[this];rfl
 · rintro σ G' ⟨rfl,y,rfl⟩;lia;rw[List.take_length];exact h
def sN{ps:List Pr}(hl:G[l]? =some (.lst (ps.map pD)))(hz:ps.length<=1000)(h:∀G',Ext G G'->Q (.tup [.int (mO ps own+1),.int hand]) G'):run (gn [.ref l,.int own,.int hand]) G Q E:=by
 walk_at "f";unfold iZ;lia;refine eP hl ?_;refine oG (p:=fun _=>true) (g:=fun p:Pr=>D.int p.1.1) (qZ_ hl) (by omega) (fun x _=>jA ⟨rfl,rfl⟩) (fun x _ _=>?_) ?_
 · unfold pD;lia;exact⟨rfl,rfl⟩
 have e1:(ps.filter fun _=>true).map (fun p:Pr=>D.int p.1.1)=(turns ps).map D.int:=by rw[List.filter_eq_self.mpr (fun _ _=>rfl)];unfold turns;rw[qb_];rfl
 rw[e1];lia;have tl:(turns ps).length=ps.length:=by unfold turns;rw[qM_]
 refine Ds ((Ext.add _ _).get (aM G _)) (aM _ _) (by rw[qM_,tl];simp [aw];omega) ?_;lia;have e2:intsOf ((turns ps).map D.int++[.int own])=some (turns ps++[own]):=by
  induction turns ps with
  |nil=>rfl
  |cons a r ih=>show Option.map _ (intsOf (r.map D.int++[.int own]))=_;rw[ih];rfl
 cases q:turns ps++[own]with
 |nil=>simp at q
 |cons m r=>
  rw[q]at e2;refine JY (aM _ _) e2 ?_;lia;have e3:mO ps own=iB m r:=by unfold mO;rw[q]
  rw[<-e3];exact h _ (((Ext.add _ _).trans (Ext.add _ _)).trans (Ext.add _ _))
variable{a d:Nat}{k:Kr}{h:Hd}
def Lw{Q:D->Hh->Prop}(hk:iy G a k)(hq:∀G',Chg [a] G G'->iy G' a {k with up:=false}->Q (.bl k.up) G'):run (gy [.ref a]) G Q E:=by
 unfold iy krF at hk;walk_at "f";unfold jd;lia;refine aL hk ⟨by decide,qP_ rfl⟩ fun G' hc hl hn=>?_;lia;exact hq G' hc hn
def Kt{Q:D->Hh->Prop}(hk:iy G a k)(hq:∀G',Chg [a] G G'->iy G' a {k with up:=true}->Q (.bl (!k.up)) G'):run (gr [.ref a]) G Q E:=by
 unfold iy krF at hk;walk_at "f";unfold jf;lia;refine aL hk ⟨by decide,qP_ rfl⟩ fun G' hc hl hn=>?_;lia;exact hq G' hc hn
def qe(k:Kr)(p:Pr):Kr:=if gtS p.1 k.pair.1 then {k with pair:=p} else k
def JD{Q:D->Hh->Prop}(hk:iy G a k)(hq:∀G',Chg [a] G G'->iy G' a (qe k p)->Q .non G'):run (gz [.ref a,pD p]) G Q E:=by
 unfold iy krF at hk;walk_at "f";unfold jg pD;lia;unfold qe at hq;refine w_ite (fun c=>?_) fun c=>?_
 · rw[if_pos (show gtS p.1 k.pair.1=true from c)]at hq;lia;refine aL hk ⟨by decide,qP_ rfl⟩ fun G' hc hl hn=>?_;lia;exact hq G' hc hn
 · rw[if_neg (by rw[show gtS p.1 k.pair.1=false from c];exact qC_)]at hq;lia;exact hq G (Chg.refl _ _) hk
def bp(k:Kr)(l:Lt):Kr×Option Lt:=
 if k.up then (match l.pair with
  |none=>(k,some {l with pair:=some k.pair})
  |some p=>(qe k p,some {l with pair:=none}))else (k,none)
def PX:Option Lt->D
 |none=>.non
 |some l=>ltD l
def wV{Q:D->Hh->Prop}(hk:iy G a k)(hq:∀G',Chg [a] G G'->iy G' a (bp k l).1->Q (PX (bp k l).2) G'):run (cW [.ref a,ltD l]) G Q E:=by
 have Rh:=hk;unfold iy krF at hk;walk_at "f";unfold eV ltD;unfold bp at hq;lia;cases up:k.up with
 |false=>rw[up]at hq;lia;exact hq G (Chg.refl _ _) Rh
 |true=>
  rw[up]at hq;lia;rw[nY];cases lp:l.pair with
  |none=>rw[lp]at hq;refine df ?_;lia;refine aC (a:=D.tup [.int (l.hand:Int),.int (l.kpr:Int),.int l.num]) (G':=G) rfl ?_;lia;refine aC (a:=D.tup [.int (l.hand:Int),.int (l.kpr:Int),.int l.num,pD k.pair]) (G':=G) rfl ?_;lia;exact hq G (Chg.refl _ _) Rh
  |some p=>rw[lp]at hq;refine dC ?_;lia;refine JD Rh fun G' hc hn=>?_;lia;refine aC (a:=D.tup [.int (l.hand:Int),.int (l.kpr:Int),.int l.num]) (G':=G') rfl ?_;lia;refine aC (a:=D.tup [.int (l.hand:Int),.int (l.kpr:Int),.int l.num,.non]) (G':=G') rfl ?_;lia;exact hq G' hc hn
end
section
variable{G:Hh}{Q:D->Hh->Prop}{E:Nat->Hh->Prop}{a d:Nat}{h:Hd}
def kA(i c:Nat):Hd:=⟨i,c,false,none,none,0,[],0⟩
def yd(ha:G[a]? =some (.ins 0 []))(hq:∀G' d,Chg [a] G G'->G.length<=d->fV G' a d (kA i c)->Q .non G'):run (iE [.ref a,.int (i:Int),.int (c:Int)]) G Q E:=by
 walk_at "f";unfold k7;lia;refine aL ha ⟨by decide,qP_ rfl⟩ fun G1 c1 l1 h1=>?_;lia;refine aL h1 ⟨by decide,qP_ rfl⟩ fun G2 c2 l2 h2=>?_;lia;refine aL h2 ⟨by decide,qP_ rfl⟩ fun G3 c3 l3 h3=>?_;lia;refine aL h3 ⟨by decide,qP_ rfl⟩ fun G4 c4 l4 h4=>?_;lia;refine aL h4 ⟨by decide,qP_ rfl⟩ fun G5 c5 l5 h5=>?_;lia;refine aL h5 ⟨by decide,qP_ rfl⟩ fun G6 c6 l6 h6=>?_;refine w_next ?_;refine az (fU (jm fun G7 c7 l7 h7=>w_var rfl ?_));have VN:=c7.get h6 (by simp);refine aL VN ⟨by decide,qP_ rfl⟩ fun G8 c8 l8 h8=>?_;have Wg:=c8.get h7 (by have:=ar h6;simp;omega);lia;refine aL h8 ⟨by decide,qP_ rfl⟩ fun G9 c9 l9 h9=>?_;lia;have VM:=c9.get Wg (by have:=ar h6;simp;omega);have cc:Chg [a] G G9:=(((((c1.trans c2).trans c3).trans c4).trans c5).trans c6).trans (((c7.mono (by simp)).trans c8).trans c9);exact hq G9 G6.length cc (by omega) ⟨h9,VM⟩
def oo(h:Hd):List Nat:=(List.range h.cnt).filter fun k=>!decide (k∈h.av.map (·.1))
def aR(h:Hd):List Lt:=(oo h).map fun k=>⟨h.num,k,h.rnd,h.pair⟩
def zA(l:List (Nat×Option Pr))(k:Nat):((look (dU l) (.inl (k:Int))).isSome)=decide (k∈l.map (·.1)):=by
 rw[pR];refine decide_eq_decide.mpr ⟨fun z=>?_,fun z=>?_⟩
 · unfold dU at z;rw[qb_]at z;obtain⟨e,he,ee⟩:=qH_.mp z;have:(e.1:Int)=(k:Int):=Sum.inl.inj ee;exact qH_.mpr ⟨e,he,by omega⟩
 · unfold dU;rw[qb_];obtain⟨e,he,ee⟩:=qH_.mp z;exact qH_.mpr ⟨e,he,by show Sum.inl (e.1:Int)=Sum.inl (k:Int);rw[ee]⟩
def Pz(n:Nat):rng 0 n=(List.range n).map fun(k:Nat)=>D.int (k:Int):=by
 unfold rng;congr 1;funext k;rw[Int.zero_add]
def mC(h:Hd):(oo h).length<=h.cnt:=by
 unfold oo;have:=List.length_filter_le (fun k=>!decide (k∈h.av.map (·.1))) (List.range h.cnt);rw[List.length_range]at this;exact this
def tZ(ha:fV G a d h)(hz:h.cnt<=1000)(hq:∀l G',Ext G G'->G.length<=l->G'[l]? =some (.lst ((aR h).map ltD))->Q (.ref l) G'):run (cK [.ref a]) G Q E:=by
 obtain⟨ha,hd⟩:=ha;unfold hdF at ha;walk_at "f";unfold hW;lia
 with_reducible refine M3.ir (by omega) ?_
 rw[Pz];refine oG (p:=fun k:Nat=>!decide (k∈h.av.map (·.1))) (g:=fun k:Nat=>D.int (k:Int)) rfl (by simp;omega) (fun x _=>?_) (fun x _ _=>w_var rfl ⟨rfl,rfl⟩) ?_
 · refine mP (aQ (w_var rfl (w_fld (w_var rfl (aX ha (by decide) rfl ?_)))));refine AA (b:=decide (x∈h.av.map (·.1))) ?_ ?_
   · unfold inG;dsimp only;rw[hd];show some (look (dU h.av) (.inl (x:Int))).isSome=_;rw[zA]
   exact⟨rfl,rfl⟩
 have e0:((List.range h.cnt).filter fun k:Nat=>!decide (k∈h.av.map (·.1)))=oo h:=rfl;rw[e0];refine w_next ?_;walk_at "s";have E1:=(Ext.add G (.lst ((oo h).map fun k:Nat=>D.int (k:Int)))).get ha;refine bB (vh (pO (w_var rfl (eP (aM _ _) ?_))));have hw:=mC h;refine oG (p:=fun _:Nat=>true) (g:=fun k:Nat=>ltD ⟨h.num,k,h.rnd,h.pair⟩) (qZ_ (aM _ _)) (by omega) (fun x _=>jA ⟨rfl,rfl⟩) (fun x _ _=>?_) ?_
 · lia;exact⟨rfl,rfl⟩
 rw[List.filter_eq_self.mpr (fun _ _=>rfl)];lia;refine hq _ _ ((Ext.add _ _).trans (Ext.add _ _)) (by simp) ?_;rw[aM];unfold aR;rw[qb_];rfl
def roundF(h:Hd)(p:Option Pr):Hd:={h with rnd:=h.rnd+1,pair:=p,av:=[]}
def mW(ha:fV G a d h)(hz:h.cnt<=1000)(hq:∀l d' G',Chg [a] G G'->G.length<=d'->G.length<=l->fV G' a d' (roundF h p)->G'[l]? =some (.lst ((aR (roundF h p)).map ltD))->Q (.ref l) G'):run (bG [.ref a,opD p]) G Q E:=by
 obtain⟨ha,hd⟩:=ha;unfold hdF at ha;walk_at "f";unfold ff;lia;refine aL ha ⟨by decide,qP_ rfl⟩ fun G1 c1 l1 h1=>?_;lia;refine aL h1 ⟨by decide,qP_ rfl⟩ fun G2 c2 l2 h2=>?_;refine w_next ?_;refine az (fU (jm fun G3 c3 l3 h3=>w_var rfl ?_));have V7:=c3.get h2 (by simp);refine aL V7 ⟨by decide,qP_ rfl⟩ fun G4 c4 l4 h4=>?_;have Uk:=c4.get h3 (by have:=ar h2;simp;omega);refine w_next ?_;refine bB (bb (w_var rfl (bS h4 (ax ?_))));refine tZ (h:=roundF h p) (d:=G2.length) ⟨h4,Uk⟩ hz fun l G5 x5 l5 h5=>?_;lia;have cc:Chg [a] G G4:=(c1.trans c2).trans ((c3.mono (by simp)).trans c4);exact hq l G2.length G5 (cc.trans x5.chg) (by omega) (by omega) ⟨x5.get h4,x5.get Uk⟩ h5
def bz(h:Hd)(v:Option Int):Hd:=roundF {h with atw:=true,val:=v} none
def Ai(ha:fV G a d h)(hz:h.cnt<=1000)(hb:h.atw=true->E 1004 G)(hq:h.atw=false->∀l d' G',Chg [a] G G'->G.length<=d'->G.length<=l->fV G' a d' (bz h v)->G'[l]? =some (.lst ((aR (bz h v)).map ltD))->Q (.ref l) G'):run (dZ [.ref a,oD v]) G Q E:=by
 have EL:=ha;obtain⟨ha,hd⟩:=ha;unfold hdF at ha;walk_at "f";unfold jD;lia;cases q:h.atw with
 |true=>
  lia;exact hb q
 |false=>
  lia;rw[q]at ha
  refine aL ha ⟨by decide,qP_ rfl⟩ fun G1 c1 l1 h1=>?_;lia;refine aL h1 ⟨by decide,qP_ rfl⟩ fun G2 c2 l2 h2=>?_;refine w_next ?_;refine bB (bb (w_var rfl (bS h2 (ai (w_c (ax ?_))))));have mU:d≠a:=by rintro rfl;rw[ha]at hd;cases hd
  refine mW (p:=none) (h:={h with atw:=true,val:=v}) (d:=d) ⟨h2,c2.get (c1.get hd (by simpa using mU)) (by simpa using mU)⟩ hz fun l d' G3 c3 l3 l4 h3 h4=>?_;lia;exact hq q l d' G3 ((c1.trans c2).trans c3) (by omega) (by omega) h3 h4
def tf{v:Int}(ha:fV G a d h)(hz:h.cnt<=1000)(hb:h.atw=true->E 1004 G)(hq:h.atw=false->∀l d' G',Chg [a] G G'->G.length<=d'->G.length<=l->fV G' a d' (bz h (some v))->G'[l]? =some (.lst ((aR (bz h (some v))).map ltD))->Q (.ref l) G'):run (cT [.ref a,.int v]) G Q E:=by
 have EL:=ha.1;unfold hdF at EL;walk_at "f";unfold eS;lia;refine Ai (v:=some v) ha hz hb fun q l d' G' c l1 l2 h1 h2=>?_;lia;exact hq q l d' G' c l1 l2 h1 h2
def vY(ha:fV G a d h)(hz:h.cnt<=1000)(hb:h.atw=true->E 1004 G)(hq:h.atw=false->∀l d' G',Chg [a] G G'->G.length<=d'->G.length<=l->fV G' a d' (bz h none)->G'[l]? =some (.lst ((aR (bz h none)).map ltD))->Q (.ref l) G'):run (dG [.ref a]) G Q E:=by
 have EL:=ha.1;unfold hdF at EL;walk_at "f";unfold fO;lia;refine Ai (v:=none) ha hz hb fun q l d' G' c l1 l2 h1 h2=>?_;lia;exact hq q l d' G' c l1 l2 h1 h2
def m4(ha:fV G a d h)(hb:h.atw=false->E 1005 G)(hq:h.atw=true->Q .non G):run (bH [.ref a]) G Q E:=by
 obtain⟨ha,hd⟩:=ha;unfold hdF at ha;walk_at "f";unfold eX;lia;cases q:h.atw with
 |true=>lia
        exact hq q
 |false=>lia
         exact hb q
def vF(ha:fV G a d h)(hz:h.cnt<=1000)(hb:h.atw=false->E 1005 G)(hq:h.atw=true->∀l G',Ext G G'->G.length<=l->G'[l]? =some (.lst ((aR h).map ltD))->Q (.ref l) G'):run (dH [.ref a]) G Q E:=by
 have EL:=ha.1;unfold hdF at EL;walk_at "f";unfold fJ;lia;refine m4 ha hb fun q=>?_;lia;refine tZ ha hz fun l G' x l1 h1=>?_;lia;exact hq q l G' x l1 h1
def BA(ha:fV G a d h)(hb:h.atw=false->E 1005 G)(hq:h.atw=true->∀G',Chg [a] G G'->fV G' a d {h with atw:=false}->Q .non G'):run (fz [.ref a]) G Q E:=by
 have EL:=ha.1;unfold hdF at EL;have mU:d≠a:=by rintro rfl;have:=ha.2;rw[EL]at this;cases this
 walk_at "f";unfold hI;lia;refine m4 ha hb fun q=>?_;lia;refine aL EL ⟨by decide,qP_ rfl⟩ fun G1 c1 l1 h1=>?_;lia;exact hq q G1 c1 ⟨h1,c1.get ha.2 (by simpa using mU)⟩
def bf(h:Hd)(ps:List Pr):Hd×Pr:=match h.val with
 |none=>(h,iO ps)
 |some v=>({h with own:=mO ps h.own+1},((mO ps h.own+1,(h.num:Int)),v))
def CY{ps:List Pr}(ha:fV G a d h)(hp:h.av.map (·.2)=ps.map some)(hz:ps.length<=1000)(hq:∀G',Chg [a] G G'->fV G' a d (bf h ps).1->Q (pD (bf h ps).2) G'):run (gm [.ref a]) G Q E:=by
 obtain⟨ha,hd⟩:=ha;unfold hdF at ha;have mU:d≠a:=by rintro rfl;rw[ha]at hd;cases hd
 unfold bf at hq;walk_at "f";unfold iY;lia;refine Fj hd ?_;have e1:(dU h.av).map (·.2)=ps.map pD:=by
  have:(h.av.map (·.2)).map opD=(ps.map some).map opD:=by rw[hp]
  rw[qb_,qb_]at this;unfold dU;rw[qb_];exact this
 rw[e1];have x1:Ext G (G++[O.lst (ps.map pD)]):=Ext.add _ _;have E1:=x1.get ha;have R9:=x1.get hd;have HJ:(G++[O.lst (ps.map pD)])[G.length]? =some (.lst (ps.map pD)):=aM _ _;generalize G++[O.lst (ps.map pD)]=G1 at x1 E1 R9 HJ;generalize G.length=ll at HJ;lia;rw[Ck];cases hv:h.val with
 |none=>rw[hv]at hq;refine df ?_;lia;refine Et HJ ?_;lia;exact hq G1 x1.chg ⟨E1,R9⟩
 |some v=>rw[hv]at hq;refine dC ?_;lia;refine sN HJ hz fun G2 x2=>?_;have LY:=x2.get E1;lia;refine aL LY ⟨by decide,qP_ rfl⟩ fun G3 c3 l3 h3=>?_;have Rq:=c3.get (x2.get R9) (by simpa using mU);rw[hv]at h3;lia;exact hq G3 ((x1.trans x2).chg.trans c3) ⟨h3,Rq⟩
def bQ(l:List (Nat×Option Pr))(k:Nat)(p:Option Pr):List (Nat×Option Pr):=
 if (l.any fun e=>decide (e.1=k))then l.map fun e=>if e.1=k then (e.1,p)else e else l++[(k,p)]
def Jh(l:List (Nat×Option Pr))(k:Nat)(p:Option Pr):put (dU l) (.inl (k:Int)) (opD p)=dU (bQ l k p):=by
 have key:∀e:Nat×Option Pr,decide ((Sum.inl (e.1:Int):Key)= .inl (k:Int))=decide (e.1=k):=fun e=>decide_eq_decide.mpr ⟨fun z=>by have:=Sum.inl.inj z;omega,fun z=>by rw[z]⟩;unfold put bQ;have e1:((dU l).any fun kv=>decide (kv.1=(.inl (k:Int):Key)))=l.any fun e=>decide (e.1=k):=by unfold dU;rw[List.any_map];congr 1;funext e;exact key e
 rw[e1];by_cases c:(l.any fun e=>decide (e.1=k))=true
 · rw[if_pos c,if_pos c];unfold dU;rw[qb_,qb_];apply List.map_congr_left;intro e _;by_cases z:e.1=k
   · have z':(Sum.inl (e.1:Int):Key)= .inl (k:Int):=(by rw[z]);show (if (Sum.inl (e.1:Int):Key)= .inl (k:Int)then ((Sum.inl (e.1:Int):Key),opD p)else (Sum.inl (e.1:Int),opD e.2))=(Sum.inl ((if e.1=k then (e.1,p)else e).1:Int),opD (if e.1=k then (e.1,p)else e).2);rw[if_pos z',if_pos z]
   · have z':¬(Sum.inl (e.1:Int):Key)= .inl (k:Int):=fun w=>z (by have:=Sum.inl.inj w;omega);show (if (Sum.inl (e.1:Int):Key)= .inl (k:Int)then ((Sum.inl (e.1:Int):Key),opD p)else (Sum.inl (e.1:Int),opD e.2))=(Sum.inl ((if e.1=k then (e.1,p)else e).1:Int),opD (if e.1=k then (e.1,p)else e).2);rw[if_neg z',if_neg z]
 · rw[if_neg c,if_neg c];unfold dU;rw[qT_];rfl
def vals(l:List (Nat×Option Pr)):List Pr:=l.filterMap (·.2)
def GI{l:List (Nat×Option Pr)}(hl:∀e∈l,e.2.isSome=true):l.map (·.2)=(vals l).map some:=by
 induction l with
 |nil=>rfl
 |cons e r ih=>have h1:=hl e qI_;obtain⟨p,hp⟩:=Option.isSome_iff_exists.mp h1;unfold vals at*;rw[List.filterMap_cons,hp];simp only[List.map_cons,hp];rw[ih fun x hx=>hl x (qR_ _ hx)]
def CZ(l:List (Nat×Option Pr)):(vals l).length<=l.length:=List.length_filterMap_le _ _
def aZ(h:Hd)(l:Lt):Hd×List Lt×Option Pr:=
 if (!h.atw||!decide (l.num=h.rnd))=true then (h,[],none)
 else
  let h1:Hd:={h with av:=bQ h.av l.kpr l.pair}
  if (!decide (h.cnt < h1.av.length*2))=true then (h1,[],none)
  else match h.pair with
   |none=>let c:=bf h1 (vals h1.av);(roundF c.1 (some c.2),aR (roundF c.1 (some c.2)),none)
   |some p=>({h1 with atw:=false},[],some p)
def j9(h:Hd)(ps:List Pr):(bf h ps).1.cnt=h.cnt:=by unfold bf;cases h.val <;> rfl
def Jx{l:Lt}(ha:fV G a d h)(hz:h.cnt<=1000)(Qj:(bQ h.av l.kpr l.pair).length<=1000)(hok:h.atw=true->l.num=h.rnd->h.pair=none->∀e∈bQ h.av l.kpr l.pair,e.2.isSome=true)
 (hq:∀ll d' G',Chg [a,d] G G'->(d'=d\/G.length<=d')->G.length<=ll->fV G' a d' (aZ h l).1->G'[ll]? =some (.lst ((aZ h l).2.1.map ltD))->Q (.tup [.ref ll,opD (aZ h l).2.2]) G'):run (iL [.ref a,ltD l]) G Q E:=by
 have EL:=ha;obtain⟨ha,hd⟩:=ha;unfold hdF at ha;have mU:d≠a:=by rintro rfl;rw[ha]at hd;cases hd
 have nothing:run (aA (bE (aa (bW ah) (aa (eC .non) ah))) [some (.ref a),some (ltD l)]) G (fun p G1=>p.1= .ret (.tup [.ref G.length,.non])/\Chg [] G G1/\G1[G.length]? =some (.lst [])) E:=by refine bB (As (ai (cD fun G1 c1 l1 h1=>ai (w_c (ax ⟨qP_ (by with_unfolding_all rfl),rfl,c1,h1⟩)))))
 unfold aZ at hq;walk_at "f";unfold lC;refine az (cJ (uq (gj (fD (w_fld (w_var rfl (aX ha (by decide) rfl (dP ?_))))))));have stop:(!h.atw||!decide (l.num=h.rnd))=true->∀p G1,(p:Fl×St).1= .ret (.tup [.ref G.length,.non])/\Chg [] G G1/\G1[G.length]? =some (.lst [])->Q (.tup [.ref G.length,.non]) G1:=fun c p G1 ⟨_,c1,h1⟩=>by
  rw[if_pos c]at hq;exact hq G.length d G1 (c1.mono (by simp)) (.inl rfl) (qO_ _) ⟨c1.get ha (by simp),c1.get hd (by simp)⟩ h1
 cases qa:h.atw with
 |false=>refine oz ?_;refine jA ?_;refine df ?_;refine ak nothing (fun p G1 q=>?_) fun _ _ z=>z;have qq:=stop (by rw[qa];rfl) p G1 q;obtain⟨f,σ⟩:=p;cases (show f= .ret (.tup [.ref G.length,.non])from q.1);lia;exact qq
 |true=>
  refine iD ?_;unfold ltD;lia;refine kE eq_int ?_;lia;refine w_ite (fun c=>?_) fun c=>?_
  · refine ak nothing (fun p G1 q=>?_) fun _ _ z=>z;have qq:=stop (by rw[qa];simpa using c) p G1 q;obtain⟨f,σ⟩:=p;cases (show f= .ret (.tup [.ref G.length,.non])from q.1);lia;exact qq
  have HB:l.num=h.rnd:=by simpa using c
  have OY:¬(!h.atw||!decide (l.num=h.rnd))=true:=by rw[qa,HB];simp
  rw[if_neg OY]at hq;lia;have VZ:(dU h.av).length < aw:=by
   have:h.av.length<=(bQ h.av l.kpr l.pair).length:=by unfold bQ;split <;> simp
   unfold dU;rw[qM_];unfold aw;omega
  refine cq hd rfl VZ fun G1 c1 l1 h1=>?_;rw[Jh]at h1;have E1:=c1.get ha (by simpa using Ne.symm mU);have QC:Chg [a,d] G G1:=c1.mono (by simp);lia;refine Dl h1 ?_;have e2:(dU (bQ h.av l.kpr l.pair)).length=(bQ h.av l.kpr l.pair).length:=by unfold dU;rw[qM_]
  rw[e2];lia
  with_reducible refine AU ?_
  have e3:decide ((h.cnt:Int) < ((bQ h.av l.kpr l.pair).length:Int)*2)=decide (h.cnt < (bQ h.av l.kpr l.pair).length*2):=decide_eq_decide.mpr (by omega);rw[e3];lia;dsimp only at hq;cases qm:decide (h.cnt < (bQ h.av l.kpr l.pair).length*2)with
  |false=>rw[qm]at hq;rw[if_pos (show (!false)=true from rfl)]at hq;lia;have c2:Chg [] G1 (G1++[O.lst []]):=Chg.add _ _;exact hq G1.length d (G1++[O.lst []]) (QC.trans (c2.mono (by simp))) (.inl rfl) (Nat.le_of_eq l1.symm) ⟨c2.get E1 (by simp),c2.get h1 (by simp)⟩ (aM _ _)
  |true=>
   rw[qm]at hq;rw[if_neg (show ¬(!true)=true from qC_)]at hq;lia;rw[nY];cases qp:h.pair with
   |none=>rw[qp]at hq;refine df ?_;dsimp only at hq;have hv:=GI (hok qa HB qp);have WU:=CZ (bQ h.av l.kpr l.pair);lia;have QM:fV G1 a d {h with av:=bQ h.av l.kpr l.pair,pair:=none}:=⟨by rw[qp]at E1;exact E1,h1⟩;refine CY QM hv (by omega) fun G2 c2 h2=>?_;have O6:=j9 {h with av:=bQ h.av l.kpr l.pair,pair:=none} (vals (bQ h.av l.kpr l.pair));generalize bf {h with av:=bQ h.av l.kpr l.pair,pair:=none} (vals (bQ h.av l.kpr l.pair))=ch at hq h2 O6;lia;refine mW (p:=some ch.2) h2 (by rw[O6];exact hz) fun ll d' G3 c3 l3 l4 h3 h4=>?_;lia;have g2:=c2.1;exact hq ll d' G3 ((QC.trans (c2.mono (by simp))).trans (c3.mono (by simp))) (.inr (by omega)) (by omega) h3 h4
   |some p=>
    rw[qp]at hq;refine dC ?_;lia;refine aL E1 ⟨by decide,qP_ rfl⟩ fun G2 c2 l2 h2=>?_;have hd2:=c2.get h1 (by simpa using mU);refine w_next ?_;refine bB (As (ai (cD fun G3 c3 l3 h3=>?_)));have RX:=c3.get h2 (by simp);have Rq:=c3.get hd2 (by simp);refine ai (w_fld (w_var rfl (aX RX (by decide) rfl (ax ⟨qP_ (by with_unfolding_all rfl),?_⟩))))
    lia;rw[qp]
    refine hq G2.length d G3 ((QC.trans (c2.mono (by simp))).trans (c3.mono (by simp))) (.inl rfl) (by omega) ⟨?_,Rq⟩ h3;rw[qp]at RX;exact RX
end
structure Hl where
 ks:List Kr
 hs:List Hd
 row:List (Bool×Lt)
structure Ad where
 a:Nat
 lk:Nat
 lh:Nat
 lr:Nat
 ka:List Nat
 ha:List Nat
 da:List Nat
def Ad.foot(A:Ad):List Nat:=[A.a,A.lk,A.lh,A.lr]++(A.ka++(A.ha++A.da))
def refs(xs:List Nat):List D:=xs.map D.ref
structure bo (G:Hh) (A:Ad) (st:Hl):Prop where
 o:G[A.a]? =some (.ins 2 [(9,.ref A.lk),(10,.ref A.lh),(11,.ref A.lr)])
 k:G[A.lk]? =some (.lst (refs A.ka))
 h:G[A.lh]? =some (.lst (refs A.ha))
 r:G[A.lr]? =some (.lst (st.row.map enD))
 kl:A.ka.length=st.ks.length
 hl:A.ha.length=st.hs.length
 dl:A.da.length=st.hs.length
 kr:∀(i:Nat) a k,A.ka[i]? =some a->st.ks[i]? =some k->iy G a k
 hd:∀(i:Nat) a d h,A.ha[i]? =some a->A.da[i]? =some d->st.hs[i]? =some h->fV G a d h
 nd:A.foot.Nodup
section
variable{G G':Hh}{Q:D->Hh->Prop}{E:Nat->Hh->Prop}{A:Ad}{st:Hl}
def bo.lt(H:bo G A st):∀n∈A.foot,n < G.length:=by
 intro n hn;unfold Ad.foot at hn;rcases qG_.mp hn with z |z
 · simp only[qS_,List.not_mem_nil,or_false]at z;rcases z with rfl |rfl |rfl |rfl
   · exact ar H.o
   · exact ar H.k
   · exact ar H.h
   · exact ar H.r
 · rcases qG_.mp z with z |z
   · obtain⟨i,hi,e⟩:=List.getElem_of_mem z;have h1:A.ka[i]? =some n:=(by rw[qA_ hi,e]);have h2:i < st.ks.length:=by rw[<-H.kl];exact hi
     exact ar (H.kr i n _ h1 (qA_ h2))
   · have VT:=H.dl.trans H.hl.symm;rcases qG_.mp z with z |z
     · obtain⟨i,hi,e⟩:=List.getElem_of_mem z;have h1:A.ha[i]? =some n:=(by rw[qA_ hi,e]);have h2:i < st.hs.length:=by rw[<-H.hl];exact hi
       have h3:i < A.da.length:=by rw[H.dl];exact h2
       exact ar (H.hd i n _ _ h1 (qA_ h3) (qA_ h2)).1
     · obtain⟨i,hi,e⟩:=List.getElem_of_mem z;have h1:A.da[i]? =some n:=(by rw[qA_ hi,e]);have h2:i < st.hs.length:=by rw[<-H.dl];exact hi
       have h3:i < A.ha.length:=by rw[H.hl];exact h2
       exact ar (H.hd i _ n _ (qA_ h3) h1 (qA_ h2)).2
def fV.chg(x:fV G a d h)(c:Chg S G G')(h1:a∉S)(h2:d∉S):fV G' a d h:=⟨c.get x.1 h1,c.get x.2 h2⟩
def AE{i a:Nat}(h:A.ka[i]? =some a):a∈A.foot:=by unfold Ad.foot;simp [qD_ h]
def wO{i a:Nat}(h:A.ha[i]? =some a):a∈A.foot:=by unfold Ad.foot;simp [qD_ h]
def zY{i a:Nat}(h:A.da[i]? =some a):a∈A.foot:=by unfold Ad.foot;simp [qD_ h]
def bo.frame{S:List Nat}(H:bo G A st)(c:Chg S G G')(hs:∀n∈S,n∉A.foot):bo G' A st:=by
 have ns:∀n∈A.foot,n∉S:=fun n h z=>hs n z h;exact⟨c.get H.o (ns _ (by simp [Ad.foot])),c.get H.k (ns _ (by simp [Ad.foot])),c.get H.h (ns _ (by simp [Ad.foot])),c.get H.r (ns _ (by simp [Ad.foot])),H.kl,H.hl,H.dl,
  fun i a k h1 h2=>c.get (H.kr i a k h1 h2) (ns _ (AE h1)),fun i a d h h1 h2 h3=>(H.hd i a d h h1 h2 h3).chg c (ns _ (wO h1)) (ns _ (zY h2)),H.nd⟩
def rL(nd:A.foot.Nodup):(A.a≠A.lk/\A.a≠A.lh/\A.a≠A.lr/\A.lk≠A.lh/\A.lk≠A.lr/\A.lh≠A.lr)/\(∀x∈A.ka++(A.ha++A.da),x≠A.a/\x≠A.lk/\x≠A.lh/\x≠A.lr)/\A.ka.Nodup/\(∀x∈A.ka,x∉A.ha/\x∉A.da)/\A.ha.Nodup/\A.da.Nodup/\∀x∈A.ha,x∉A.da:=by
 unfold Ad.foot at nd;rw[List.nodup_append]at nd;obtain⟨n1,n2,n3⟩:=nd;rw[List.nodup_append]at n2;obtain⟨n4,n5,n6⟩:=n2;rw[List.nodup_append]at n5;obtain⟨n7,n8,n9⟩:=n5;refine⟨?_,fun x hx=>⟨fun z=>n3 A.a (by simp) x hx z.symm,fun z=>n3 A.lk (by simp) x hx z.symm,fun z=>n3 A.lh (by simp) x hx z.symm,fun z=>n3 A.lr (by simp) x hx z.symm⟩,n4,fun x hx=>⟨fun z=>n6 x hx x (qF_ _ z) rfl,fun z=>n6 x hx x (qE_ _ z) rfl⟩,n7,n8,fun x hx z=>n9 x hx x z rfl⟩;simp only[List.nodup_cons,qS_,List.not_mem_nil,or_false,not_or]at n1;obtain⟨⟨a1,a2,a3⟩,⟨a4,a5⟩,a6,_⟩:=n1;exact⟨a1,a2,a3,a4,a5,a6⟩
def get_inj{xs:List Nat}(nd:xs.Nodup){i j x:Nat}(h1:xs[i]? =some x)(h2:xs[j]? =some x):i=j:=by
 obtain⟨l1,e1⟩:=qB_.mp h1;obtain⟨l2,e2⟩:=qB_.mp h2;exact(List.getElem_inj nd).mp (e1.trans e2.symm)
def MI{xs:List Nat}(h:∀(i j x:Nat),xs[i]? =some x->xs[j]? =some x->i=j):xs.Nodup:=by
 unfold List.Nodup;rw[List.pairwise_iff_getElem];intro i j hi hj QR e;have:=h i j xs[i] (qA_ hi) (by rw[qA_ hj,e]);omega
def bo.K8{i a:Nat}{k:Kr}(H:bo G A st)(hi:A.ka[i]? =some a)(c:Chg [a] G G')(hk:iy G' a k):bo G' A {st with ks:=st.ks.set i k}:=by
 obtain⟨_,q,nk,OU,_⟩:=rL H.nd;have ha:=qD_ hi;obtain⟨e1,e2,e3,e4⟩:=q a (qF_ _ ha);have ns:∀n,n≠a->n∉ [a]:=fun n h z=>h (by simpa using z);refine⟨c.get H.o (ns _ (Ne.symm e1)),c.get H.k (ns _ (Ne.symm e2)),c.get H.h (ns _ (Ne.symm e3)),c.get H.r (ns _ (Ne.symm e4)),by simp [H.kl],H.hl,H.dl,fun j b k' h1 h2=>?_,fun j b d h h1 h2 h3=>?_,H.nd⟩
 · by_cases z:j=i
   · subst z;rw[hi]at h1;cases h1;have:j < st.ks.length:=by rw[<-H.kl];exact(qB_.mp hi).1
     rw[qU_ this]at h2;cases h2;exact hk
   · have h2:st.ks[j]? =some k':=by
      have h2:(st.ks.set i k)[j]? =some k':=h2;rw[qV_ (Ne.symm z)]at h2;exact h2
     refine c.get (H.kr j b k' h1 h2) (ns _ fun w=>z ?_);subst w;exact get_inj nk h1 hi
 · refine(H.hd j b d h h1 h2 h3).chg c (ns _ fun w=>?_) (ns _ fun w=>?_)
   · subst w;exact(OU _ ha).1 (qD_ h1)
   · subst w;exact(OU _ ha).2 (qD_ h2)
def bo.Lm{i a d d':Nat}{h:Hd}(H:bo G A st)(hi:A.ha[i]? =some a)(hj:A.da[i]? =some d)(c:Chg [a,d] G G')(Me:d'=d\/G.length<=d')(hk:fV G' a d' h):bo G' {A with da:=A.da.set i d'} {st with hs:=st.hs.set i h}:=by
 obtain⟨p0,q,nk,OU,nh,nD,T2⟩:=rL H.nd;have ha:=qD_ hi;have LF:=qD_ hj;obtain⟨e1,e2,e3,e4⟩:=q a (qE_ _ (qF_ _ ha));obtain⟨g1,g2,g3,g4⟩:=q d (qE_ _ (qE_ _ LF));have ns:∀n,n≠a->n≠d->n∉ [a,d]:=fun n h1 h2 z=>by
  simp only[qS_,List.not_mem_nil,or_false]at z;exact z.elim h1 h2
 have fresh:∀n∈A.foot,n=d'->d'=d:=fun n hn z=>by
  rcases Me with w |w
  · exact w
  · have:=H.lt n hn;omega
 have mem_set:∀x,x∈A.da.set i d'->x=d'\/x∈A.da/\x≠d:=fun x hx=>by
  obtain⟨j,Sv,e⟩:=List.getElem_of_mem hx;have e':(A.da.set i d')[j]? =some x:=by rw[qA_ Sv,e]
  by_cases z:j=i
  · subst z;rw[qU_ (qB_.mp hj).1]at e';cases e';exact .inl rfl
  · rw[qV_ (Ne.symm z)]at e';exact .inr ⟨qD_ e',fun w=>z (by subst w;exact get_inj nD e' hj)⟩
 refine⟨c.get H.o (ns _ (Ne.symm e1) (Ne.symm g1)),c.get H.k (ns _ (Ne.symm e2) (Ne.symm g2)),c.get H.h (ns _ (Ne.symm e3) (Ne.symm g3)),c.get H.r (ns _ (Ne.symm e4) (Ne.symm g4)),H.kl,by simp [H.hl],by simp [H.dl],fun j b k' h1 h2=>?_,fun j b dd hh h1 h2 h3=>?_,?_⟩
 · refine c.get (H.kr j b k' h1 h2) (ns _ (fun w=>?_) fun w=>?_)
   · subst w;exact(OU _ (qD_ h1)).1 ha
   · subst w;exact(OU _ (qD_ h1)).2 LF
 · have h2:(A.da.set i d')[j]? =some dd:=h2;have h3:(st.hs.set i h)[j]? =some hh:=h3;by_cases z:j=i
   · subst z;rw[hi]at h1;cases h1;rw[qU_ (qB_.mp hj).1]at h2;rw[qU_ (by rw[<-H.hl];exact(qB_.mp hi).1)]at h3;cases h2;cases h3;exact hk
   · rw[qV_ (Ne.symm z)]at h2 h3;refine(H.hd j b dd hh h1 h2 h3).chg c (ns _ (fun w=>z ?_) fun w=>?_) (ns _ (fun w=>?_) fun w=>z ?_)
     · subst w;exact get_inj nh h1 hi
     · subst w;exact T2 _ (qD_ h1) LF
     · subst w;exact T2 _ ha (qD_ h2)
     · subst w;exact get_inj nD h2 hj
 · by_cases hz:d'=d
   · subst hz;have:A.da.set i d'=A.da:=by
      obtain⟨l,e⟩:=qB_.mp hj;rw[<-e];exact List.set_getElem_self l
     unfold Ad.foot;dsimp only;rw[this];exact H.nd
   · have big:G.length<=d':=Me.resolve_left hz;have nd:=H.nd;unfold Ad.foot at nd ⊢;dsimp only;rw[List.nodup_append]at nd ⊢;obtain⟨n1,n2,n3⟩:=nd;rw[List.nodup_append]at n2 ⊢;obtain⟨n4,n5,n6⟩:=n2;rw[List.nodup_append]at n5 ⊢;obtain⟨n7,n8,n9⟩:=n5;have old:∀x∈A.foot,x≠d':=fun x hx w=>by have:=H.lt x hx;omega
     have QH:(A.da.set i d').Nodup:=by
      refine MI fun u v x e1 e2=>?_;by_cases zu:u=i
      · by_cases zv:v=i
        · rw[zu,zv]
        · rw[zu,qU_ (qB_.mp hj).1]at e1;cases e1;rw[qV_ (Ne.symm zv)]at e2;exact absurd rfl (old d' (zY e2))
      · rw[qV_ (Ne.symm zu)]at e1;by_cases zv:v=i
        · rw[zv,qU_ (qB_.mp hj).1]at e2;cases e2;exact absurd rfl (old d' (zY e1))
        · rw[qV_ (Ne.symm zv)]at e2;exact get_inj n8 e1 e2
     refine⟨n1,⟨n4,⟨n7,QH,fun x hx y hy=>?_⟩,fun x hx y hy=>?_⟩,fun x hx y hy=>?_⟩
     · rcases mem_set y hy with w |w
       · rw[w];exact old x (by unfold Ad.foot;simp [hx])
       · exact n9 x hx y w.1
     · rcases qG_.mp hy with w |w
       · exact n6 x hx y (qF_ _ w)
       · rcases mem_set y w with w |w
         · rw[w];exact old x (by unfold Ad.foot;simp [hx])
         · exact n6 x hx y (qE_ _ w.1)
     · rcases qG_.mp hy with w |w
       · exact n3 x hx y (qF_ _ w)
       · rcases qG_.mp w with w |w
         · exact n3 x hx y (qE_ _ (qF_ _ w))
         · rcases mem_set y w with w |w
           · rw[w];exact old x (by unfold Ad.foot;exact qF_ _ hx)
           · exact n3 x hx y (qE_ _ (qE_ _ w.1))
def bo.JR{row:List (Bool×Lt)}(H:bo G A st)(c:Chg [A.lr] G G')(hr:G'[A.lr]? =some (.lst (row.map enD))):bo G' A {st with row:=row}:=by
 obtain⟨⟨_,_,p3,_,p5,p6⟩,q,_⟩:=rL H.nd;have ns:∀n,n≠A.lr->n∉ [A.lr]:=fun n h z=>h (by simpa using z);have nq:∀x∈A.ka++(A.ha++A.da),x≠A.lr:=fun x hx=>(q x hx).2.2.2;exact⟨c.get H.o (ns _ p3),c.get H.k (ns _ p5),c.get H.h (ns _ p6),hr,H.kl,H.hl,H.dl,
  fun i a k h1 h2=>c.get (H.kr i a k h1 h2) (ns _ (nq _ (qF_ _ (qD_ h1)))),
  fun i a d h h1 h2 h3=>(H.hd i a d h h1 h2 h3).chg c (ns _ (nq _ (qE_ _ (qF_ _ (qD_ h1))))) (ns _ (nq _ (qE_ _ (qE_ _ (qD_ h2))))),H.nd⟩
end
structure WF (st:Hl):Prop where
 hk:∀(i:Nat) h,st.hs[i]? =some h->h.num=i/\h.cnt=st.ks.length/\(∀e∈h.av,e.1 < st.ks.length)/\(h.av.map (·.1)).Nodup/\(h.pair=none->∀e∈h.av,e.2.isSome=true)
 rw:∀e∈st.row,∃h,st.hs[e.2.hand]? =some h/\e.2.kpr < st.ks.length/\e.2.num<=h.rnd/\(e.2.num=h.rnd->(e.1=false->e.2.pair=h.pair)/\(e.1=true->e.2.pair.isSome=h.pair.isNone))
 ksz:st.ks.length<=9
 hsz:st.hs.length<=9
def rE(e:Nat×Pr):D:= .tup [.int (e.1:Int),pD e.2]
def bI(st:Hl)(place:Nat)(stays:Bool):List (Bool×Lt):=if stays then st.row else st.row.eraseIdx place
def aE(st:Hl)(place:Nat)(stays:Bool):Hl×List (Nat×Pr):=
 match st.row[place]? with
 |none=>(st,[])
 |some (true,l)=>(match st.hs[l.hand]? with
  |none=>(st,[])
  |some h=>({st with hs:=st.hs.set l.hand (aZ h l).1,row:=bI st place stays++(aZ h l).2.1.map fun x=>(false,x)},match (aZ h l).2.2 with
   |none=>[]
   |some p=>[(l.hand,p)]))
 |some (false,l)=>(match st.ks[l.kpr]? with
  |none=>(st,[])
  |some k=>({st with ks:=st.ks.set l.kpr (bp k l).1,row:=bI st place stays++(match (bp k l).2 with
   |none=>[]
   |some x=>[(true,x)])},[]))
structure Ad.To (A A':Ad) (n:Nat):Prop where
 a:A'.a=A.a
 lk:A'.lk=A.lk
 lh:A'.lh=A.lh
 lr:A'.lr=A.lr
 ka:A'.ka=A.ka
 ha:A'.ha=A.ha
 da:∀x∈A'.da,x∈A.da\/n<=x
def Ad.To.refl(A:Ad)(n:Nat):A.To A n:=⟨rfl,rfl,rfl,rfl,rfl,rfl,fun _ h=>.inl h⟩
theorem Ad.To.trans{A B C:Ad}{n m:Nat}(x:A.To B n)(y:B.To C m)(h:n<=m):A.To C n:=
 ⟨y.a.trans x.a,y.lk.trans x.lk,y.lh.trans x.lh,y.lr.trans x.lr,y.ka.trans x.ka,y.ha.trans x.ha,fun z hz=>(y.da z hz).elim (x.da z) fun w=>.inr (Nat.le_trans h w)⟩
theorem Ad.To.foot{A B:Ad}{n:Nat}(x:A.To B n):∀z∈B.foot,z∈A.foot\/n<=z:=by
 intro z hz;unfold Ad.foot at*;rw[x.a,x.lk,x.lh,x.lr,x.ka,x.ha]at hz;rcases qG_.mp hz with w |w
 · exact .inl (qF_ _ w)
 · rcases qG_.mp w with w |w
   · exact .inl (qE_ _ (qF_ _ w))
   · rcases qG_.mp w with w |w
     · exact .inl (qE_ _ (qE_ _ (qF_ _ w)))
     · exact(x.da z w).elim (fun w=>.inl (qE_ _ (qE_ _ (qE_ _ w)))) .inr
section
variable{G:Hh}{Q:D->Hh->Prop}{E:Nat->Hh->Prop}{A:Ad}{st:Hl}
def jF{xs:List Nat}{i a:Nat}(h:xs[i]? =some a):atI (refs xs) (i:Int)=some (.ref a):=bD h
def bo.hand(H:bo G A st){i:Nat}{h:Hd}(e:st.hs[i]? =some h):∃a d,A.ha[i]? =some a/\A.da[i]? =some d/\fV G a d h:=by
 have hl:=(qB_.mp e).1;have h1:i < A.ha.length:=by rw[H.hl];exact hl
 have h2:i < A.da.length:=by rw[H.dl];exact hl
 exact⟨_,_,qA_ h1,qA_ h2,H.hd i _ _ _ (qA_ h1) (qA_ h2) e⟩
def bo.Li(H:bo G A st){i:Nat}{k:Kr}(e:st.ks[i]? =some k):∃a,A.ka[i]? =some a/\iy G a k:=by
 have hl:=(qB_.mp e).1;have h1:i < A.ka.length:=by rw[H.kl];exact hl
 exact⟨_,qA_ h1,H.kr i _ _ (qA_ h1) e⟩
def uk{xs:List D}(hn:G[n]? =some (.lst xs))(hy:xs[k]? =some y)(hz:xs.length<=1000000)(h:∀G',Chg [n] G G'->G'.length=G.length->G'[n]? =some (.lst (xs.eraseIdx k))->Q y G'):run (m6 (.ref n) (.int (k:Int))) G Q E:=by
 have hk:=(qB_.mp hy).1;refine BY hn (k:=k) ?_ hy (by omega) (h _ (Chg.set _ _ qI_) (by simp) (fy hn));unfold M3.ixN;rw[if_pos (by omega),if_pos (by omega)];simp
def uG{ll:Nat}{ls:List Lt}(H:bo G A st)(hl:G[ll]? =some (.lst (ls.map ltD)))(hz:st.row.length+ls.length<=1000000)(hq:∀G',Chg [A.lr] G G'->bo G' A {st with row:=st.row++ls.map fun x=>(false,x)}->Q .non G'):run (bT [.ref A.a,.ref ll]) G Q E:=by
 have ho:=H.o;walk_at "f";unfold lI;lia;refine fM H.r ?_;lia;refine eP hl ?_;refine oG (p:=fun _:Lt=>true) (g:=fun x=>enD (false,x)) (qZ_ hl) (by omega) (fun x _=>jA ⟨rfl,rfl⟩) (fun x _ _=>?_) ?_
 · lia;exact⟨rfl,rfl⟩
 rw[List.filter_eq_self.mpr (fun _ _=>rfl)];have c1:Chg [] G (G++[O.lst (ls.map fun x=>enD (false,x))]):=Chg.add _ _;have H1:bo (G++[O.lst (ls.map fun x=>enD (false,x))]) A st:=H.frame c1 (by simp);refine gk H1.r (aM _ _) (by simp [aw];omega) fun G2 c2 l2 h2=>?_;lia;refine hq G2 ((c1.mono (by simp)).trans c2) (H1.JR c2 ?_);rw[h2,qT_,qb_];rfl
def pv{l:Lt}(H:bo G A st)(hk:st.ks[l.kpr]? =some k)(hz:st.row.length < 1000000)
 (hq:∀G',Chg A.foot G G'->bo G' A {st with ks:=st.ks.set l.kpr (bp k l).1,row:=st.row++(match (bp k l).2 with |none=>[] |some x=>[(true,x)])}->Q .non G'):run (b9 [.ref A.a,ltD l]) G Q E:=by
 obtain⟨a,ha,Fd⟩:=H.Li hk;have ho:=H.o;have BR:=Fd;unfold iy krF at BR;walk_at "f";unfold dB;refine az (aY (bb (aQ (w_fld (w_var rfl (aX ho (by decide) rfl (aQ (w_var rfl (w_c ?_)))))))));unfold ltD;refine aS rfl ?_;refine bL H.k (jF ha) (bS BR (ai (w_var rfl (ax ?_))));refine wV Fd fun G1 c1 h1=>?_;have H1:=H.K8 ha c1 h1;have yo:=H1.o;have cf:Chg A.foot G G1:=c1.mono (by intro n hn;simp at hn;subst hn;exact AE ha);refine w_next ?_;refine cJ (mP (yq (w_var rfl ?_)));lia;cases q:(bp k l).2 with
 |none=>rw[q]at hq;refine iD ?_;lia;rw[qY_]at hq;exact hq G1 cf H1
 |some x=>rw[q]at hq;refine oz ?_;lia;refine fM H1.r ?_;lia;refine dm H1.r (by rw[qM_];unfold aw;exact qd_ hz (by decide)) fun G2 c2 l2 h2=>?_;lia;refine hq G2 (cf.trans (c2.mono (by intro n hn;simp at hn;subst hn;simp [Ad.foot]))) (H1.JR c2 ?_);rw[h2,qT_];rfl
theorem rF:∀(n:Nat) (m:List Nat),m.Nodup->(∀x∈m,x < n)->m.length<=n
 |0,m,_,h=>by
  cases m with
  |nil=>simp
  |cons a r=>exact absurd (h a qI_) (Nat.not_lt_zero _)
 |n+1,m,nd,h=>by
  by_cases hn:n∈m
  · have:=rF n (m.erase n) (nd.erase n) fun x hx=>by
     have h1:=nd.mem_erase_iff.mp hx;have h2:=h x h1.2;have h3:=h1.1;omega
    rw[List.length_erase_of_mem hn]at this;omega
  · have:=rF n m nd fun x hx=>by
     have h1:=h x hx;have h2:x≠n:=fun z=>hn (z ▸ hx);omega
    omega
def DL{l:List (Nat×Option Pr)}(hn:(l.map (·.1)).Nodup)(hl:∀e∈l,e.1 < n)(hk:k < n):(bQ l k p).length<=n:=by
 have key:∀m:List Nat,m.Nodup->(∀x∈m,x < n)->m.length<=n:=fun m h1 h2=>rF n m h1 h2;unfold bQ;split
 · rw[qM_,<-qM_ (f:=(·.1))];exact key _ hn fun x hx=>by obtain⟨e,he,rfl⟩:=qH_.mp hx;exact hl e he
 · rename_i hc;have:((l++[(k,p)]).map (·.1)).length<=n:=by
    refine key _ ?_ fun x hx=>?_
    · rw[qT_,List.nodup_append];refine⟨hn,by simp,fun x hx y hy=>?_⟩;simp at hy;subst hy;rintro rfl;obtain⟨e,he,ee⟩:=qH_.mp hx;exact hc (List.any_eq_true.mpr ⟨e,he,qZ_ ee⟩)
    · obtain⟨e,he,rfl⟩:=qH_.mp hx;rcases qG_.mp he with z |z
      · exact hl e z
      · simp at z;rw[z];exact hk
   rw[qM_]at this;exact this
def qY{e:Nat×Option Pr}(h:e∈bQ l k p):(e.1=k/\e.2=p)\/e∈l:=by
 unfold bQ at h;split at h
 · obtain⟨x,hx,ex⟩:=qH_.mp h;split at ex
   · rename_i z;subst ex;exact .inl ⟨z,rfl⟩
   · subst ex;exact .inr hx
 · rcases qG_.mp h with z |z
   · exact .inr z
   · simp at z;rw[z];exact .inl ⟨rfl,rfl⟩
def vC(h:Hd)(l:Lt):(aZ h l).2.1.length<=h.cnt:=by
 unfold aZ;split
 · simp
 · dsimp only;split
   · simp
   · split
     · dsimp only;unfold aR;rw[qM_];have:=mC (roundF (bf {h with av:=bQ h.av l.kpr l.pair} (vals (bQ h.av l.kpr l.pair))).1 (some (bf {h with av:=bQ h.av l.kpr l.pair} (vals (bQ h.av l.kpr l.pair))).2));rw[show (roundF (bf {h with av:=bQ h.av l.kpr l.pair} (vals (bQ h.av l.kpr l.pair))).1 (some (bf {h with av:=bQ h.av l.kpr l.pair} (vals (bQ h.av l.kpr l.pair))).2)).cnt=h.cnt from j9 _ _]at this;exact this
     · simp
def rX{l:Lt}{h:Hd}(H:bo G A st)(hh:st.hs[l.hand]? =some h)(hc:h.cnt<=9)(Qj:(bQ h.av l.kpr l.pair).length<=1000)(hok:h.atw=true->l.num=h.rnd->h.pair=none->∀e∈bQ h.av l.kpr l.pair,e.2.isSome=true)(hz:st.row.length < 900000)
 (hq:∀le A' G',Chg A.foot G G'->A.To A' G.length->G.length<=le->bo G' A' {st with hs:=st.hs.set l.hand (aZ h l).1,row:=st.row++(aZ h l).2.1.map fun x=>(false,x)}->G'[le]? =some (.lst ((match (aZ h l).2.2 with |none=>[] |some p=>[(l.hand,p)]).map rE))->Q (.ref le) G'):run (cB [.ref A.a,ltD l]) G Q E:=by
 obtain⟨a,d,ha,LF,mH⟩:=H.hand hh;have ho:=H.o;have tD:=mH.1;unfold hdF at tD;walk_at "f";unfold eE;refine az (aY (bb (aQ (w_fld (w_var rfl (aX ho (by decide) rfl (aQ (w_var rfl (w_c ?_)))))))));unfold ltD;refine aS rfl ?_;refine bL H.h (jF ha) (bS tD (ai (w_var rfl (ax ?_))));refine Jx mH (by omega) Qj hok fun ll d' G1 c1 l1 l2 h1 h2=>?_;have H1:=H.Lm ha LF c1 l1 h1;have yo:G1[A.a]? =_:=H1.o;have cf:Chg A.foot G G1:=c1.mono (by
  intro n hn;simp only[qS_,List.not_mem_nil,or_false]at hn;rcases hn with rfl |rfl
  · exact wO ha
  · exact zY LF)
 have to:A.To {A with da:=A.da.set l.hand d'} G.length:=⟨rfl,rfl,rfl,rfl,rfl,rfl,fun x hx=>by
  rcases List.mem_or_eq_of_mem_set hx with z |z
  · exact .inl z
  · rw[z]
    exact l1.elim (fun w=>.inl (by rw[w];exact qD_ LF)) .inr⟩
 have Xb:=vC h l;generalize aZ h l=r at*;lia;refine uG (A:={A with da:=A.da.set l.hand d'}) H1 h2 (by show st.row.length+_<=_;omega) fun G2 c2 H2=>?_;have N6:Chg A.foot G1 G2:=c2.mono (by intro n hn;simp at hn;subst hn;simp [Ad.foot]);have g1:=c1.1;have g2:=c2.1;lia;rw[nY];cases q:r.2.2 with
 |none=>rw[q]at hq;refine df ?_;refine bB (cD fun G3 c3 l3 h3=>?_);lia;exact hq G2.length _ G3 ((cf.trans N6).trans (c3.mono (by simp))) to (by omega) (H2.frame c3 (by simp)) h3
 |some p=>rw[q]at hq;refine dC ?_;lia;have c3:Chg [] G2 (G2++[O.lst [D.tup [D.int (l.hand:Int),opD (some p)]]]):=Chg.add _ _;exact hq G2.length _ _ ((cf.trans N6).trans (c3.mono (by simp))) to (by omega) (H2.frame c3 (by simp)) (aM _ _)
end
def HOK(n i:Nat)(h:Hd):Prop:=h.num=i/\h.cnt=n/\(∀e∈h.av,e.1 < n)/\(h.av.map (·.1)).Nodup/\(h.pair=none->∀e∈h.av,e.2.isSome=true)
def EOK(n:Nat)(hs:List Hd)(e:Bool×Lt):Prop:=∃h,hs[e.2.hand]? =some h/\e.2.kpr < n/\e.2.num<=h.rnd/\(e.2.num=h.rnd->(e.1=false->e.2.pair=h.pair)/\(e.1=true->e.2.pair.isSome=h.pair.isNone))
def zy{l:List (Nat×Option Pr)}(hn:(l.map (·.1)).Nodup):((bQ l k p).map (·.1)).Nodup:=by
 unfold bQ;split
 · rw[qb_];have:((fun x:Nat×Option Pr=>x.1) ∘ fun e:Nat×Option Pr=>if e.1=k then (e.1,p)else e)=fun e=>e.1:=by
    funext e;show (if e.1=k then (e.1,p)else e).1=e.1;split <;> rfl
   rw[this];exact hn
 · rename_i hc;rw[qT_,List.nodup_append];refine⟨hn,by simp,fun x hx y hy=>?_⟩;simp at hy;subst hy;rintro rfl;obtain⟨e,he,ee⟩:=qH_.mp hx;exact hc (List.any_eq_true.mpr ⟨e,he,qZ_ ee⟩)
def xx{h:Hd}(hc:h.cnt=n)(hi:h.num=i)(p:Option Pr):HOK n i (roundF h p):=⟨hi,hc,by simp [roundF],by simp [roundF],by simp [roundF]⟩
def zx(h:Hd)(ps:List Pr):(bf h ps).1.num=h.num/\(bf h ps).1.rnd=h.rnd/\(bf h ps).1.atw=h.atw:=by unfold bf;cases h.val <;> exact⟨rfl,rfl,rfl⟩
def rA{h:Hd}(H:HOK n i h){x:Lt}(hx:x∈aR h):x.hand=i/\x.kpr < n/\x.num=h.rnd/\x.pair=h.pair:=by
 unfold aR at hx;obtain⟨k,hk,rfl⟩:=qH_.mp hx;unfold oo at hk;have:=List.mem_range.mp (List.mem_filter.mp hk).1;exact⟨H.1,by rw[<-H.2.1];exact this,rfl,rfl⟩
def Ey{h:Hd}(H:HOK n i h){l:Lt}(hk:l.kpr < n)(hp:h.pair=none->l.pair.isSome=true):HOK n i {h with av:=bQ h.av l.kpr l.pair}:=by
 refine⟨H.1,H.2.1,fun e he=>?_,zy H.2.2.2.1,fun z e he=>?_⟩
 · rcases qY he with w |w
   · rw[w.1];exact hk
   · exact H.2.2.1 e w
 · rcases qY he with w |w
   · rw[w.2];exact hp z
   · exact H.2.2.2.2 z e w
def GH{h:Hd}(H:HOK n i h){l:Lt}(hk:l.kpr < n)(hp:l.num=h.rnd->l.pair.isSome=h.pair.isNone):
 HOK n i (aZ h l).1/\((aZ h l).1.rnd=h.rnd/\(aZ h l).1.pair=h.pair\/(aZ h l).1.rnd=h.rnd+1)/\∀x∈(aZ h l).2.1,x.hand=i/\x.kpr < n/\x.num=(aZ h l).1.rnd/\x.pair=(aZ h l).1.pair:=by
 unfold aZ;split
 · exact⟨H,.inl ⟨rfl,rfl⟩,by simp⟩
 · rename_i hc;have HB:l.num=h.rnd:=by
    simp only[Bool.or_eq_true,Bool.not_eq_true',decide_eq_false_iff_not,not_or,Bool.not_eq_false,Decidable.not_not]at hc;exact hc.2
   have P:=Ey H hk (l:=l) fun z=>by rw[hp HB,z];rfl
   dsimp only;split
   · exact⟨P,.inl ⟨rfl,rfl⟩,by simp⟩
   · split
     · rename_i qp;dsimp only;have c1:=j9 {h with av:=bQ h.av l.kpr l.pair} (vals (bQ h.av l.kpr l.pair));have c2:=zx {h with av:=bQ h.av l.kpr l.pair} (vals (bQ h.av l.kpr l.pair));generalize bf {h with av:=bQ h.av l.kpr l.pair} (vals (bQ h.av l.kpr l.pair))=c at*;have R:=xx (n:=n) (i:=i) (h:=c.1) (c1.trans H.2.1) (c2.1.trans H.1) (some c.2);refine⟨R,.inr ?_,fun x hx=>rA R hx⟩;show c.1.rnd+1=h.rnd+1;rw[c2.2.1]
     · exact⟨⟨P.1,P.2.1,P.2.2.1,P.2.2.2.1,P.2.2.2.2⟩,.inl ⟨rfl,rfl⟩,by simp⟩
def WF.hok{st:Hl}(W:WF st)(e:st.hs[i]? =some h):HOK st.ks.length i h:=W.hk i h e
def WF.eok{st:Hl}(W:WF st)(h:e∈st.row):EOK st.ks.length st.hs e:=W.rw e h
def Am{st:Hl}(h:e∈bI st p s):e∈st.row:=by
 unfold bI at h;cases s with
 |true=>exact h
 |false=>exact List.mem_of_mem_eraseIdx h
def gM(W:WF st)(p:Nat)(s:Bool):WF (aE st p s).1:=by
 unfold aE;split
 · exact W
 · rename_i l hr;obtain⟨h,hh,hk,hn,hp⟩:=W.eok (qD_ hr);have hh:st.hs[l.hand]? =some h:=hh;rw[hh];dsimp only;obtain⟨o1,o2,o3⟩:=GH (W.hok hh) hk fun z=>(hp z).2 rfl;have gA:=(qB_.mp hh).1;generalize aZ h l=r at*;refine⟨fun i g e=>?_,fun e he=>?_,W.ksz,by simpa using W.hsz⟩
   · have e:(st.hs.set l.hand r.1)[i]? =some g:=e;by_cases z:i=l.hand
     · subst z;rw[qU_ gA]at e;cases e;exact o1
     · rw[qV_ (Ne.symm z)]at e;exact W.hk i g e
   · show EOK st.ks.length (st.hs.set l.hand r.1) e;have he:e∈bI st p s++r.2.1.map fun x=>(false,x):=he;rcases qG_.mp he with z |z
     · obtain⟨g,hg,q1,q2,q3⟩:=W.eok (Am z);by_cases w:e.2.hand=l.hand
       · rw[w]at hg;rw[hh]at hg;cases hg;refine⟨r.1,by rw[w];exact qU_ gA,q1,?_,fun c=>?_⟩
         · rcases o2 with ⟨o2,_⟩ |o2 <;> omega
         · rcases o2 with ⟨o2,o4⟩ |o2
           · rw[o4];exact q3 (by omega)
           · omega
       · exact⟨g,by rw[qV_ (Ne.symm w)];exact hg,q1,q2,q3⟩
     · obtain⟨x,hx,rfl⟩:=qH_.mp z;obtain⟨y1,y2,y3,y4⟩:=o3 x hx;exact⟨r.1,by rw[y1];exact qU_ gA,y2,Int.le_of_eq y3,fun _=>⟨fun _=>y4,fun z=>by cases z⟩⟩
 · rename_i l hr;obtain⟨h,hh,hk,hn,hp⟩:=W.eok (qD_ hr);have BW:st.ks[l.kpr]? =some st.ks[l.kpr]:=qA_ hk;rw[BW];dsimp only;generalize st.ks[l.kpr]=k;have EQ:l.num=h.rnd->l.pair=h.pair:=fun z=>(hp z).1 rfl;refine⟨fun i g e=>by
    show HOK (st.ks.set l.kpr (bp k l).1).length i g;rw[qX_]
    exact W.hk i g e,fun e he=>?_,by simpa using W.ksz,W.hsz⟩
   show EOK (st.ks.set l.kpr (bp k l).1).length st.hs e;rw[qX_];have he:e∈bI st p s++(match (bp k l).2 with |none=>[] |some x=>[(true,x)]):=he
   rcases qG_.mp he with z |z
   · exact W.eok (Am z)
   · unfold bp at z;split at z
     · rename_i e1;cases up:k.up with
       |false=>simp at z
       |true=>simp at z
     · rename_i x e1;have z:e=(true,x):=by simpa using z
       subst z;cases up:k.up with
       |false=>rw[up]at e1;cases e1
       |true=>
        rw[up]at e1;cases lp:l.pair with
        |none=>rw[lp]at e1;cases e1;exact⟨h,hh,hk,hn,fun c=>⟨fun z=>(by cases z),fun _=>by rw[<-EQ c,lp];rfl⟩⟩
        |some q=>rw[lp]at e1;cases e1;exact⟨h,hh,hk,hn,fun c=>⟨fun z=>(by cases z),fun _=>by rw[<-EQ c,lp];rfl⟩⟩
def wt(e:Bool×Lt):Nat:=if e.1 then 1 else 2
def pot(h:Hd):Nat:=if h.atw&&h.pair.isNone then 2*h.cnt else 0
def mea(st:Hl):Nat:=(st.row.map wt).sum+(st.hs.map pot).sum
def Bo{xs:List (Bool×Lt)}:∀{i:Nat} {e:Bool×Lt},xs[i]? =some e->(xs.map wt).sum=wt e+((xs.eraseIdx i).map wt).sum:=by
 induction xs with
 |nil=>intro i e h;simp at h
 |cons x r ih=>
  intro i e h;cases i with
  |zero=>simp at h;subst h;simp
  |succ i=>have:=ih (i:=i) (e:=e) (by simpa using h);simp only[List.eraseIdx_cons_succ,List.map_cons,List.sum_cons];omega
def sum_set{hs:List Hd}:∀{i:Nat} {h g:Hd},hs[i]? =some h->((hs.set i g).map pot).sum+pot h=(hs.map pot).sum+pot g:=by
 induction hs with
 |nil=>intro i h g e;simp at e
 |cons x r ih=>
  intro i h g e;cases i with
  |zero=>simp at e;subst e;simp;omega
  |succ i=>have:=ih (i:=i) (h:=h) (g:=g) (by simpa using e);simp only[List.set_cons_succ,List.map_cons,List.sum_cons];omega
def qb(ls:List Lt):((ls.map fun x=>(false,x)).map wt).sum=2*ls.length:=by
 induction ls with
 |nil=>rfl
 |cons x r ih=>simp only[List.map_cons,List.sum_cons,List.length_cons];rw[ih];show 2+2*r.length=2*(r.length+1);omega
def C7:pot (aZ h l).1+2*(aZ h l).2.1.length<=pot h:=by
 unfold aZ;split
 · simp
 · rename_i hc;have mH:h.atw=true:=by
    simp only[Bool.or_eq_true,Bool.not_eq_true',decide_eq_false_iff_not,not_or,Bool.not_eq_false,Decidable.not_not]at hc;exact hc.1
   dsimp only;split
   · simp [pot]
   · split
     · rename_i qp;dsimp only;have c1:=j9 {h with av:=bQ h.av l.kpr l.pair} (vals (bQ h.av l.kpr l.pair));generalize bf {h with av:=bQ h.av l.kpr l.pair} (vals (bQ h.av l.kpr l.pair))=c at*;have h1:pot (roundF c.1 (some c.2))=0:=by unfold pot roundF;simp
       have h2:pot h=2*h.cnt:=by unfold pot;rw[mH,qp];rfl
       have h3:(aR (roundF c.1 (some c.2))).length<=h.cnt:=by unfold aR;rw[qM_];have:=mC (roundF c.1 (some c.2));rw[show (roundF c.1 (some c.2)).cnt=h.cnt from c1]at this;exact this
       rw[h1,h2];omega
     · simp [pot]
def wL{st:Hl}(W:WF st)(hr:st.row[p]? =some e):mea (aE st p s).1+(if s then 0 else 1)<=mea st+(if s then 1 else 0):=by
 have off:((bI st p s).map wt).sum+(if s then 0 else wt e)=(st.row.map wt).sum:=by
  unfold bI;cases s with
  |true=>simp
  |false=>have:=Bo hr;simp;omega
 obtain⟨h,hh,hk,_⟩:=W.eok (qD_ hr);unfold aE;rw[hr];obtain⟨b,l⟩:=e;cases b with
 |true=>have hh:st.hs[l.hand]? =some h:=hh;dsimp only;rw[hh];dsimp only;have h1:=C7 (h:=h) (l:=l);have h2:=sum_set (g:=(aZ h l).1) hh;unfold mea;dsimp only;rw[qT_,List.sum_append,qb];have h3:wt (true,l)=1:=rfl;cases s <;> simp only[reduceIte,Bool.false_eq_true]at off ⊢ <;> omega
 |false=>
  dsimp only;have BW:st.ks[l.kpr]? =some st.ks[l.kpr]:=qA_ hk;rw[BW];dsimp only;unfold mea;dsimp only;rw[qT_,List.sum_append];have h3:wt (false,l)=2:=rfl;generalize bp st.ks[l.kpr] l=r;obtain⟨r1,r2⟩:=r;cases r2 with
  |none=>dsimp only;rw[List.map_nil,List.sum_nil];cases s <;> simp only[reduceIte,Bool.false_eq_true]at off ⊢ <;> omega
  |some x=>dsimp only;have h5:([(true,x)].map wt).sum=1:=rfl;rw[h5];cases s <;> simp only[reduceIte,Bool.false_eq_true]at off ⊢ <;> omega
def oP(st:Hl):st.row.length<=mea st:=by
 unfold mea;have:∀xs:List (Bool×Lt),xs.length<=(xs.map wt).sum:=by
  intro xs
  induction xs with
  |nil=>simp
  |cons x r ih=>
   simp only[List.length_cons,List.map_cons,List.sum_cons];have:1<=wt x:=by unfold wt;split <;> omega
   omega
 have:=this st.row;omega
section
variable{G:Hh}{Q:D->Hh->Prop}{E:Nat->Hh->Prop}{A:Ad}{st:Hl}
theorem uc{α β:Type}(f:α->β):∀(xs:List α) (i:Nat),(xs.map f).eraseIdx i=(xs.eraseIdx i).map f
 | [],_=>rfl
 |_ :: _,0=>rfl
 |x :: r,i+1=>by
  show f x :: (r.map f).eraseIdx i=f x :: (r.eraseIdx i).map f;rw[uc f r i]
def yC{p:Nat}{s:Bool}{e:Bool×Lt}(H:bo G A st)(W:WF st)(hr:st.row[p]? =some e)(hz:mea st<=800000)
 (hq:∀le A' G',Chg A.foot G G'->A.To A' G.length->G.length<=le->bo G' A' (aE st p s).1->G'[le]? =some (.lst ((aE st p s).2.map rE))->Q (.ref le) G'):run (cN [.ref A.a,.int (p:Int),.bl s]) G Q E:=by
 obtain⟨h,hh,hk,hn,hp⟩:=W.eok (qD_ hr);have Fb:=oP st;have ho:=H.o;have Q0:atI (st.row.map enD) (p:Int)=some (enD e):=bD hr;have VX:(st.row.map enD)[p]? =some (enD e):=by rw[qQ_,hr];rfl
 walk_at "f";unfold lP;refine az (aY (aQ (w_fld (w_var rfl (aX ho (by decide) rfl (w_var rfl (bL H.r Q0 ?_)))))));refine w_next ?_;walk_at "s";have step:run (sIf (eF (tOf (ae 2))) (bq (rK (aT (ae 0) 11) (ae 1))) aO [some (.ref A.a),some (.int (p:Int)),some (.bl s),some (enD e)]) G (fun r G1=>r=(.next,[some (.ref A.a),some (.int (p:Int)),some (.bl s),some (enD e)])/\Chg [A.lr] G G1/\bo G1 A {st with row:=bI st p s}) E:=by
  refine cJ (gj (fD (w_var rfl (dP ?_))));cases s with
  |true=>refine iD (kU ⟨rfl,Chg.refl _ _,H⟩)
  |false=>refine oz (dE (Ax (w_fld (w_var rfl (aX ho (by decide) rfl (fM H.r (w_var rfl ?_)))))));refine uk H.r VX (by rw[qM_];omega) fun G1 c1 l1 h1=>⟨rfl,c1,H.JR c1 ?_⟩;rw[h1];show some (O.lst ((st.row.map enD).eraseIdx p))=some (O.lst ((st.row.eraseIdx p).map enD));rw[uc]
 refine az (ak step (fun r G1 ⟨er,c1,H1⟩=>?_) fun _ _ z=>z);subst er;refine w_next ?_;have Mj:Chg A.foot G G1:=c1.mono (by intro n hn;simp at hn;subst hn;simp [Ad.foot]);have g1:=c1.1;have yo:=H1.o;have lo:(bI st p s).length<=st.row.length:=by
  unfold bI;cases s with
  |true=>exact qO_ _
  |false=>exact List.length_eraseIdx_le _ _
 obtain⟨b,l⟩:=e;unfold aE at hq;rw[hr]at hq;cases b with
 |true=>
  have hh:st.hs[l.hand]? =some h:=hh;dsimp only at hq;rw[hh]at hq;dsimp only at hq;obtain⟨k1,k2,k3,k4,k5⟩:=W.hk _ _ hh;have Sw:=W.ksz;refine az (cJ (fD (aQ (w_var rfl (w_c (aS rfl (dP (df ?_))))))));refine bB (bb (w_var rfl (bS yo (ai (aQ (w_var rfl (w_c (aS rfl (ax ?_)))))))));refine rX (st:={st with row:=bI st p s}) H1 hh (by omega) (Nat.le_trans (DL k4 k3 hk) (by omega)) (fun q1 q2 q3 x hx=>?_) (by show (bI st p s).length < 900000;omega) fun le A' G2 c2 to l2 H2 h2=>?_
  · rcases qY hx with w |w
    · rw[w.2,(hp q2).2 rfl,q3];rfl
    · exact k5 q3 x w
  · lia;exact hq le A' G2 (Mj.trans c2) ⟨to.a,to.lk,to.lh,to.lr,to.ka,to.ha,fun x hx=>(to.da x hx).imp id fun z=>by omega⟩ (by omega) H2 h2
 |false=>have BW:st.ks[l.kpr]? =some st.ks[l.kpr]:=qA_ hk;dsimp only at hq;rw[BW]at hq;dsimp only at hq;generalize st.ks[l.kpr]=k at hq BW;refine az (cJ (fD (aQ (w_var rfl (w_c (aS rfl (dP (dC ?_))))))));refine kU (w_next ?_);refine az (dE (bb (w_var rfl (bS yo (ai (aQ (w_var rfl (w_c (aS rfl (ax ?_))))))))));refine pv (st:={st with row:=bI st p s}) H1 BW (by show (bI st p s).length < 1000000;omega) fun G2 c2 H2=>?_;refine w_next ?_;refine bB (cD fun G3 c3 l3 h3=>?_);lia;have g2:=c2.1;exact hq G2.length A G3 ((Mj.trans c2).trans (c3.mono (by simp))) (Ad.To.refl _ _) (by omega) (H2.frame c3 (by simp)) h3
def jk{i:Int}(H:bo G A st)(hb:(i < 0\/(st.hs.length:Int)<=i)->E 1001 G)(hq:∀j a:Nat,i=(j:Int)->A.ha[j]? =some a->Q (.ref a) G):run (aU [.ref A.a,.int i]) G Q E:=by
 have ho:=H.o;walk_at "f";unfold hZ;lia;refine w_ite (fun c=>?_) fun c=>?_
 · lia;exact hb (.inl (of_decide_eq_true c))
 · have c:=of_decide_eq_false c;lia;refine cX H.h ?_;rw[show (refs A.ha).length=A.ha.length from qM_ _];lia;refine w_ite (fun c2=>?_) fun c2=>?_
   · lia;refine hb (.inr ?_)
     have:=of_decide_eq_true c2;rw[<-H.hl];exact this
   · have c2:=of_decide_eq_false c2;have gA:i.toNat < A.ha.length:=(by omega);have e1:A.ha[i.toNat]? =some A.ha[i.toNat]:=qA_ gA;have e2:atI (refs A.ha) i=some (.ref A.ha[i.toNat]):=by
      have:=jF e1
      rwa [Int.toNat_of_nonneg (by omega)]at this
     lia;refine bL H.h e2 ?_
     lia;exact hq i.toNat _ (by omega) e1
def lU{i:Int}(H:bo G A st)(hb:(i < 0\/(st.ks.length:Int)<=i)->E 1002 G)(hq:∀j a:Nat,i=(j:Int)->A.ka[j]? =some a->Q (.ref a) G):run (bi [.ref A.a,.int i]) G Q E:=by
 have ho:=H.o;walk_at "f";unfold fX;lia;refine w_ite (fun c=>?_) fun c=>?_
 · lia;exact hb (.inl (of_decide_eq_true c))
 · have c:=of_decide_eq_false c;lia;refine cX H.k ?_;rw[show (refs A.ka).length=A.ka.length from qM_ _];lia;refine w_ite (fun c2=>?_) fun c2=>?_
   · lia;refine hb (.inr ?_)
     have:=of_decide_eq_true c2;rw[<-H.kl];exact this
   · have c2:=of_decide_eq_false c2;have gA:i.toNat < A.ka.length:=(by omega);have e1:A.ka[i.toNat]? =some A.ka[i.toNat]:=qA_ gA;have e2:atI (refs A.ka) i=some (.ref A.ka[i.toNat]):=by
      have:=jF e1
      rwa [Int.toNat_of_nonneg (by omega)]at this
     lia;refine bL H.k e2 ?_
     lia;exact hq i.toNat _ (by omega) e1
def newRow(st:Hl)(h:Hd):List (Bool×Lt):=st.row++(aR h).map fun x=>(false,x)
def iU(h:Hd):(aR h).length<=h.cnt:=by unfold aR;rw[qM_];exact mC h
def eJ(st:Hl)(i:Nat)(h:Hd)(v:Option Int):Hl:={st with hs:=st.hs.set i (bz h v),row:=newRow st (bz h v)}
def qG(H:bo G A st){j a:Nat}(hj:A.ha[j]? =some a):∃h,st.hs[j]? =some h:=by
 have:j < st.hs.length:=by rw[<-H.hl];exact(qB_.mp hj).1
 exact⟨_,qA_ this⟩
def Dd(H:bo G A st){j a:Nat}(hj:A.ka[j]? =some a):∃k,st.ks[j]? =some k:=by
 have:j < st.ks.length:=by rw[<-H.kl];exact(qB_.mp hj).1
 exact⟨_,qA_ this⟩
def begun{i a d d' ll:Nat}{h:Hd}{v:Option Int}{G1:Hh}(H:bo G A st)(ha:A.ha[i]? =some a)(hd:A.da[i]? =some d)(c1:Chg [a] G G1)(l1:G.length<=d')(h1:fV G1 a d' (bz h v)):
 bo G1 {A with da:=A.da.set i d'} {st with hs:=st.hs.set i (bz h v)}/\A.To {A with da:=A.da.set i d'} G.length/\Chg A.foot G G1:=by
 refine⟨H.Lm ha hd (c1.mono (by simp)) (.inr l1) h1,⟨rfl,rfl,rfl,rfl,rfl,rfl,fun x hx=>?_⟩,c1.mono (by intro n hn;simp at hn;subst hn;exact wO ha)⟩;rcases List.mem_or_eq_of_mem_set hx with z |z
 · exact .inl z
 · rw[z];exact .inr l1
def Ft{i v:Int}(H:bo G A st)(W:WF st)(hz:mea st<=800000)(hb:(i < 0\/(st.hs.length:Int)<=i)->E 1001 G)(EH:∀(j:Nat) h,i=(j:Int)->st.hs[j]? =some h->h.atw=true->E 1004 G)
 (hq:∀(j:Nat) h,i=(j:Int)->st.hs[j]? =some h->h.atw=false->∀A' G',Chg A.foot G G'->A.To A' G.length->bo G' A' (eJ st j h (some v))->Q .non G'):run (gN [.ref A.a,.int i,.int v]) G Q E:=by
 have ho:=H.o;have Fb:=oP st;walk_at "f";unfold jZ;lia;refine jk H hb fun j a hi ha=>?_;obtain⟨h,hh⟩:=qG H ha;obtain⟨a',d,EM,hd,mH⟩:=H.hand hh;rw[ha]at EM;cases EM;obtain⟨k1,k2,_⟩:=W.hk _ _ hh;have Sw:=W.ksz;have tD:=mH.1;unfold hdF at tD;lia;refine tf mH (by omega) (fun q=>EH j h hi hh q) fun q ll d' G1 c1 l1 l2 h1 h2=>?_;obtain⟨H1,to,cf⟩:=begun (ll:=ll) H ha hd c1 l1 h1;have Mn:=iU (bz h (some v));have O6:(bz h (some v)).cnt=h.cnt:=rfl;lia;refine uG (A:={A with da:=A.da.set j d'}) H1 h2 (by show st.row.length+_<=_;omega) fun G2 c2 H2=>?_;lia;exact hq j h hi hh q _ G2 (cf.trans (c2.mono (by intro n hn;simp at hn;subst hn;simp [Ad.foot]))) to H2
def JC{i:Int}(H:bo G A st)(W:WF st)(hz:mea st<=800000)(hb:(i < 0\/(st.hs.length:Int)<=i)->E 1001 G)(EH:∀(j:Nat) h,i=(j:Int)->st.hs[j]? =some h->h.atw=true->E 1004 G)
 (hq:∀(j:Nat) h,i=(j:Int)->st.hs[j]? =some h->h.atw=false->∀A' G',Chg A.foot G G'->A.To A' G.length->bo G' A' (eJ st j h none)->Q .non G'):run (iH [.ref A.a,.int i]) G Q E:=by
 have ho:=H.o;have Fb:=oP st;walk_at "f";unfold kL;lia;refine jk H hb fun j a hi ha=>?_;obtain⟨h,hh⟩:=qG H ha;obtain⟨a',d,EM,hd,mH⟩:=H.hand hh;rw[ha]at EM;cases EM;obtain⟨k1,k2,_⟩:=W.hk _ _ hh;have Sw:=W.ksz;have tD:=mH.1;unfold hdF at tD;lia;refine vY mH (by omega) (fun q=>EH j h hi hh q) fun q ll d' G1 c1 l1 l2 h1 h2=>?_;obtain⟨H1,to,cf⟩:=begun (ll:=ll) H ha hd c1 l1 h1;have Mn:=iU (bz h none);have O6:(bz h none).cnt=h.cnt:=rfl;lia;refine uG (A:={A with da:=A.da.set j d'}) H1 h2 (by show st.row.length+_<=_;omega) fun G2 c2 H2=>?_;lia;exact hq j h hi hh q _ G2 (cf.trans (c2.mono (by intro n hn;simp at hn;subst hn;simp [Ad.foot]))) to H2
def Gw(H:bo G A st)(W:WF st)(hz:mea st<=800000)(hb:(i < 0\/(st.hs.length:Int)<=i)->E 1001 G)(E4:∀(j:Nat) h,i=(j:Int)->st.hs[j]? =some h->h.atw=false->∀G',Chg [] G G'->E 1005 G')
 (hq:∀(j:Nat) h,i=(j:Int)->st.hs[j]? =some h->h.atw=true->∀G',Chg A.foot G G'->bo G' A {st with row:=newRow st h}->Q (.int ((aR h).length:Int)) G'):run (gQ [.ref A.a,.int i]) G Q E:=by
 have ho:=H.o;have Fb:=oP st;walk_at "f";unfold kf;lia;refine jk H hb fun j a hi ha=>?_;obtain⟨h,hh⟩:=qG H ha;obtain⟨a',d,EM,hd,mH⟩:=H.hand hh;rw[ha]at EM;cases EM;obtain⟨k1,k2,_⟩:=W.hk _ _ hh;have Sw:=W.ksz;have tD:=mH.1;unfold hdF at tD;lia;refine vF mH (by omega) (fun q=>E4 j h hi hh q G (Chg.refl _ _)) fun q ll G1 x1 l1 h1=>?_;have H1:=H.frame (S:=[]) x1.chg (by simp);have yo:=H1.o;have Mn:=iU h;lia;refine uG H1 h1 (by omega) fun G2 c2 H2=>?_;have mU:ll∉ [A.lr]:=fun z=>by
  have:=ar H.r;simp at z;omega
 lia;refine cX (c2.get h1 mU) ?_
 rw[qM_];lia;exact hq j h hi hh q G2 (x1.chg.trans (c2.mono (by intro n hn;simp at hn;subst hn;simp [Ad.foot]))) H2
def GS(H:bo G A st)(hb:(i < 0\/(st.hs.length:Int)<=i)->E 1001 G)(E4:∀(j:Nat) h,i=(j:Int)->st.hs[j]? =some h->h.atw=false->E 1005 G)
 (hq:∀(j:Nat) h,i=(j:Int)->st.hs[j]? =some h->h.atw=true->∀G',Chg A.foot G G'->bo G' A {st with hs:=st.hs.set j {h with atw:=false}}->Q .non G'):run (gR [.ref A.a,.int i]) G Q E:=by
 have ho:=H.o;walk_at "f";unfold jY;lia;refine jk H hb fun j a hi ha=>?_;obtain⟨h,hh⟩:=qG H ha;obtain⟨a',d,EM,hd,mH⟩:=H.hand hh;rw[ha]at EM;cases EM;have tD:=mH.1;unfold hdF at tD;lia;refine BA mH (fun q=>E4 j h hi hh q) fun q G1 c1 h1=>?_;have H1:=H.Lm ha hd (c1.mono (by simp)) (.inl rfl) h1;have e1:A.da.set j d=A.da:=by obtain⟨l,e⟩:=qB_.mp hd;rw[<-e];exact List.set_getElem_self l
 rw[e1]at H1;lia;exact hq j h hi hh q G1 (c1.mono (by intro n hn;simp at hn;subst hn;exact wO ha)) H1
def sZ(H:bo G A st)(hb:(i < 0\/(st.ks.length:Int)<=i)->E 1002 G)
 (hq:∀(j:Nat) k,i=(j:Int)->st.ks[j]? =some k->∀G',Chg A.foot G G'->bo G' A {st with ks:=st.ks.set j {k with up:=false}}->Q (.bl k.up) G'):run (cV [.ref A.a,.int i]) G Q E:=by
 have ho:=H.o;walk_at "f";unfold fg;lia;refine lU H hb fun j a hi ha=>?_;obtain⟨k,hk⟩:=Dd H ha;have Fd:=H.kr j a k ha hk;have BR:=Fd;unfold iy krF at BR;lia;refine Lw Fd fun G1 c1 h1=>?_;lia;exact hq j k hi hk G1 (c1.mono (by intro n hn;simp at hn;subst hn;exact AE ha)) (H.K8 ha c1 h1)
def sV(H:bo G A st)(hb:(i < 0\/(st.ks.length:Int)<=i)->E 1002 G)
 (hq:∀(j:Nat) k,i=(j:Int)->st.ks[j]? =some k->∀G',Chg A.foot G G'->bo G' A {st with ks:=st.ks.set j {k with up:=true}}->Q (.bl (!k.up)) G'):run (cU [.ref A.a,.int i]) G Q E:=by
 have ho:=H.o;walk_at "f";unfold eY;lia;refine lU H hb fun j a hi ha=>?_;obtain⟨k,hk⟩:=Dd H ha;have Fd:=H.kr j a k ha hk;have BR:=Fd;unfold iy krF at BR;lia;refine Kt Fd fun G1 c1 h1=>?_;lia;exact hq j k hi hk G1 (c1.mono (by intro n hn;simp at hn;subst hn;exact AE ha)) (H.K8 ha c1 h1)
end
def runN(sel:Hl->Option Nat):Nat->Hl->Hl×List (Nat×Pr)
 |0,st=>(st,[])
 |k+1,st=>match sel st with
  |none=>(st,[])
  |some p=>((runN sel k (aE st p false).1).1,(aE st p false).2++(runN sel k (aE st p false).1).2)
def Sel(sel:Hl->Option Nat):Prop:=∀st p,sel st=some p->p < st.row.length
def bF{st:Hl}(W:WF st){p:Nat}(hp:p < st.row.length):mea (aE st p false).1+1<=mea st:=by
 have:=wL W (s:=false) (qA_ hp)
 simpa using this
theorem lj{sel:Hl->Option Nat}(hs:Sel sel):∀(k:Nat) (st:Hl),WF st->mea st<=k->runN sel k st=runN sel (mea st) st
 |0,st,W,h=>by rw[Nat.le_zero.mp h]
 |k+1,st,W,h=>by
  have key:∀m,mea st<=m+1->m<=k->runN sel (m+1) st=match sel st with
   |none=>(st,[])
   |some p=>((runN sel (mea (aE st p false).1) (aE st p false).1).1,(aE st p false).2++(runN sel (mea (aE st p false).1) (aE st p false).1).2):=by
   intro m hm Ts;show (match sel st with
    |none=>(st,[])
    |some p=>((runN sel m (aE st p false).1).1,(aE st p false).2++(runN sel m (aE st p false).1).2))=_
   cases q:sel st with
   |none=>rfl
   |some p=>
    dsimp only;have h1:=bF W (hs st p q);have ih:=lj hs k (aE st p false).1 (gM W p false) (by omega);rcases Nat.lt_or_ge m k with z |z
    · have Ws:runN sel m (aE st p false).1=runN sel (mea (aE st p false).1) (aE st p false).1:=by
       have a1:=lj hs m (aE st p false).1 (gM W p false) (by omega);exact a1
      rw[Ws]
    · have:m=k:=(by omega);rw[this,ih]
  rw[key k h (qO_ _)];cases q:mea st with
  |zero=>
   cases qs:sel st with
   |none=>rfl
   |some p=>have h1:=bF W (hs st p qs);omega
  |succ m=>rw[key m (by omega) (by omega)]
 termination_by k=>k
def cI(sel:Hl->Option Nat)(st:Hl):Hl×List (Nat×Pr):=runN sel (mea st) st
def cF{sel:Hl->Option Nat}{st:Hl}(h:sel st=none):cI sel st=(st,[]):=by
 unfold cI;cases mea st with
 |zero=>rfl
 |succ k=>show (match sel st with |none=>(st,[]) |some p=>_)=_;rw[h]
def gX{sel:Hl->Option Nat}(hs:Sel sel)(W:WF st)(h:sel st=some p):cI sel st=((cI sel (aE st p false).1).1,(aE st p false).2++(cI sel (aE st p false).1).2):=by
 unfold cI;have h1:=bF W (hs st p h);cases q:mea st with
 |zero=>omega
 |succ k=>
  show (match sel st with |none=>(st,[]) |some p=>_)=_
  rw[h];dsimp only;rw[lj hs k _ (gM W p false) (by omega)]
def gW(st:Hl)(p:Nat)(s:Bool):(aE st p s).2.length<=1:=by
 unfold aE;split
 · simp
 · split
   · simp
   · dsimp only;split <;> simp
 · split <;> simp
def lL{sel:Hl->Option Nat}(hs:Sel sel):∀(n:Nat) (st:Hl),WF st->mea st<=n->(cI sel st).2.length<=mea st:=by
 intro n
 induction n with
 |zero=>
  intro st W h;cases q:sel st with
  |none=>rw[cF q];simp
  |some p=>have:=bF W (hs st p q);omega
 |succ n ih=>
  intro st W h;cases q:sel st with
  |none=>rw[cF q];simp
  |some p=>have h1:=bF W (hs st p q);have h2:=ih (aE st p false).1 (gM W p false) (by omega);have h3:=gW st p false;rw[gX hs W q];dsimp only;rw[qN_];omega
def bZ(st:Hl):Option Nat:=if st.row=[]then none else some 0
def cO:Sel bZ:=fun st p h=>by
 unfold bZ at h;split at h
 · cases h
 · rename_i hn;cases h;cases q:st.row with
   |nil=>exact absurd q hn
   |cons _ _=>simp
def kz(i j:Nat)(e:Bool×Lt):Bool:=decide (e.2.hand=i)&&decide (e.2.kpr=j)
def bJ(i j:Nat)(st:Hl):Option Nat:=st.row.findIdx? (kz i j)
def cY(i j:Nat):Sel (bJ i j):=fun st p h=>by
 unfold bJ at h;exact(List.findIdx?_eq_some_iff_getElem.mp h).1
section
variable{G:Hh}{Q:D->Hh->Prop}{E:Nat->Hh->Prop}{A:Ad}{st:Hl}
def oN:Option Nat->D
 |none=>.non
 |some p=>.int (p:Int)
def kD{i j:Nat}(H:bo G A st)(hq:Q (oN (bJ i j st)) G):run (bM [.ref A.a,.int (i:Int),.int (j:Int)]) G Q E:=by
 have ho:=H.o;walk_at "f";unfold dN;lia;refine Gh H.r ?_;refine sh (xs:=jv (st.row.map enD)) (fun k σ G'=>G'=G/\(∀x∈st.row.take k,kz i j x=false)/\∃x y,σ=[some (.ref A.a),some (.int (i:Int)),some (.int (j:Int)),x,y]) ?_ ?_ ?_ _ 0 _ _ List.drop_zero (qf_ _) ⟨rfl,by simp,none,none,rfl⟩
 · rintro k σ G' ⟨rfl,_⟩;exact qZ_ H.r
 · rintro k x σ G' hx ⟨rfl,hP,_,_,rfl⟩;obtain⟨z,hz,rfl⟩:=Bx hx;obtain⟨e,he,rfl⟩:=qO hz;have LG:st.row.take (k+1)=st.row.take k++[e]:=take_succ he;unfold enD ltD;lia;refine aC (a:=D.tup [D.int (e.2.hand:Int),D.int (e.2.kpr:Int)]) (G':=G') rfl ?_;lia;refine w_eq (b:=kz i j e) ?_ ?_
   · show some ((decide ((e.2.hand:Int)=(i:Int))&&(decide ((e.2.kpr:Int)=(j:Int))&&true))&&decide (2=2))=some (kz i j e);unfold kz;congr 1;have a1:decide ((e.2.hand:Int)=(i:Int))=decide (e.2.hand=i):=decide_eq_decide.mpr (by omega);have a2:decide ((e.2.kpr:Int)=(j:Int))=decide (e.2.kpr=j):=decide_eq_decide.mpr (by omega);rw[a1,a2];simp
   lia;cases q:kz i j e with
   |true=>
    lia;have:bJ i j st=some k:=by unfold bJ;rw[List.findIdx?_eq_some_iff_getElem];obtain⟨hl,ee⟩:=qB_.mp he;refine⟨hl,by rw[ee];exact q,fun m hm=>?_⟩;have Vf:m < st.row.length:=(by omega);have:=hP st.row[m] (qD_ (i:=m) (by rw[List.getElem?_take,if_pos hm,qA_ Vf]));rw[this];exact qC_
    rw[this]at hq;exact hq
   |false=>
    lia;refine⟨rfl,fun x hx=>?_,_,_,rfl⟩
    rw[LG]at hx;rcases qG_.mp hx with z |z
    · exact hP x z
    · simp at z;rw[z];exact q
 · rintro σ G' ⟨rfl,hP,_,_,rfl⟩;lia;have:bJ i j st=none:=by
    unfold bJ;rw[List.findIdx?_eq_none_iff];intro x hx;refine hP x ?_;have:=Bj (xs:=st.row.map enD);rw[qM_]at this;show x∈st.row.take (jv (st.row.map enD)).length;rw[this,List.take_length];exact hx
   rw[this]at hq;exact hq
def Ho(H:bo G A st)(W:WF st)(hz:mea st<=800000)(hb:st.row=[]->E 1003 G)
 (hq:∀p:Nat,p=(n % (st.row.length:Int)).toNat->p < st.row.length->∀le A' G',Chg A.foot G G'->A.To A' G.length->G.length<=le->bo G' A' (aE st p s).1->G'[le]? =some (.lst ((aE st p s).2.map rE))->Q (.ref le) G'):run (gU [.ref A.a,.int n,.bl s]) G Q E:=by
 have ho:=H.o;walk_at "f";unfold ko;lia;refine aC (a:=!(st.row.map enD).isEmpty) (G':=G) ?_ ?_
 · unfold truth;dsimp only;rw[H.r]
 cases q:st.row with
 |nil=>rw[q]at hb;lia;exact hb rfl
 |cons e r=>
  refine w_ite (fun c=>by cases c) fun _=>?_;lia;refine cX H.r ?_;rw[qM_];have Ov:0 < (st.row.length:Int):=by rw[q,List.length_cons];omega
  lia;refine nE Ov ?_
  have h1:=Int.emod_nonneg n (show (st.row.length:Int)≠0 by omega);have h2:=Int.emod_lt_of_pos n Ov;have hp:(n % (st.row.length:Int)).toNat < st.row.length:=by omega
  have e1:n % (st.row.length:Int)=(((n % (st.row.length:Int)).toNat:Nat):Int):=by omega
  lia;rw[e1]
  refine yC (p:=(n % (st.row.length:Int)).toNat) H W (qA_ hp) hz fun le A' G' c to l h3 h4=>?_;lia;exact hq _ rfl hp le A' G' c to l h3 h4
structure Lp (sel:Hl->Option Nat) (G0:Hh) (A:Ad) (st:Hl) (le:Nat) (G:Hh) (A':Ad) (iA:Hl) (acc:List (Nat×Pr)):Prop where
 H:bo G A' iA
 W:WF iA
 m:mea iA<=mea st
 l:G[le]? =some (.lst (acc.map rE))
 r1:(cI sel iA).1=(cI sel st).1
 r2:acc++(cI sel iA).2=(cI sel st).2
 c:Chg A.foot G0 G
 to:A.To A' G0.length
 nf:le∉A'.foot
 ge:G0.length<=le
def Lp.start{sel:Hl->Option Nat}{G1:Hh}(H:bo G A st)(W:WF st)(c1:Chg [] G G1)(h1:G1[G.length]? =some (.lst [])):Lp sel G A st G.length G1 A st []:=
 ⟨H.frame c1 (by simp),W,qO_ _,h1,rfl,rfl,c1.mono (by simp),Ad.To.refl _ _,fun z=>by have:=H.lt _ z;omega,qO_ _⟩
def Lp.step{sel:Hl->Option Nat}(hs:Sel sel){G0:Hh}{le ln p:Nat}{A' A2:Ad}{iA:Hl}{acc:List (Nat×Pr)}{G1 G2:Hh}(L:Lp sel G0 A st le G A' iA acc)(hp:sel iA=some p)
 (c1:Chg A'.foot G G1) (to:A'.To A2 G.length) (H2:bo G1 A2 (aE iA p false).1) (c2:Chg [le] G1 G2) (h2:G2[le]? =some (.lst ((acc++(aE iA p false).2).map rE))):Lp sel G0 A st le G2 A2 (aE iA p false).1 (acc++(aE iA p false).2):=by
 have h1:=bF L.W (hs iA p hp);have hr:=gX hs L.W hp;have g:=L.c.1;have gl:=ar L.l;have Ux:le∉A2.foot:=fun z=>(to.foot le z).elim L.nf fun w=>by omega
 refine⟨H2.frame c2 (by intro n hn;simp at hn;rw[hn];exact Ux),gM L.W p false,by have:=L.m;omega,h2,?_,?_,?_,L.to.trans to g,Ux,L.ge⟩
 · rw[<-L.r1,hr]
 · rw[<-L.r2,hr,List.append_assoc]
 · refine(L.c.trans' c1 fun n hn=>L.to.foot n hn).trans' c2 fun n hn=>?_;simp at hn;rw[hn];exact .inr L.ge
def FN(H:bo G A st)(W:WF st)(hz:mea st<=800000)(hq:∀le A' G',Chg A.foot G G'->A.To A' G.length->G.length<=le->le∉A'.foot->bo G' A' (cI bZ st).1->G'[le]? =some (.lst ((cI bZ st).2.map rE))->Q (.ref le) G'):run (gS [.ref A.a]) G Q E:=by
 have hlen:=lL cO (mea st) st W (qO_ _);walk_at "f";unfold jM;refine az (aY (cD fun G1 c1 l1 h1=>w_next ?_));walk_at "s";refine az (sG (m:=mea st) (fun σ G' m=>∃A' iA acc,m=mea iA/\σ=[some (.ref A.a),some (.ref G.length)]/\Lp bZ G A st G.length G' A' iA acc) ?_ (by omega) ⟨A,st,[],rfl,rfl,Lp.start H W c1 h1⟩);rintro σ G' m ⟨A',iA,acc,rfl,rfl,L⟩;have ho:G'[A.a]? =some (.ins 2 [(9,.ref A'.lk),(10,.ref A'.lh),(11,.ref A'.lr)]):=by rw[<-L.to.a];exact L.H.o
 have WA:=L.H.r;refine fD (w_fld (w_var rfl (aX ho (by decide) rfl ?_)));refine aC (a:=!(iA.row.map enD).isEmpty) (G':=G') ?_ ?_
 · unfold truth;dsimp only;rw[WA]
 cases q:iA.row with
 |nil=>
  rw[List.map_nil];refine(if_neg (show ¬(!([]:List D).isEmpty)=true by decide)).mpr ?_;refine w_next ?_;have hs:bZ iA=none:=by unfold bZ;rw[if_pos q]
  have hr:=cF hs;have r1:=L.r1;have r2:=L.r2;rw[hr]at r1 r2;dsimp only at r1 r2;rw[qY_]at r2;lia;have HH:=L.H;rw[r1]at HH;have ll:=L.l;rw[r2]at ll;exact hq _ A' G' L.c L.to L.ge L.nf HH ll
 |cons e r=>
  refine(if_pos (show (!(List.map enD (e :: r)).isEmpty)=true from rfl)).mpr ?_;have hs:bZ iA=some 0:=by unfold bZ;rw[if_neg (by rw[q];simp)]
  have h0:iA.row[0]? =some e:=by rw[q];rfl
  have hm:=L.m;have acl:acc.length<=800000:=by have:=congrArg List.length L.r2;rw[qN_]at this;omega
  have R4:=gW iA 0 false;refine dE (tR (w_var rfl (fM L.l (bb (w_var rfl (bS ho (ai (w_c (ai (w_c (ax ?_)))))))))));rw[<-L.to.a];refine yC (p:=0) (s:=false) L.H L.W h0 (by omega) fun ln A2 G2 c2 to l2 H2 h2=>?_;have LD:=c2.get L.l L.nf;refine gk LD h2 (by simp [aw];omega) fun G3 c3 l3 h3=>?_;rw[<-qT_]at h3;have L2:=L.step (ln:=ln) cO hs c2 to H2 c3 h3;have:=bF L.W (cO iA 0 hs);exact⟨mea (aE iA 0 false).1,by omega,A2,_,_,rfl,by rw[L.to.a],L2⟩
def qy{i j:Int}(H:bo G A st)(W:WF st)(hz:mea st<=800000)(hb:(i < 0\/(st.hs.length:Int)<=i)->E 1001 G)(WM:¬(i < 0\/(st.hs.length:Int)<=i)->(j < 0\/(st.ks.length:Int)<=j)->E 1002 G)
 (hq:∀p k:Nat,i=(p:Int)->j=(k:Int)->p < st.hs.length->k < st.ks.length->∀le A' G',Chg A.foot G G'->A.To A' G.length->G.length<=le->le∉A'.foot->bo G' A' (cI (bJ p k) st).1->G'[le]? =some (.lst ((cI (bJ p k) st).2.map rE))->Q (.ref le) G'):run (cn [.ref A.a,.int i,.int j]) G Q E:=by
 have Uy:=H.o;walk_at "f";unfold dQ;refine az (dE (bb (w_var rfl (bS Uy (ai (w_var rfl (ax ?_)))))));refine jk H hb fun p a hi ha=>?_;have gZ:p < st.hs.length:=by rw[<-H.hl];exact(qB_.mp ha).1
 refine w_next ?_;refine az (dE (bb (w_var rfl (bS Uy (ai (w_var rfl (ax ?_)))))));refine lU H (WM (by omega)) fun k a2 hj LY=>?_;have Ph:k < st.ks.length:=by rw[<-H.kl];exact(qB_.mp LY).1
 subst hi hj;have hq:=hq p k rfl rfl gZ Ph;have hlen:=lL (cY p k) (mea st) st W (qO_ _);refine w_next ?_;refine az (aY (cD fun G1 c1 l1 h1=>w_next ?_));walk_at "s";have H1:=H.frame c1 (by simp);refine az (aY (bb (w_var rfl (bS H1.o (ai (w_var rfl (ai (w_var rfl (ax ?_)))))))));refine kD H1 ?_;refine w_next ?_;walk_at "s";refine az (sG (m:=mea st) (fun σ G' m=>∃A' iA acc,m=mea iA/\σ=[some (.ref A.a),some (.int (p:Int)),some (.int (k:Int)),some (.ref G.length),some (oN (bJ p k iA))]/\Lp (bJ p k) G A st G.length G' A' iA acc) ?_ (by omega) ⟨A,st,[],rfl,rfl,Lp.start H W c1 h1⟩);rintro σ G' m ⟨A',iA,acc,rfl,rfl,L⟩;have ho:G'[A.a]? =some (.ins 2 [(9,.ref A'.lk),(10,.ref A'.lh),(11,.ref A'.lr)]):=by rw[<-L.to.a];exact L.H.o
 refine mP (yq (w_var rfl (vH (gK ?_))));cases hs:bJ p k iA with
 |none=>refine(if_neg (show ¬(!decide (oN none=D.non))=true by decide)).mpr ?_;refine w_next ?_;have hr:=cF hs;have r1:=L.r1;have r2:=L.r2;rw[hr]at r1 r2;dsimp only at r1 r2;rw[qY_]at r2;lia;have HH:=L.H;rw[r1]at HH;have ll:=L.l;rw[r2]at ll;exact hq _ A' G' L.c L.to L.ge L.nf HH ll
 |some q=>
  refine(if_pos (show (!decide (oN (some q)=D.non))=true from rfl)).mpr ?_;have UW:=cY p k iA q hs;have h0:iA.row[q]? =some iA.row[q]:=qA_ UW;have hm:=L.m;have acl:acc.length<=800000:=by have:=congrArg List.length L.r2;rw[qN_]at this;omega
  have R4:=gW iA q false;refine az (dE (tR (w_var rfl (fM L.l (bb (w_var rfl (bS ho (ai (w_var rfl (ai (w_c (ax ?_))))))))))));rw[<-L.to.a];refine yC (p:=q) (s:=false) L.H L.W h0 (by omega) fun ln A2 G2 c2 to l2 H2 h2=>?_;have LD:=c2.get L.l L.nf;refine gk LD h2 (by simp [aw];omega) fun G3 c3 l3 h3=>?_;rw[<-qT_]at h3;have L2:=L.step (ln:=ln) (cY p k) hs c2 to H2 c3 h3;have lm:=bF L.W (cY p k iA q hs);refine w_next ?_;have zK:G3[A'.a]? =some (.ins 2 [(9,.ref A2.lk),(10,.ref A2.lh),(11,.ref A2.lr)]):=by rw[L.to.a,<-L2.to.a];exact L2.H.o
  refine aY (bb (w_var rfl (bS zK (ai (w_var rfl (ai (w_var rfl (ax ?_))))))));rw[L.to.a,<-L2.to.a];refine kD L2.H ?_;exact⟨mea (aE iA q false).1,by omega,A2,_,_,rfl,by walk_at "s",L2⟩
end
def word(b:Bool):Str:=if b then "read" else "write"
def stD:Option (Int×Int)->D
 |none=>.non
 |some s=>.tup [.int s.1,.int s.2]
structure Wk where
 hand:Nat
 rd:Bool
 val:Option Int
 beg:Nat
 en:Option Nat
 bY:Option (Int×Int)
def nD:Option Nat->D
 |none=>.non
 |some n=>.int (n:Int)
def wkF(w:Wk):List (Nat×D):=[(12,.int (w.hand:Int)),(13,.str (word w.rd)),(3,oD w.val),(14,.int (w.beg:Int)),(15,nD w.en),(16,stD w.bY)]
def pC(G:Hh)(a:Nat)(w:Wk):Prop:=G[a]? =some (.ins 3 (wkF w))
def fS(w:Wk):D:= .tup [.int (w.hand:Int),.str (word w.rd),oD w.val,.int (w.beg:Int),nD w.en]
structure Sy where
 af:Hl
 ao:List Wk
 last:List (Nat×Nat)
 aP:Nat
structure Sd where
 s:Nat
 lw:Nat
 ld:Nat
 wa:List Nat
 A:Ad
def gJ(l:List (Nat×Nat)):List (Key×D):=l.map fun e=>(.inl (e.1:Int),.int (e.2:Int))
def Sd.own(S:Sd):List Nat:=[S.s,S.lw,S.ld]++S.wa
structure cy (G:Hh) (S:Sd) (y:Sy):Prop where
 o:G[S.s]? =some (.ins 4 [(17,.ref S.A.a),(18,.ref S.lw),(19,.ref S.ld),(20,.int (y.aP:Int))])
 w:G[S.lw]? =some (.lst (refs S.wa))
 d:G[S.ld]? =some (.dK (gJ y.last))
 wl:S.wa.length=y.ao.length
 wk:∀(i:Nat) a w,S.wa[i]? =some a->y.ao[i]? =some w->pC G a w
 H:bo G S.A y.af
 nd:S.own.Nodup
 dj:∀x∈S.own,x∉S.A.foot
structure SWF (y:Sy):Prop where
 W:WF y.af
 la:∀e∈y.last,e.1 < y.af.hs.length/\e.2 < y.ao.length
 nd:(y.last.map (·.1)).Nodup
 atw:∀(i:Nat) h,y.af.hs[i]? =some h->h.atw=true->i∈y.last.map (·.1)
section
variable{G G':Hh}{Q:D->Hh->Prop}{E:Nat->Hh->Prop}{S:Sd}{y:Sy}
def cy.lt(Y:cy G S y):∀n∈S.own,n < G.length:=by
 intro n hn;unfold Sd.own at hn;rcases qG_.mp hn with z |z
 · simp only[qS_,List.not_mem_nil,or_false]at z;rcases z with rfl |rfl |rfl
   · exact ar Y.o
   · exact ar Y.w
   · exact ar Y.d
 · obtain⟨i,hi,e⟩:=List.getElem_of_mem z;have h1:S.wa[i]? =some n:=(by rw[qA_ hi,e]);have h2:i < y.ao.length:=by rw[<-Y.wl];exact hi
   exact ar (Y.wk i n _ h1 (qA_ h2))
def xi{i a:Nat}(h:S.wa[i]? =some a):a∈S.own:=by unfold Sd.own;simp [qD_ h]
def jl(nd:S.own.Nodup):S.s≠S.lw/\S.s≠S.ld/\S.lw≠S.ld/\S.wa.Nodup/\∀x∈S.wa,x≠S.s/\x≠S.lw/\x≠S.ld:=by
 unfold Sd.own at nd;rw[List.nodup_append]at nd;obtain⟨n1,n2,n3⟩:=nd;simp only[List.nodup_cons,qS_,List.not_mem_nil,or_false,not_or]at n1;obtain⟨⟨a1,a2⟩,a3,_⟩:=n1;exact⟨a1,a2,a3,n2,fun x hx=>⟨fun z=>n3 S.s (by simp) x hx z.symm,fun z=>n3 S.lw (by simp) x hx z.symm,fun z=>n3 S.ld (by simp) x hx z.symm⟩⟩
theorem cy.af{A':Ad}{st:Hl}(Y:cy G S y)(c:Chg S.A.foot G G')(to:S.A.To A' G.length)(H:bo G' A' st):cy G' {S with A:=A'} {y with af:=st}:=by
 have ns:∀x∈S.own,x∉S.A.foot:=Y.dj;refine⟨?_,c.get Y.w (ns _ (by simp [Sd.own])),c.get Y.d (ns _ (by simp [Sd.own])),Y.wl,fun i a w h1 h2=>c.get (Y.wk i a w h1 h2) (ns _ (xi h1)),H,Y.nd,fun x hx z=>?_⟩
 · show G'[S.s]? =some (.ins 4 [(17,.ref A'.a),(18,.ref S.lw),(19,.ref S.ld),(20,.int (y.aP:Int))]);rw[to.a];exact c.get Y.o (ns _ (by simp [Sd.own]))
 · rcases to.foot x z with w |w
   · exact Y.dj x hx w
   · have:=Y.lt x hx;omega
def cy.Na{i a:Nat}{w:Wk}(Y:cy G S y)(hi:S.wa[i]? =some a)(c:Chg [a] G G')(hw:pC G' a w):cy G' S {y with ao:=y.ao.set i w}:=by
 obtain⟨_,_,_,nw,q⟩:=jl Y.nd;have ha:=qD_ hi;obtain⟨e1,e2,e3⟩:=q a ha;have ns:∀n,n≠a->n∉ [a]:=fun n h z=>h (by simpa using z);refine⟨c.get Y.o (ns _ (Ne.symm e1)),c.get Y.w (ns _ (Ne.symm e2)),c.get Y.d (ns _ (Ne.symm e3)),by simp [Y.wl],fun j b v h1 h2=>?_,Y.H.frame c (by intro n hn;simp at hn;rw[hn];exact Y.dj a (xi hi)),Y.nd,Y.dj⟩;by_cases z:j=i
 · subst z;rw[hi]at h1;cases h1;have:j < y.ao.length:=by rw[<-Y.wl];exact(qB_.mp hi).1
   have h2:(y.ao.set j w)[j]? =some v:=h2;rw[qU_ this]at h2;cases h2;exact hw
 · have h2:(y.ao.set i w)[j]? =some v:=h2;rw[qV_ (Ne.symm z)]at h2;refine c.get (Y.wk j b v h1 h2) (ns _ fun w=>z ?_);subst w;exact get_inj nw h1 hi
theorem cy.frame{T:List Nat}(Y:cy G S y)(c:Chg T G G')(hs:∀n∈T,n∉S.own/\n∉S.A.foot):cy G' S y:=by
 have ns:∀x∈S.own,x∉T:=fun x hx z=>(hs x z).1 hx;exact⟨c.get Y.o (ns _ (by simp [Sd.own])),c.get Y.w (ns _ (by simp [Sd.own])),c.get Y.d (ns _ (by simp [Sd.own])),Y.wl,fun i a w h1 h2=>c.get (Y.wk i a w h1 h2) (ns _ (xi h1)),Y.H.frame c fun n hn=>(hs n hn).2,Y.nd,Y.dj⟩
def uy{l:List (Nat×Nat)}(nd:(l.map (·.1)).Nodup)(h:(i,p)∈l):look (gJ l) (.inl (i:Int))=some (.int (p:Int)):=by
 induction l with
 |nil=>cases h
 |cons e r ih=>
  obtain⟨k,q⟩:=e;rw[List.map_cons,List.nodup_cons]at nd;unfold gJ look;rw[List.map_cons,List.find?_cons];by_cases z:k=i
  · subst z;rcases qS_.mp h with w |w
    · cases w;rw[qZ_ rfl];rfl
    · exact absurd (qH_.mpr ⟨_,w,rfl⟩) nd.1
  · have zz:¬((Sum.inl (k:Int):Key)= .inl (i:Int)):=fun w=>z (by have:=Sum.inl.inj w;omega);rw[qa_ zz];rcases qS_.mp h with w |w
    · cases w;exact absurd rfl z
    · exact ih nd.2 w
def putL(l:List (Nat×Nat))(k p:Nat):List (Nat×Nat):=if (l.any fun e=>decide (e.1=k))then l.map fun e=>if e.1=k then (e.1,p)else e else l++[(k,p)]
def Kc(l:List (Nat×Nat))(k p:Nat):put (gJ l) (.inl (k:Int)) (.int (p:Int))=gJ (putL l k p):=by
 have key:∀e:Nat×Nat,decide ((Sum.inl (e.1:Int):Key)= .inl (k:Int))=decide (e.1=k):=fun e=>decide_eq_decide.mpr ⟨fun z=>by have:=Sum.inl.inj z;omega,fun z=>by rw[z]⟩;unfold put putL;have e1:((gJ l).any fun kv=>decide (kv.1=(.inl (k:Int):Key)))=l.any fun e=>decide (e.1=k):=by unfold gJ;rw[List.any_map];congr 1;funext e;exact key e
 rw[e1];by_cases c:(l.any fun e=>decide (e.1=k))=true
 · rw[if_pos c,if_pos c];unfold gJ;rw[qb_,qb_];apply List.map_congr_left;intro e _;by_cases z:e.1=k
   · have z':(Sum.inl (e.1:Int):Key)= .inl (k:Int):=(by rw[z]);show (if (Sum.inl (e.1:Int):Key)= .inl (k:Int)then ((Sum.inl (e.1:Int):Key),D.int (p:Int))else (Sum.inl (e.1:Int),D.int (e.2:Int)))=(Sum.inl ((if e.1=k then (e.1,p)else e).1:Int),D.int ((if e.1=k then (e.1,p)else e).2:Int));rw[if_pos z',if_pos z]
   · have z':¬(Sum.inl (e.1:Int):Key)= .inl (k:Int):=fun w=>z (by have:=Sum.inl.inj w;omega);show (if (Sum.inl (e.1:Int):Key)= .inl (k:Int)then ((Sum.inl (e.1:Int):Key),D.int (p:Int))else (Sum.inl (e.1:Int),D.int (e.2:Int)))=(Sum.inl ((if e.1=k then (e.1,p)else e).1:Int),D.int ((if e.1=k then (e.1,p)else e).2:Int));rw[if_neg z',if_neg z]
 · rw[if_neg c,if_neg c];unfold gJ;rw[qT_];rfl
def wA(ha:G[a]? =some (.ins 3 []))(hq:∀G',Chg [a] G G'->pC G' a ⟨i,rd,v,b,none,none⟩->Q .non G'):run (iP [.ref a,.int (i:Int),.str (word rd),oD v,.int (b:Int)]) G Q E:=by
 walk_at "f";unfold kS;lia;refine aL ha ⟨by decide,qP_ rfl⟩ fun G1 c1 l1 h1=>?_;lia;refine aL h1 ⟨by decide,qP_ rfl⟩ fun G2 c2 l2 h2=>?_;lia;refine aL h2 ⟨by decide,qP_ rfl⟩ fun G3 c3 l3 h3=>?_;lia;refine aL h3 ⟨by decide,qP_ rfl⟩ fun G4 c4 l4 h4=>?_;lia;refine aL h4 ⟨by decide,qP_ rfl⟩ fun G5 c5 l5 h5=>?_;lia;refine aL h5 ⟨by decide,qP_ rfl⟩ fun G6 c6 l6 h6=>?_;lia;exact hq G6 (((((c1.trans c2).trans c3).trans c4).trans c5).trans c6) h6
def kR(y:Sy)(i:Nat)(rd:Bool)(v:Option Int):Sy:={y with ao:=y.ao++[⟨i,rd,v,y.aP,none,none⟩],last:=putL y.last i y.ao.length}
def Ea(h:e∈putL l k p):e=(k,p)\/e∈l:=by
 unfold putL at h;split at h
 · obtain⟨x,hx,ex⟩:=qH_.mp h;split at ex
   · rename_i z;subst ex;rw[z];exact .inl rfl
   · subst ex;exact .inr hx
 · rcases qG_.mp h with z |z
   · exact .inr z
   · simp at z;rw[z];exact .inl rfl
def pS(Y:cy G S y)(hz:y.ao.length<=1000)(Qj:y.last.length<=1000)(hq:∀a G',Chg (S.own++S.A.foot) G G'->G.length<=a->cy G' {S with wa:=S.wa++[a]} (kR y i rd v)->Q (.int (y.ao.length:Int)) G'):run (cm [.ref S.s,.int (i:Int),.str (word rd),oD v]) G Q E:=by
 obtain⟨n1,n2,n3,n4,n5⟩:=jl Y.nd;have ho:=Y.o;walk_at "f";unfold fL;lia;refine cX Y.w ?_;rw[show (refs S.wa).length=S.wa.length from qM_ _,Y.wl];lia;refine fM Y.w ?_;refine lZ (ai (w_var rfl (ai (w_var rfl (ai (w_var rfl (ai (w_fld (w_var rfl (aX ho (by decide) rfl (ax ?_)))))))))));intro G1 c1 l1 h1;refine wA h1 fun G2 c2 h2=>⟨rfl,?_⟩;have nw:∀x∈S.own,x∉ [G.length]:=fun x hx z=>by have:=Y.lt x hx;simp at z;omega
 have w2:=c2.get (c1.get Y.w (by simp)) (nw _ (by simp [Sd.own]));refine dm w2 (by rw[show (refs S.wa).length=S.wa.length from qM_ _,Y.wl];unfold aw;omega) fun G3 c3 l3 h3=>?_;have Hv:Chg [] G G2:=(c1.trans' c2 (by intro n hn;simp at hn;rw[hn];exact .inr (qO_ _)));have Y2:=Y.frame Hv (by simp);have Pf:∀x,x≠S.lw->x∉ [S.lw]:=fun x h z=>h (by simpa using z);have o3:=c3.get Y2.o (Pf _ n1);have d3:=c3.get Y2.d (Pf _ (Ne.symm n3));lia;refine cq d3 rfl (by unfold gJ;rw[qM_];unfold aw;omega) fun G4 c4 l4 h4=>?_;rw[Kc]at h4;lia;have WV:=Hv.1;have O3:∀x,x≠S.ld->x∉ [S.ld]:=fun x h z=>h (by simpa using z);have U4:=ar Y.w;have Wl:=ar Y.d;refine hq G.length G4 ?_ (qO_ _) ⟨c4.get o3 (O3 _ n2),?_,h4,by simp [kR,Y.wl],fun j b w e1 e2=>?_,?_,?_,fun x hx z=>?_⟩
 · refine((Hv.mono (by simp)).trans (c3.mono ?_)).trans (c4.mono ?_)
   · intro n hn;simp at hn;rw[hn];simp [Sd.own]
   · intro n hn;simp at hn;rw[hn];simp [Sd.own]
 · have:=c4.get h3 (O3 _ n3);show G4[S.lw]? =some (.lst (refs (S.wa++[G.length])));rw[this];unfold refs;rw[qT_];rfl
 · have e1:(S.wa++[G.length])[j]? =some b:=e1;have e2:(y.ao++[⟨i,rd,v,y.aP,none,none⟩])[j]? =some w:=e2;by_cases hj:j < S.wa.length
   · rw[qK_ hj]at e1;rw[qK_ (by rw[<-Y.wl];exact hj)]at e2;have q:=n5 b (qD_ e1);exact c4.get (c3.get (Y2.wk j b w e1 e2) (Pf _ q.2.1)) (O3 _ q.2.2)
   · have Vi:j=S.wa.length:=by
      have:=(qB_.mp e1).1;simp at this;omega
     subst Vi;simp at e1;rw[Y.wl]at e2;simp at e2;subst e1 e2;exact c4.get (c3.get h2 (Pf _ (by omega))) (O3 _ (by omega))
 · exact((Y2.H.frame c3 (by intro n hn;simp at hn;rw[hn];exact Y.dj _ (by simp [Sd.own]))).frame c4 (by intro n hn;simp at hn;rw[hn];exact Y.dj _ (by simp [Sd.own])))
 · have nd:=Y.nd;unfold Sd.own at nd ⊢;dsimp only;rw[<-List.append_assoc,List.nodup_append];refine⟨nd,by simp,fun x hx z hz w=>?_⟩;simp at hz;have:=Y.lt x hx;omega
 · unfold Sd.own at hx;dsimp only at hx;rw[<-List.append_assoc]at hx;rcases qG_.mp hx with w |w
   · exact Y.dj x w z
   · simp at w;have:=Y.H.lt x z;omega
end
def lastOf(l:List (Nat×Nat))(i:Nat):Nat:=((l.find? fun e=>decide (e.1=i)).map (·.2)).getD 0
def su{l:List (Nat×Nat)}(h:i∈l.map (·.1)):(i,lastOf l i)∈l:=by
 unfold lastOf;cases q:l.find? fun e=>decide (e.1=i)with
 |none=>obtain⟨e,he,ee⟩:=qH_.mp h;exact absurd (qZ_ ee) (List.find?_eq_none.mp q e he)
 |some e=>have h1:=List.find?_some q;have h2:=List.mem_of_find?_eq_some q;have h3:e.1=i:=of_decide_eq_true h1;show (i,e.2)∈l;rw[<-h3];exact h2
def iQ(y:Sy)(q:Nat)(f:Wk->Wk):Sy:=match y.ao[q]? with
 |none=>y
 |some w=>{y with ao:=y.ao.set q (f w)}
def tx(y:Sy)(p:Pr)(w:Wk):Wk:={w with val:=some p.2,en:=some y.aP}
def hJ(y:Sy)(e:Nat×Pr):Sy:=iQ y (lastOf y.last e.1) (tx y e.2)
def du(y:Sy)(es:List (Nat×Pr)):Sy:=es.foldl hJ y
def rl(y:Sy)(q:Nat)(f:Wk->Wk):(iQ y q f).last=y.last/\(iQ y q f).af=y.af/\(iQ y q f).aP=y.aP/\(iQ y q f).ao.length=y.ao.length:=by
 unfold iQ;split <;> simp
theorem iF:∀(es:List (Nat×Pr)) (y:Sy),(du y es).last=y.last/\(du y es).af=y.af/\(du y es).aP=y.aP/\(du y es).ao.length=y.ao.length
 | [],y=>⟨rfl,rfl,rfl,rfl⟩
 |e :: r,y=>by
  have h1:=iF r (hJ y e);have h2:=rl y (lastOf y.last e.1) (tx y e.2);unfold du at*;rw[List.foldl_cons];exact⟨h1.1.trans h2.1,h1.2.1.trans h2.2.1,h1.2.2.1.trans h2.2.2.1,h1.2.2.2.trans h2.2.2.2⟩
def seD(y:Sy)(e:Nat×Pr):D:= .tup [.int (lastOf y.last e.1:Int),.int e.2.2]
section
variable{G G':Hh}{Q:D->Hh->Prop}{E:Nat->Hh->Prop}{S:Sd}{y:Sy}
def cy.Nt(Y:cy G S y){i:Nat}{w:Wk}(h:y.ao[i]? =some w):∃a,S.wa[i]? =some a/\pC G a w:=by
 have:i < S.wa.length:=by rw[Y.wl];exact(qB_.mp h).1
 exact⟨_,qA_ this,Y.wk i _ w (qA_ this) h⟩
def zG{e:Nat×Pr}(Y:cy G S y)(W:SWF y)(he:e.1∈y.last.map (·.1))(hq:∀G',Chg S.own G G'->cy G' S (hJ y e)->Q (seD y e) G'):run (eA [.ref S.s,.int (e.1:Int),pD e.2]) G Q E:=by
 have hm:=su he;have gA:=(W.la _ hm).2;have hw:y.ao[lastOf y.last e.1]? =some y.ao[lastOf y.last e.1]:=qA_ gA;generalize y.ao[lastOf y.last e.1]=w at hw;obtain⟨a,ha,OO⟩:=Y.Nt hw;have ho:=Y.o;have mU:S.s∉ [a]:=fun z=>by simp at z;exact(jl Y.nd).2.2.2.2 a (qD_ ha) |>.1 z.symm
 unfold pC wkF at OO;walk_at "f";unfold gh;refine az (aY (aQ (w_fld (w_var rfl (aX ho (by decide) rfl (w_var rfl (aG Y.d rfl (uy W.nd hm) (w_next ?_))))))));walk_at "s";refine az (aY (aQ (w_fld (w_var rfl (aX ho (by decide) rfl (w_var rfl (bL Y.w (jF ha) (w_next ?_))))))));walk_at "s";unfold pD;refine az (fU (aQ (w_var rfl (w_c (aS rfl (w_var rfl ?_))))));refine aL OO ⟨by decide,qP_ rfl⟩ fun G1 c1 l1 h1=>?_;have yo:=c1.get ho mU;refine w_next ?_;refine az (fU (w_fld (w_var rfl (aX yo (by decide) rfl (w_var rfl ?_)))));refine aL h1 ⟨by decide,qP_ rfl⟩ fun G2 c2 l2 h2=>?_;refine w_next ?_;refine bB (As (ai (w_var rfl (ai (w_fld (w_var rfl (aX h2 (by decide) rfl (ax ⟨qP_ (by with_unfolding_all rfl),?_⟩))))))))
 lia;have c:=c1.trans c2
 have Y2:=Y.Na (w:=tx y e.2 w) ha c h2;have e1:hJ y e={y with ao:=y.ao.set (lastOf y.last e.1) (tx y e.2 w)}:=by unfold hJ iQ;rw[hw]
 refine hq G2 (c.mono (by intro n hn;simp at hn;rw[hn];exact xi ha)) ?_;rw[e1];exact Y2
def xo{es:List (Nat×Pr)}(Y:cy G S y)(W:SWF y)(hl:G[le]? =some (.lst (es.map rE)))(hn:le∉S.own)(hz:es.length<=1000000)(he:∀e∈es,e.1∈y.last.map (·.1))
 (hq:∀l2 G',Chg S.own G G'->G.length<=l2->cy G' S (du y es)->G'[l2]? =some (.lst (es.map (seD y)))->Q (.ref l2) G'):run (bw [.ref S.s,.ref le]) G Q E:=by
 walk_at "f";unfold fP;refine bB (vh (pO (w_var rfl (eP hl ?_))));refine jX (xs:=es.map rE) (fun i acc G'=>Chg S.own G G'/\cy G' S (du y (es.take i))/\acc=(es.take i).map (seD y)) ?_ ?_ ?_ _ 0 [] G List.drop_zero (qf_ _) ⟨Chg.refl _ _,Y,rfl⟩
 · rintro i acc G' ⟨c,_⟩;exact qZ_ (c.get hl hn)
 · rintro i x acc G' hx ⟨c,Y',rfl⟩;obtain⟨e,RI,rfl⟩:=qO hx;refine jA ?_;rw[if_pos rfl];obtain⟨q1,q2,q3,q4⟩:=iF (es.take i) y;have W':SWF (du y (es.take i)):=⟨by rw[q2];exact W.W,by rw[q1,q2,q4];exact W.la,by rw[q1];exact W.nd,by rw[q1,q2];exact W.atw⟩;have ho:=Y'.o;unfold rE;refine bb (w_var rfl (bS ho (ai (aQ (w_var rfl (w_c (aS rfl (ai (aQ (w_var rfl (w_c (aS rfl (ax ?_)))))))))))));refine zG (e:=e) Y' W' (by rw[q1];exact he e (qD_ RI)) fun G2 c2 Y2=>?_;refine⟨by have:=List.length_take_le i es;simp [aw];omega,c.trans c2,?_,?_⟩
   · rw[take_succ RI];unfold du at*;rw[List.foldl_append];exact Y2
   · rw[take_succ RI,qT_];unfold seD;rw[q1];rfl
 · rintro acc G' ⟨c,Y',rfl⟩;rw[qM_,List.take_length]at*;lia;have c3:Chg [] G' (G'++[O.lst (es.map (seD y))]):=Chg.add _ _;exact hq G'.length _ (c.trans (c3.mono (by simp))) c.1 (Y'.frame c3 (by simp)) (aM _ _)
end
section
variable{G G':Hh}{Q:D->Hh->Prop}{E:Nat->Hh->Prop}{S:Sd}{y:Sy}{σ:St}{QS:Fl×St->Hh->Prop}
def Fp{e:E3}{g:D->St->M St}{body:S3}(h:run (e σ) G (fun x G1=>∃n kvs,x= .ref n/\G1[n]? =some (.dK kvs)/\run (forL (fun _=>true) (fun x σ=>bnd (g x σ) body) (fF kvs) σ) (G1.set n (.dF kvs)) (fun p G2=>G2[n]? =some (.dF kvs)/\QS p (G2.set n (.dK kvs))) (fun _ _=>False)) E):run (yS e g body σ) G QS E:=by
 refine aB (ak h (fun x G1 q=>?_) fun _ _ z=>z);obtain⟨n,kvs,rfl,hn,hr⟩:=q;unfold M3.run yD;dsimp only;rw[hn];dsimp only;unfold x3;unfold M3.run at hr;cases q:forL (fun _=>true) (fun x σ=>bnd (g x σ) body) (fF kvs) σ (G1.set n (.dF kvs))with
 |none=>rw[q]at hr;exact hr
 |some r=>
  obtain⟨o,G2⟩:=r;rw[q]at hr;cases o with
  |exc c=>exact absurd hr (by intro z;exact z)
  |ok p=>dsimp only at hr ⊢;rw[if_pos hr.1];exact hr.2
def vI(p:Pr)(w:Wk):Wk:={w with bY:=some p.1}
def bK(y:Sy)(e:Nat×Nat):Sy:=match (y.af.hs[e.1]?).bind (·.pair)with
 |none=>y
 |some p=>iQ y e.2 (vI p)
def j6(y:Sy):Sy:=y.last.foldl bK y
def pJ(y:Sy)(e:Nat×Nat):(bK y e).last=y.last/\(bK y e).af=y.af/\(bK y e).aP=y.aP/\(bK y e).ao.length=y.ao.length:=by
 unfold bK;split
 · exact⟨rfl,rfl,rfl,rfl⟩
 · exact rl _ _ _
theorem gG:∀(l:List (Nat×Nat)) (y:Sy),(l.foldl bK y).last=y.last/\(l.foldl bK y).af=y.af/\(l.foldl bK y).aP=y.aP/\(l.foldl bK y).ao.length=y.ao.length
 | [],y=>⟨rfl,rfl,rfl,rfl⟩
 |e :: l,y=>by
  obtain⟨a,b,c,d⟩:=gG l (bK y e);obtain⟨a',b',c',d'⟩:=pJ y e;exact⟨a.trans a',b.trans b',c.trans c',d.trans d'⟩
def jB(h:(G.set n o)[m]? =some p)(hm:m≠n):G[m]? =some p:=by
 rw[qV_ (Ne.symm hm)]at h;exact h
def wz(c:Chg T G G'):Chg T (G.set n o) (G'.set n o):=by
 refine⟨by simpa using c.1,fun m hm ht=>?_⟩;have QD:m < G.length:=by simpa using hm
 by_cases z:m=n
 · subst z;rw[qU_ QD,qU_ (qd_ QD c.1)]
 · rw[qV_ (Ne.symm z),qV_ (Ne.symm z)];exact c.2 m QD ht
def wx(h:G[n]? =some o):(G.set n p).set n o=G:=by
 rw[List.set_set];apply List.ext_getElem?;intro m;by_cases z:m=n
 · subst z;rw[qU_ (ar h),h]
 · rw[qV_ (Ne.symm z)]
def sR(Y:cy G S y)(W:SWF y)(hq:∀G',Chg S.own G G'->cy G' S (j6 y)->Q .non G'):run (cE [.ref S.s]) G Q E:=by
 obtain⟨n1,n2,n3,n4,n5⟩:=jl Y.nd;have ho:=Y.o;walk_at "f";unfold eI;refine Fp (w_fld (w_var rfl (aX ho (by decide) rfl ⟨S.ld,gJ y.last,rfl,Y.d,?_⟩)));have hit:fF (gJ y.last)=y.last.map fun e=>D.tup [.int (e.1:Int),.int (e.2:Int)]:=by unfold fF gJ;rw[qb_];rfl
 rw[hit];refine jI (fun i σ G'=>(∃a b c d,σ=[some (.ref S.s),a,b,c,d])/\G'[S.ld]? =some (.dF (gJ y.last))/\Chg S.own G (G'.set S.ld (.dK (gJ y.last)))/\cy (G'.set S.ld (.dK (gJ y.last))) S ((y.last.take i).foldl bK y)) (fun _ _ _ _=>rfl) ?_ ?_ ⟨⟨_,_,_,_,rfl⟩,fy Y.d,by rw[wx Y.d];exact Chg.refl _ _,by rw[wx Y.d];exact Y⟩
 · rintro i e σ G' he ⟨⟨v1,v2,v3,v4,rfl⟩,hf,c,Y'⟩;obtain⟨q1,q2,q3,q4⟩:=gG (y.last.take i) y;have Vz:=qD_ he;obtain⟨l1,l2⟩:=W.la e Vz;rw[show (y.last.take (i+1)).foldl bK y=bK ((y.last.take i).foldl bK y) e by rw[take_succ he,List.foldl_append];rfl];generalize (y.last.take i).foldl bK y=y' at*;have hh:y'.af.hs[e.1]? =some y.af.hs[e.1]:=by rw[q2];exact qA_ l1
   generalize y.af.hs[e.1]=h at hh;obtain⟨a,d,ha,hd,mH⟩:=Y'.H.hand hh;have RU:∀x,x∈S.A.foot->x≠S.ld:=fun x hx z=>Y.dj S.ld (by simp [Sd.own]) (z ▸ hx);have o1:=jB Y'.o n2;have w1:=jB Y'.w n3;have yo:=jB Y'.H.o (RU _ (by simp [Ad.foot]));have Mh:=jB Y'.H.h (RU _ (by simp [Ad.foot]));have E1:=jB mH.1 (RU _ (wO ha));refine aB (IG rfl ?_);walk_at "s";refine az (aY (w_fld (aQ (w_fld (w_fld (w_var rfl (aX o1 (by decide) rfl (aX yo (by decide) rfl (w_var rfl (bL Mh (jF ha) (aX E1 (by decide) rfl (w_next ?_))))))))))));walk_at "s";refine cJ (mP (yq (w_var rfl ?_)));lia;rw[nY];cases hp:h.pair with
   |none=>
    have e1:bK y' e=y':=by unfold bK;rw[hh];dsimp only[Option.bind];rw[hp]
    rw[e1];dsimp only[Option.isNone];lia;exact⟨⟨_,_,_,_,rfl⟩,hf,c,Y'⟩
   |some p=>
    have e1:bK y' e=iQ y' e.2 (vI p):=by unfold bK;rw[hh];dsimp only[Option.bind];rw[hp]
    rw[e1];dsimp only[Option.isNone];have hw:y'.ao[e.2]? =some (y'.ao[e.2]'(by rw[q4];exact l2)):=qA_ _;generalize y'.ao[e.2]'(by rw[q4];exact l2)=w at hw;obtain⟨b,hb,U9⟩:=Y'.Nt hw;have RL:=n5 b (qD_ hb);have OB:=jB U9 RL.2.2;unfold wkF at OB;lia;refine bL w1 (jF hb) ?_;lia;unfold opD pD;lia;refine aL OB ⟨by decide,qP_ rfl⟩ fun G2 c2 g2 h2=>?_;refine⟨⟨_,_,_,_,rfl⟩,c2.get hf (by intro z;simp at z;exact RL.2.2 z.symm),?_,?_⟩
    · exact c.trans ((wz c2).mono (by intro n hn;simp at hn;rw[hn];exact xi hb))
    · unfold iQ;rw[hw];refine Y'.Na (w:=vI p w) hb (wz c2) ?_;show (G2.set S.ld _)[b]? =some (.ins 3 (wkF (vI p w)));rw[qV_ (Ne.symm RL.2.2)];exact h2
 · rintro σ G' ⟨⟨v1,v2,v3,v4,rfl⟩,hf,c,Y'⟩;refine⟨hf,?_⟩;rw[List.take_length]at Y';lia;exact hq _ c Y'
end
inductive dM where
 |wr (i v:Int)
 |rd (i:Int)
 |ca (n:Int) (s:Bool)
 |pa (i j:Int)
 |sw
 |ag (i:Int)
 |qu (i:Int)
 |st (j:Int)
 |wa (j:Int)
def ba:dM->D
 | .wr i v=>.tup [.str "write",.int i,.int v]
 | .rd i=>.tup [.str "read",.int i]
 | .ca n s=>.tup [.str "carry",.int n,.bl s]
 | .pa i j=>.tup [.str "pass",.int i,.int j]
 | .sw=>.tup [.str "sweep"]
 | .ag i=>.tup [.str "again",.int i]
 | .qu i=>.tup [.str "quit",.int i]
 | .st j=>.tup [.str "stop",.int j]
 | .wa j=>.tup [.str "wake",.int j]
inductive An where
 |one (d:D)
 |lst (ds:List D)
inductive Rs where
 |no (c:Nat)
 |ok (y:Sy) (a:An)
def inB(i:Int)(n:Nat):Option Nat:=if i < 0\/(n:Int)<=i then none else some i.toNat
def gE{i:Int}{n:Nat}(h:i < 0\/(n:Int)<=i):inB i n=none:=if_pos h
def dk{i:Int}{n j:Nat}(h:i=(j:Int))(hj:j < n):inB i n=some j:=by
 unfold inB;rw[if_neg (by omega),h];rfl
def au(y:Sy)(h:Hl):Sy:={y with af:=h}
def endsF(y:Sy)(r:Hl×List (Nat×Pr)):Sy:=du (au y r.1) r.2
def cp(y:Sy)(r:Hl×List (Nat×Pr)):List D:=r.2.map (seD y)
def cz(y:Sy)(i:Int)(rd:Bool)(v:Option Int):Rs:=match inB i y.af.hs.length with
 |none=>.no 1001
 |some j=>match y.af.hs[j]? with
  |none=>.no 1001
  |some h=>if h.atw then .no 1004 else .ok (kR (au y (eJ y.af j h v)) j rd v) (.one (.int (y.ao.length:Int)))
def iu(y:Sy)(i:Int)(f:Nat->Hd->Rs):Rs:=match inB i y.af.hs.length with
 |none=>.no 1001
 |some j=>match y.af.hs[j]? with
  |none=>.no 1001
  |some h=>if h.atw then f j h else .no 1005
def pH(y:Sy)(i:Int)(f:Nat->Kr->Rs):Rs:=match inB i y.af.ks.length with
 |none=>.no 1002
 |some j=>match y.af.ks[j]? with
  |none=>.no 1002
  |some k=>f j k
def nB:List D->D
 | []=>.non
 |d :: _=>d
def qo(y:Sy)(n:Int):Nat:=(n % (y.af.row.length:Int)).toNat
def doneF(y:Sy):dM->Rs
 | .wr i v=>cz y i false (some v)
 | .rd i=>cz y i true none
 | .ca n s=>if y.af.row=[]then .no 1003 else .ok (endsF y (aE y.af (qo y n) s)) (.one (nB (cp y (aE y.af (qo y n) s))))
 | .pa i j=>match inB i y.af.hs.length with
   |none=>.no 1001
   |some p=>match inB j y.af.ks.length with
    |none=>.no 1002
    |some k=>.ok (endsF y (cI (bJ p k) y.af)) (.lst (cp y (cI (bJ p k) y.af)))
 | .sw=>.ok (endsF y (cI bZ y.af)) (.lst (cp y (cI bZ y.af)))
 | .ag i=>iu y i fun j h=>.ok (au y {y.af with row:=newRow y.af h}) (.one (.int ((aR h).length:Int)))
 | .qu i=>iu y i fun j h=>.ok (au y {y.af with hs:=y.af.hs.set j {h with atw:=false}}) (.one (.int (lastOf y.last j:Int)))
 | .st i=>pH y i fun j k=>.ok (au y {y.af with ks:=y.af.ks.set j {k with up:=false}}) (.one (.bl k.up))
 | .wa i=>pH y i fun j k=>.ok (au y {y.af with ks:=y.af.ks.set j {k with up:=true}}) (.one (.bl (!k.up)))
structure Iv (y:Sy):Prop where
 W:SWF y
 m:mea y.af<=40*y.aP
 w:y.ao.length<=y.aP
 l:y.last.length<=9
def FG{y:Sy}(nd:(y.last.map (·.1)).Nodup)(la:∀e∈y.last,e.1 < y.af.hs.length)(hs:y.af.hs.length<=9):y.last.length<=9:=by
 have:=rF y.af.hs.length (y.last.map (·.1)) nd (fun x hx=>by
  obtain⟨e,he,rfl⟩:=qH_.mp hx
  exact la e he)
 rw[qM_]at this;omega
structure Hon (a b:Hl):Prop where
 W:WF b
 hl:b.hs.length=a.hs.length
 at':∀(i:Nat) g,b.hs[i]? =some g->g.atw=true->∃h,a.hs[i]? =some h/\h.atw=true
def Hon.swf{y:Sy}(W:SWF y)(h:Hon y.af b):SWF (au y b):=by
 refine⟨h.W,fun e he=>⟨by show e.1 < b.hs.length;rw[h.hl];exact(W.la e he).1,(W.la e he).2⟩,W.nd,fun i g hi hg=>?_⟩;obtain⟨x,h1,h2⟩:=h.at' i g hi hg;exact W.atw i x h1 h2
def q9(W:WF a)(p:Nat)(s:Bool):Hon a (aE a p s).1:=by
 refine⟨gM W p s,?_,?_⟩
 · unfold aE;split
   · rfl
   · split
     · rfl
     · simp
   · split
     · rfl
     · rfl
 · intro i g;unfold aE;split
   · exact fun h1 h2=>⟨g,h1,h2⟩
   · rename_i l hr;split
     · exact fun h1 h2=>⟨g,h1,h2⟩
     · rename_i h hh;intro h1 h2;have h1:(a.hs.set l.hand (aZ h l).1)[i]? =some g:=h1;by_cases z:i=l.hand
       · subst z;rw[qU_ (qB_.mp hh).1]at h1;cases h1;refine⟨h,hh,?_⟩;revert h2;unfold aZ;cases q:h.atw with
         |true=>exact fun _=>rfl
         |false=>intro h2;simp [q]at h2
       · rw[qV_ (Ne.symm z)]at h1;exact⟨g,h1,h2⟩
   · split
     · exact fun h1 h2=>⟨g,h1,h2⟩
     · exact fun h1 h2=>⟨g,h1,h2⟩
theorem Hon.trans{a b c:Hl}(x:Hon a b)(y:Hon b c):Hon a c:=⟨y.W,y.hl.trans x.hl,fun i g h1 h2=>by
 obtain⟨g',h3,h4⟩:=y.at' i g h1 h2
 exact x.at' i g' h3 h4⟩
def Hon.refl{a:Hl}(W:WF a):Hon a a:=⟨W,rfl,fun _ g h1 h2=>⟨g,h1,h2⟩⟩
def zN{a:Hl}(p:Nat)(s:Bool):∀e∈(aE a p s).2,∃h,a.hs[e.1]? =some h/\h.atw=true:=by
 intro e he;unfold aE at he;split at he
 · cases he
 · split at he
   · cases he
   · rename_i l hr h hh;dsimp only at he;split at he
     · cases he
     · rename_i p hp;simp at he;subst he;refine⟨h,hh,?_⟩;unfold aZ at hp;cases q:h.atw with
       |true=>rfl
       |false=>simp [q]at hp
 · split at he <;> cases he
def qR{sel:Hl->Option Nat}(hs:Sel sel):∀(n:Nat) (a:Hl),WF a->mea a<=n->Hon a (cI sel a).1/\mea (cI sel a).1<=mea a/\∀e∈(cI sel a).2,∃h,a.hs[e.1]? =some h/\h.atw=true:=by
 intro n
 induction n with
 |zero=>
  intro a W hm;cases q:sel a with
  |none=>rw[cF q];exact⟨Hon.refl W,qO_ _,by simp⟩
  |some p=>have:=bF W (hs a p q);omega
 |succ n ih=>
  intro a W hm;cases q:sel a with
  |none=>rw[cF q];exact⟨Hon.refl W,qO_ _,by simp⟩
  |some p=>
   rw[gX hs W q];have h1:=bF W (hs a p q);have c:=q9 W p false;obtain⟨i1,i2,i3⟩:=ih (aE a p false).1 c.W (by omega);refine⟨c.trans i1,by dsimp only;omega,fun e he=>?_⟩;rcases qG_.mp he with z |z
   · exact zN p false e z
   · obtain⟨h,h2,h3⟩:=i3 e z;exact c.at' _ h h2 h3
def z9{st:Hl}(W:WF st){h h':Hd}(hj:st.hs[j]? =some h)(ok:HOK st.ks.length j h')(hr:h.rnd<=h'.rnd)(hp:h'.rnd=h.rnd->h'.pair=h.pair):WF {st with hs:=st.hs.set j h'}:=by
 have gA:=(qB_.mp hj).1;refine⟨fun i g hg=>?_,fun e he=>?_,W.ksz,by show (st.hs.set j h').length<=9;simpa using W.hsz⟩
 · have hg:(st.hs.set j h')[i]? =some g:=hg;by_cases z:i=j
   · subst z;rw[qU_ gA]at hg;cases hg;exact ok
   · rw[qV_ (Ne.symm z)]at hg;exact W.hk i g hg
 · obtain⟨g,h1,h2,h3,h4⟩:=W.rw e he;by_cases z:e.2.hand=j
   · rw[z]at h1;rw[hj]at h1;cases h1;refine⟨h',by show (st.hs.set j h')[e.2.hand]? =some h';rw[z];exact qU_ gA,h2,by omega,fun w=>?_⟩;have e1:h'.rnd=h.rnd:=(by omega);rw[hp e1];exact h4 (by omega)
   · exact⟨g,by show (st.hs.set j h')[e.2.hand]? =some g;rw[qV_ (Ne.symm z)];exact h1,h2,h3,h4⟩
def Ap{st:Hl}(W:WF st)(j:Nat)(k:Kr):WF {st with ks:=st.ks.set j k}:=by
 have hl:(st.ks.set j k).length=st.ks.length:=by simp
 refine⟨fun i g hg=>?_,fun e he=>?_,by show (st.ks.set j k).length<=9;rw[hl];exact W.ksz,W.hsz⟩
 · have:=W.hk i g hg;show g.num=i/\g.cnt=(st.ks.set j k).length/\_;rw[hl];exact this
 · have:=W.rw e he;show ∃h,st.hs[e.2.hand]? =some h/\e.2.kpr < (st.ks.set j k).length/\_;rw[hl];exact this
def Cf{st:Hl}(W:WF st){j:Nat}(hj:st.hs[j]? =some h):WF {st with row:=newRow st h}:=by
 refine⟨W.hk,fun e he=>?_,W.ksz,W.hsz⟩;have he:e∈st.row++(aR h).map fun x=>(false,x):=he;rcases qG_.mp he with z |z
 · exact W.rw e z
 · obtain⟨x,hx,rfl⟩:=qH_.mp z;obtain⟨a,b,c,d⟩:=rA (W.hok hj) hx;dsimp only;refine⟨h,by rw[a];exact hj,b,by omega,fun _=>⟨fun _=>d,fun q=>by cases q⟩⟩
def DM{st:Hl}(W:WF st)(hj:st.hs[j]? =some h)(v:Option Int):WF (eJ st j h v):=by
 have gA:=(qB_.mp hj).1;have ok:=W.hok hj;have W1:WF {st with hs:=st.hs.set j (bz h v)}:=z9 W hj (xx (by exact ok.2.1) (by exact ok.1) none) (by show h.rnd<=h.rnd+1;omega) (fun z=>by have z:h.rnd+1=h.rnd:=z;omega);exact Cf W1 (by show (st.hs.set j (bz h v))[j]? =_;exact qU_ gA)
def zT(st:Hl)(h:Hd)(hc:h.cnt<=9):((newRow st h).map wt).sum<=(st.row.map wt).sum+18:=by
 unfold newRow;rw[qT_,List.sum_append,qb];have:=iU h;omega
def IR(h:Hd):pot h<=2*h.cnt:=by unfold pot;split <;> omega
def BE{st:Hl}(W:WF st)(hj:st.hs[j]? =some h)(v:Option Int):mea (eJ st j h v)<=mea st+36:=by
 have ok:=(W.hok hj).2.1;have hk:=W.ksz;have hc:(bz h v).cnt<=9:=by show h.cnt<=9;omega
 have a:=zT st (bz h v) hc;have b:=sum_set (g:=bz h v) hj;have c:=IR (bz h v);show ((newRow st (bz h v)).map wt).sum+((st.hs.set j (bz h v)).map pot).sum<=mea st+36;unfold mea;omega
def Br{st:Hl}(W:WF st){j:Nat}(hj:st.hs[j]? =some h):mea {st with row:=newRow st h}<=mea st+18:=by
 have ok:=(W.hok hj).2.1;have hk:=W.ksz;have a:=zT st h (by omega);show ((newRow st h).map wt).sum+(st.hs.map pot).sum<=mea st+18;unfold mea;omega
def Ce{st:Hl}(hj:st.hs[j]? =some h):mea {st with hs:=st.hs.set j {h with atw:=false}}<=mea st:=by
 have b:=sum_set (g:={h with atw:=false}) hj;have c:pot {h with atw:=false}=0:=by unfold pot;rfl
 show (st.row.map wt).sum+((st.hs.set j {h with atw:=false}).map pot).sum<=mea st;unfold mea;omega
structure Iv1 (y z:Sy):Prop where
 W:SWF z
 d:z.aP=y.aP
 m:mea z.af<=40*y.aP+40
 w:z.ao.length<=y.aP+1
 l:z.last.length<=9
 hl:z.af.hs.length=y.af.hs.length
 kl:z.af.ks.length=y.af.ks.length
def Iv.same(I:Iv y):Iv1 y y:=⟨I.W,rfl,by have:=I.m;omega,by have:=I.w;omega,I.l,rfl,rfl⟩
def uu(I:Iv1 y z)(es:List (Nat×Pr)):Iv1 y (du z es):=by
 obtain⟨q1,q2,q3,q4⟩:=iF es z;exact⟨⟨by rw[q2];exact I.W.W,by rw[q1,q2,q4];exact I.W.la,by rw[q1];exact I.W.nd,by rw[q1,q2];exact I.W.atw⟩,q3.trans I.d,by rw[q2];exact I.m,by rw[q4];exact I.w,by rw[q1];exact I.l,by rw[q2];exact I.hl,by rw[q2];exact I.kl⟩
def mr{y:Sy}(I:Iv y){b:Hl}(h:Hon y.af b)(hm:mea b<=mea y.af+40)(hk:b.ks.length=y.af.ks.length):Iv1 y (au y b):=
 ⟨h.swf I.W,rfl,by have:=I.m;show mea b<=_;omega,by have:=I.w;show y.ao.length<=_;omega,I.l,h.hl,hk⟩
def w9(l:List (Nat×Nat))(k p:Nat):(putL l k p).map (·.1)=if (l.any fun e=>decide (e.1=k))then l.map (·.1)else l.map (·.1)++[k]:=by
 unfold putL;split
 · rw[qb_];apply List.map_congr_left;intro e _;show (if e.1=k then (e.1,p)else e).1=e.1;split <;> rfl
 · simp
def GN{l:List (Nat×Nat)}(h:(l.map (·.1)).Nodup):((putL l k p).map (·.1)).Nodup:=by
 rw[w9];split
 · exact h
 · rename_i q;rw[List.nodup_append];refine⟨h,by simp,fun a ha b hb w=>q ?_⟩;simp at hb;obtain⟨e,he,e1⟩:=qH_.mp ha;rw[List.any_eq_true];exact⟨e,he,qZ_ (by rw[e1,w,hb])⟩
def FR{l:List (Nat×Nat)}(h:i=k\/i∈l.map (·.1)):i∈(putL l k p).map (·.1):=by
 rw[w9];split
 · rename_i q;rcases h with rfl |h
   · rw[List.any_eq_true]at q;obtain⟨e,he,e1⟩:=q;exact qH_.mpr ⟨e,he,of_decide_eq_true e1⟩
   · exact h
 · rcases h with rfl |h
   · simp
   · exact qF_ _ h
def C8{y:Sy}(I:Iv y)(hj:y.af.hs[j]? =some h)(rd:Bool)(v:Option Int):Iv1 y (kR (au y (eJ y.af j h v)) j rd v):=by
 have gA:=(qB_.mp hj).1;have W:=I.W;have wf:=DM W.W hj v;have hl:(eJ y.af j h v).hs.length=y.af.hs.length:=by show (y.af.hs.set j _).length=_;simp
 have la:∀e∈putL y.last j y.ao.length,e.1 < y.af.hs.length/\e.2 < y.ao.length+1:=by
  intro e he;rcases Ea he with z |z
  · rw[z];exact⟨gA,by dsimp only;omega⟩
  · have:=W.la e z;exact⟨this.1,by omega⟩
 have nd:=GN (k:=j) (p:=y.ao.length) W.nd;refine⟨⟨wf,fun e he=>?_,nd,fun i g hg ha=>?_⟩,rfl,?_,?_,?_,hl,rfl⟩
 · have:=la e he;refine⟨by show e.1 < (eJ y.af j h v).hs.length;rw[hl];exact this.1,?_⟩;show e.2 < (y.ao++[_]).length
   simpa using this.2
 · refine FR ?_;by_cases z:i=j
   · exact .inl z
   · have hg:(y.af.hs.set j (bz h v))[i]? =some g:=hg;rw[qV_ (Ne.symm z)]at hg;exact .inr (W.atw i g hg ha)
 · have:=BE W.W hj v;have:=I.m;show mea (eJ y.af j h v)<=_;omega
 · have:=I.w;show (y.ao++[_]).length<=_;simp;omega
 · have:=FG (y:={y with last:=putL y.last j y.ao.length}) nd (fun e he=>(la e he).1) W.W.hsz;exact this
def z7(a:Hl)(p:Nat)(s:Bool):(aE a p s).1.ks.length=a.ks.length:=by
 unfold aE;split
 · rfl
 · split <;> rfl
 · split
   · rfl
   · simp
def F1{sel:Hl->Option Nat}(hs:Sel sel):∀(n:Nat) (a:Hl),WF a->mea a<=n->(cI sel a).1.ks.length=a.ks.length:=by
 intro n
 induction n with
 |zero=>
  intro a W hm;cases q:sel a with
  |none=>rw[cF q]
  |some p=>have:=bF W (hs a p q);omega
 |succ n ih=>
  intro a W hm;cases q:sel a with
  |none=>rw[cF q]
  |some p=>rw[gX hs W q];have h1:=bF W (hs a p q);exact(ih (aE a p false).1 (gM W p false) (by omega)).trans (z7 a p false)
def Ge(I:Iv y)(d:dM)(h:doneF y d= .ok z a):Iv1 y z:=by
 have W:=I.W;have bg:∀{i rd v},cz y i rd v= .ok z a->Iv1 y z:=by
  intro i rd v h;unfold cz at h;split at h
  · cases h
  · split at h
    · cases h
    · rename_i j _ _ g hg;split at h
      · cases h
      · cases h;exact C8 I hg rd v
 have rn:∀{sel:Hl->Option Nat},Sel sel->Iv1 y (endsF y (cI sel y.af)):=by intro sel hs;obtain⟨i1,i2,i3⟩:=qR hs (mea y.af) y.af W.W (qO_ _);exact uu (mr I i1 (by omega) (F1 hs _ _ W.W (qO_ _))) _
 cases d with
 |wr i v=>exact bg h
 |rd i=>exact bg h
 |ca n s=>
  unfold doneF at h;dsimp only at h;split at h
  · cases h
  · rename_i mU;cases h;refine uu (mr I (q9 W.W _ _) ?_ (z7 _ _ _)) _;have hp:qo y n < y.af.row.length:=by
     unfold qo;have:0 < y.af.row.length:=List.length_pos_iff.mpr mU;have h1:=Int.emod_nonneg n (b:=(y.af.row.length:Int)) (by omega);have h2:=Int.emod_lt_of_pos n (b:=(y.af.row.length:Int)) (by omega);omega
    have:=wL W.W (s:=s) (qA_ hp);split at this <;> omega
 |pa i j=>
  unfold doneF at h;dsimp only at h;split at h
  · cases h
  · split at h
    · cases h
    · cases h;exact rn (cY _ _)
 |sw=>unfold doneF at h;dsimp only at h;cases h;exact rn cO
 |ag i=>
  unfold doneF iu at h;dsimp only at h;split at h
  · cases h
  · split at h
    · cases h
    · rename_i j _ _ g hg;split at h
      · cases h;exact mr I ⟨Cf W.W hg,rfl,fun i g h1 h2=>⟨g,h1,h2⟩⟩ (by have:=Br W.W hg;omega) rfl
      · cases h
 |qu i=>
  unfold doneF iu at h;dsimp only at h;split at h
  · cases h
  · split at h
    · cases h
    · rename_i j _ _ g hg;split at h
      · cases h;have gA:=(qB_.mp hg).1;have ok:=W.W.hok hg;refine mr I ⟨z9 W.W hg (h':={g with atw:=false}) ok (Int.le_refl _) (fun _=>rfl),by show (y.af.hs.set j _).length=_;simp,fun i g' h1 h2=>?_⟩ (by have:=Ce hg;omega) rfl;have h1:(y.af.hs.set j {g with atw:=false})[i]? =some g':=h1;by_cases q:i=j
        · subst q;rw[qU_ gA]at h1;cases h1;cases h2
        · rw[qV_ (Ne.symm q)]at h1;exact⟨g',h1,h2⟩
      · cases h
 |st i=>
  unfold doneF pH at h;dsimp only at h;split at h
  · cases h
  · split at h
    · cases h
    · cases h;exact mr I ⟨Ap W.W _ _,rfl,fun i g h1 h2=>⟨g,h1,h2⟩⟩ (by show mea y.af<=_;omega) (by show (y.af.ks.set _ _).length=_;simp)
 |wa i=>
  unfold doneF pH at h;dsimp only at h;split at h
  · cases h
  · split at h
    · cases h
    · cases h;exact mr I ⟨Ap W.W _ _,rfl,fun i g h1 h2=>⟨g,h1,h2⟩⟩ (by show mea y.af<=_;omega) (by show (y.af.ks.set _ _).length=_;simp)
def Sd.all(S:Sd):List Nat:=S.own++S.A.foot
structure Sd.To (S S':Sd) (n:Nat):Prop where
 s:S'.s=S.s
 z:∀x∈S'.all,x∈S.all\/n<=x
def Sd.To.refl(S:Sd)(n:Nat):S.To S n:=⟨rfl,fun _ h=>.inl h⟩
def Sd.To.af(S:Sd){A':Ad}{n:Nat}(t:S.A.To A' n):S.To {S with A:=A'} n:=by
 refine⟨rfl,fun x hx=>?_⟩;rcases qG_.mp hx with w |w
 · exact .inl (qF_ _ w)
 · exact(t.foot x w).elim (fun q=>.inl (qE_ _ q)) .inr
def nC(S:Sd)(n:Nat)(G:Hh)(a:An)(v:D):Prop:=match a with
 | .one d=>v=d
 | .lst ds=>∃l,v= .ref l/\n<=l/\l∉S.all/\G[l]? =some (.lst ds)
section
variable{G G':Hh}{Q:D->Hh->Prop}{E:Nat->Hh->Prop}{S:Sd}{y:Sy}{σ:St}{QS:Fl×St->Hh->Prop}
def cy.ltA(Y:cy G S y):∀n∈S.all,n < G.length:=fun n hn=>(qG_.mp hn).elim (Y.lt n) (Y.H.lt n)
def aW{A B:S3}(hv:σ[2]? =some (some (.str u)))(hn:decide (u=w)=false)(h:M3.run (B σ) G QS E):M3.run (aj (sIf (tB (eOp oEq (ae 2) (eC (.str w)))) A aO) B σ) G QS E:=by
 refine az (cJ (mP (aQ (w_var hv (w_c (w_eq (b:=false) ?_ (gK ?_)))))))
 · show some (decide (u=w))=some false;rw[hn]
 · rw[if_neg qC_];exact kU (w_next h)
def kY{A B:S3}(hv:σ[2]? =some (some (.str u)))(hn:decide (u=w)=true)(h:M3.run (A σ) G (fun r G1=>M3.run (sK B r) G1 QS E) E):M3.run (aj (sIf (tB (eOp oEq (ae 2) (eC (.str w)))) A aO) B σ) G QS E:=by
 refine az (cJ (mP (aQ (w_var hv (w_c (w_eq (b:=true) ?_ (gK ?_)))))))
 · show some (decide (u=w))=some true;rw[hn]
 · rw[if_pos rfl];exact h
def Jk{xs:List D}{QB:Bool->Hh->Prop}(hn:G[n]? =some (.lst xs))(h:QB (!xs.isEmpty) G):M3.run (truth (.ref n)) G QB E:=by
 refine aC (a:=!xs.isEmpty) (G':=G) ?_ h;unfold truth;dsimp only;rw[hn]
def pW{i:Int}{j:Nat}(e:i=(j:Int))(hj:y.af.hs[j]? =some h):inB i y.af.hs.length=some j:=dk e (qB_.mp hj).1
def IH{i:Int}{j:Nat}(e:i=(j:Int))(hj:y.af.ks[j]? =some k):inB i y.af.ks.length=some j:=dk e (qB_.mp hj).1
def CW(Y:cy G S y):G[S.A.a]? =some (.ins 2 [(9,.ref S.A.lk),(10,.ref S.A.lh),(11,.ref S.A.lr)]):=Y.H.o
def yM{r:Hl×List (Nat×Pr)}{G1:Hh}(I:Iv y)(Y:cy G S y)(c:Chg S.A.foot G G1)(to:S.A.To A' G.length)(hl:G.length<=le)(H:bo G1 A' r.1)(h:G1[le]? =some (.lst (r.2.map rE)))
 (WD:Hon y.af r.1) (mH:∀e∈r.2,∃h,y.af.hs[e.1]? =some h/\h.atw=true) (hz:r.2.length<=1000000)
 (hq:∀l2 S' G',S'.s=S.s->Chg S.all G G'->S.To S' G.length->cy G' S' (endsF y r)->G.length<=l2->l2∉S'.all->G'[l2]? =some (.lst (cp y r))->Q (.ref l2) G'):M3.run (bw [.ref S.s,.ref le]) G1 Q E:=by
 have Y1:=Y.af c to H;have W1:SWF (au y r.1):=WD.swf I.W;refine xo (S:={S with A:=A'}) (y:=au y r.1) Y1 W1 h (fun z=>?_) hz (fun e he=>?_) fun l2 G2 c2 yn Y2 h2=>?_
 · have:=Y.lt le z;omega
 · obtain⟨g,h1,h2⟩:=mH e he;exact I.W.atw _ g h1 h2
 · have c1:=c.1;refine hq l2 {S with A:=A'} G2 rfl ((c.mono fun n hn=>qE_ _ hn).trans (c2.mono fun n hn=>qF_ _ hn)) (Sd.To.af S to) Y2 (by omega) (fun z=>?_) h2;have:=Y1.ltA l2 z;omega
def Ju(I:Iv y)(hd:y.aP<=1000)(Y:cy G S y)
 (hE:∀c G',doneF y d= .no c->Chg [] G G'->E c G')
 (hq:∀v S' G' z a,doneF y d= .ok z a->Chg S.all G G'->S.To S' G.length->cy G' S' z->nC S' G.length G' a v->Q v G'):M3.run (gV [.ref S.s,ba d]) G Q E:=by
 have W:=I.W;have hm:mea y.af<=800000:=by have:=I.m;omega
 have ho:=Y.o;have hH:=CW Y;have r0:=Chg.refl [] G;walk_at "f";unfold jR;cases d with
 |wr i v=>
  unfold ba;refine az (aY (aQ (w_var rfl (w_c (aS rfl (w_next ?_))))));walk_at "s";refine kY rfl (by decide) ?_;refine az (dE (bb (w_fld (w_var rfl (aX ho (by decide) rfl (bS hH (ai (aQ (w_var rfl (w_c (aS rfl (ai (aQ (w_var rfl (w_c (aS rfl (ax ?_)))))))))))))))));refine Ft Y.H W.W hm (fun z=>hE _ _ ?_ r0) (fun j h e hj ha=>hE _ _ ?_ r0) fun j h e hj ha A' G1 c1 to H1=>?_
  · show cz y i false (some v)=_;unfold cz;rw[gE z]
  · show cz y i false (some v)=_;unfold cz;rw[pW e hj];dsimp only;rw[hj];dsimp only;rw[if_pos ha]
  · have eR:doneF y (.wr i v)= .ok (kR (au y (eJ y.af j h (some v))) j false (some v)) (.one (.int (y.ao.length:Int))):=by
     show cz y i false (some v)=_;unfold cz;rw[pW e hj];dsimp only;rw[hj];dsimp only;rw[if_neg (by rw[ha];exact qC_)]
    have Y1:=Y.af c1 to H1;have yo:=Y1.o;subst e;lia;refine pS (S:={S with A:=A'}) (rd:=false) (v:=some v) Y1 (by have:=I.w;show y.ao.length<=1000;omega) (by have:=I.l;show y.last.length<=1000;omega) fun a G2 c2 hl Y2=>?_;have g1:=c1.1;have Wr:=Y1.ltA;lia;refine hq _ {S with A:=A',wa:=S.wa++[a]} G2 _ _ eR ((c1.mono fun n hn=>qE_ _ hn).trans' c2 fun n hn=>(Sd.To.af S to).z n hn) ⟨rfl,fun x hx=>?_⟩ Y2 rfl;have hx:x∈([S.s,S.lw,S.ld]++(S.wa++[a]))++A'.foot:=hx;rcases qG_.mp hx with w |w
    · rw[<-List.append_assoc]at w;rcases qG_.mp w with w |w
      · exact .inl (qF_ _ w)
      · simp at w;exact .inr (by omega)
    · exact(to.foot x w).elim (fun q=>.inl (qE_ _ q)) .inr
 |rd i=>
  unfold ba;refine az (aY (aQ (w_var rfl (w_c (aS rfl (w_next ?_))))));walk_at "s";refine aW rfl (by decide) ?_;refine kY rfl (by decide) ?_;refine az (dE (bb (w_fld (w_var rfl (aX ho (by decide) rfl (bS hH (ai (aQ (w_var rfl (w_c (aS rfl (ax ?_))))))))))));refine JC Y.H W.W hm (fun z=>hE _ _ ?_ r0) (fun j h e hj ha=>hE _ _ ?_ r0) fun j h e hj ha A' G1 c1 to H1=>?_
  · show cz y i true none=_;unfold cz;rw[gE z]
  · show cz y i true none=_;unfold cz;rw[pW e hj];dsimp only;rw[hj];dsimp only;rw[if_pos ha]
  · have eR:doneF y (.rd i)= .ok (kR (au y (eJ y.af j h none)) j true none) (.one (.int (y.ao.length:Int))):=by
     show cz y i true none=_;unfold cz;rw[pW e hj];dsimp only;rw[hj];dsimp only;rw[if_neg (by rw[ha];exact qC_)]
    have Y1:=Y.af c1 to H1;have yo:=Y1.o;subst e;lia;refine pS (S:={S with A:=A'}) (rd:=true) (v:=none) Y1 (by have:=I.w;show y.ao.length<=1000;omega) (by have:=I.l;show y.last.length<=1000;omega) fun a G2 c2 hl Y2=>?_;have g1:=c1.1;have Wr:=Y1.ltA;lia;refine hq _ {S with A:=A',wa:=S.wa++[a]} G2 _ _ eR ((c1.mono fun n hn=>qE_ _ hn).trans' c2 fun n hn=>(Sd.To.af S to).z n hn) ⟨rfl,fun x hx=>?_⟩ Y2 rfl;have hx:x∈([S.s,S.lw,S.ld]++(S.wa++[a]))++A'.foot:=hx;rcases qG_.mp hx with w |w
    · rw[<-List.append_assoc]at w;rcases qG_.mp w with w |w
      · exact .inl (qF_ _ w)
      · simp at w;exact .inr (by omega)
    · exact(to.foot x w).elim (fun q=>.inl (qE_ _ q)) .inr
 |ca n s=>
  unfold ba;refine az (aY (aQ (w_var rfl (w_c (aS rfl (w_next ?_))))));walk_at "s";refine aW rfl (by decide) ?_;refine aW rfl (by decide) ?_;refine kY rfl (by decide) ?_;refine az (aY (bb (w_var rfl (bS ho (ai (bb (w_fld (w_var rfl (aX ho (by decide) rfl (bS hH (ai (aQ (w_var rfl (w_c (aS rfl (ai (aQ (w_var rfl (w_c (aS rfl (ax ?_)))))))))))))))))))));refine Ho Y.H W.W hm (fun z=>hE _ _ (if_pos z) r0) fun p hp gA le A' G1 c1 to hl H1 h1=>ax ?_;have eR:doneF y (.ca n s)= .ok (endsF y (aE y.af p s)) (.one (nB (cp y (aE y.af p s)))):=by subst hp;exact if_neg (by intro z;rw[z]at gA;simp at gA)
  have T6:=gW y.af p s;refine yM I Y c1 to hl H1 h1 (q9 W.W p s) (zN p s) (by omega) fun l2 S' G2 hs c2 to2 Y2 yn BL h2=>?_;lia;refine Jk h2 ?_;cases q:cp y (aE y.af p s)with
  |nil=>dsimp only[List.isEmpty];lia;exact hq _ S' G2 _ _ eR c2 to2 Y2 (by rw[q];rfl)
  |cons x r=>
   rw[q]at h2;dsimp only[List.isEmpty];lia;refine bL h2 (show atI (x :: r) 0=some x from ?_) ?_
   · unfold atI M3.ixN;simp
   lia;exact hq _ S' G2 _ _ eR c2 to2 Y2 (by rw[q];rfl)
 |pa i j=>
  unfold ba;refine az (aY (aQ (w_var rfl (w_c (aS rfl (w_next ?_))))));walk_at "s";refine aW rfl (by decide) ?_;refine aW rfl (by decide) ?_;refine aW rfl (by decide) ?_;refine kY rfl (by decide) ?_;refine bB (bb (w_var rfl (bS ho (ai (bb (w_fld (w_var rfl (aX ho (by decide) rfl (bS hH (ai (aQ (w_var rfl (w_c (aS rfl (ai (aQ (w_var rfl (w_c (aS rfl (ax ?_))))))))))))))))))));refine qy Y.H W.W hm (fun z=>hE _ _ ?_ r0) (fun z1 z2=>hE _ _ ?_ r0) fun p k e1 e2 h1 h2 le A' G1 c1 to hl hn H1 g1=>ax ?_
  · unfold doneF;dsimp only;rw[gE z]
  · unfold doneF;dsimp only;have:inB i y.af.hs.length=some i.toNat:=by unfold inB;rw[if_neg z1]
    rw[this];dsimp only;rw[gE z2]
  have eR:doneF y (.pa i j)= .ok (endsF y (cI (bJ p k) y.af)) (.lst (cp y (cI (bJ p k) y.af))):=by unfold doneF;dsimp only;rw[dk e1 h1];dsimp only;rw[dk e2 h2]
  have T6:=lL (cY p k) (mea y.af) y.af W.W (qO_ _);obtain⟨i1,i2,i3⟩:=qR (cY p k) (mea y.af) y.af W.W (qO_ _);refine yM I Y c1 to hl H1 g1 i1 i3 (by omega) fun l2 S' G2 hs c2 to2 Y2 yn BL h2=>?_;lia;exact hq _ S' G2 _ _ eR c2 to2 Y2 ⟨l2,rfl,yn,BL,h2⟩
 |sw=>unfold ba;refine az (aY (aQ (w_var rfl (w_c (aS rfl (w_next ?_))))));walk_at "s";refine aW rfl (by decide) ?_;refine aW rfl (by decide) ?_;refine aW rfl (by decide) ?_;refine aW rfl (by decide) ?_;refine kY rfl (by decide) ?_;refine bB (bb (w_var rfl (bS ho (ai (bb (w_fld (w_var rfl (aX ho (by decide) rfl (bS hH (ax ?_))))))))));refine FN Y.H W.W hm fun le A' G1 c1 to hl hn H1 g1=>ax ?_;have T6:=lL cO (mea y.af) y.af W.W (qO_ _);obtain⟨i1,i2,i3⟩:=qR cO (mea y.af) y.af W.W (qO_ _);refine yM I Y c1 to hl H1 g1 i1 i3 (by omega) fun l2 S' G2 hs c2 to2 Y2 yn BL h2=>?_;lia;exact hq _ S' G2 _ _ rfl c2 to2 Y2 ⟨l2,rfl,yn,BL,h2⟩
 |ag i=>
  unfold ba;refine az (aY (aQ (w_var rfl (w_c (aS rfl (w_next ?_))))));walk_at "s";refine aW rfl (by decide) ?_;refine aW rfl (by decide) ?_;refine aW rfl (by decide) ?_;refine aW rfl (by decide) ?_;refine aW rfl (by decide) ?_;refine kY rfl (by decide) ?_;refine bB (bb (w_fld (w_var rfl (aX ho (by decide) rfl (bS hH (ai (aQ (w_var rfl (w_c (aS rfl (ax ?_)))))))))));refine Gw Y.H W.W hm (fun z=>hE _ _ ?_ r0) (fun j h e hj ha G1 c1=>hE _ _ ?_ c1) fun j h e hj ha G1 c1 H1=>?_
  · unfold doneF iu;dsimp only;rw[gE z]
  · unfold doneF iu;dsimp only;rw[pW e hj];dsimp only;rw[hj];dsimp only;rw[if_neg (by rw[ha];exact qC_)]
  · have eR:doneF y (.ag i)= .ok (au y {y.af with row:=newRow y.af h}) (.one (.int ((aR h).length:Int))):=by
     unfold doneF iu;dsimp only;rw[pW e hj];dsimp only;rw[hj];dsimp only;rw[if_pos ha]
    have to:=Ad.To.refl S.A G.length;lia;exact hq _ S G1 _ _ eR (c1.mono fun n hn=>qE_ _ hn) (Sd.To.refl _ _) (Y.af c1 to H1) rfl
 |qu i=>
  unfold ba;refine az (aY (aQ (w_var rfl (w_c (aS rfl (w_next ?_))))));walk_at "s";refine aW rfl (by decide) ?_;refine aW rfl (by decide) ?_;refine aW rfl (by decide) ?_;refine aW rfl (by decide) ?_;refine aW rfl (by decide) ?_;refine aW rfl (by decide) ?_;refine kY rfl (by decide) ?_;refine az (dE (bb (w_fld (w_var rfl (aX ho (by decide) rfl (bS hH (ai (aQ (w_var rfl (w_c (aS rfl (ax ?_))))))))))));refine GS Y.H (fun z=>hE _ _ ?_ r0) (fun j h e hj ha=>hE _ _ ?_ r0) fun j h e hj ha G1 c1 H1=>?_
  · unfold doneF iu;dsimp only;rw[gE z]
  · unfold doneF iu;dsimp only;rw[pW e hj];dsimp only;rw[hj];dsimp only;rw[if_neg (by rw[ha];exact qC_)]
  · have eR:doneF y (.qu i)= .ok (au y {y.af with hs:=y.af.hs.set j {h with atw:=false}}) (.one (.int (lastOf y.last j:Int))):=by
     unfold doneF iu;dsimp only;rw[pW e hj];dsimp only;rw[hj];dsimp only;rw[if_pos ha]
    have Y1:=Y.af c1 (Ad.To.refl S.A G.length) H1;have yo:=Y1.o;have hl:=uy W.nd (su (W.atw j h hj ha));subst e;refine w_next (bB (aQ (w_fld (w_var rfl (aX yo (by decide) rfl (aQ (w_var rfl (w_c (aS rfl (aG Y1.d rfl hl ?_))))))))));lia;exact hq _ S G1 _ _ eR (c1.mono fun n hn=>qE_ _ hn) (Sd.To.refl _ _) Y1 rfl
 |st i=>
  unfold ba;refine az (aY (aQ (w_var rfl (w_c (aS rfl (w_next ?_))))));walk_at "s";refine aW rfl (by decide) ?_;refine aW rfl (by decide) ?_;refine aW rfl (by decide) ?_;refine aW rfl (by decide) ?_;refine aW rfl (by decide) ?_;refine aW rfl (by decide) ?_;refine aW rfl (by decide) ?_;refine kY rfl (by decide) ?_;refine bB (bb (w_fld (w_var rfl (aX ho (by decide) rfl (bS hH (ai (aQ (w_var rfl (w_c (aS rfl (ax ?_)))))))))));refine sZ Y.H (fun z=>hE _ _ ?_ r0) fun j k e hj G1 c1 H1=>?_
  · unfold doneF pH;dsimp only;rw[gE z]
  · have eR:doneF y (.st i)= .ok (au y {y.af with ks:=y.af.ks.set j {k with up:=false}}) (.one (.bl k.up)):=by
     unfold doneF pH;dsimp only;rw[IH e hj];dsimp only;rw[hj]
    lia;exact hq _ S G1 _ _ eR (c1.mono fun n hn=>qE_ _ hn) (Sd.To.refl _ _) (Y.af c1 (Ad.To.refl S.A G.length) H1) rfl
 |wa i=>
  unfold ba;refine az (aY (aQ (w_var rfl (w_c (aS rfl (w_next ?_))))));walk_at "s";refine aW rfl (by decide) ?_;refine aW rfl (by decide) ?_;refine aW rfl (by decide) ?_;refine aW rfl (by decide) ?_;refine aW rfl (by decide) ?_;refine aW rfl (by decide) ?_;refine aW rfl (by decide) ?_;refine aW rfl (by decide) ?_;refine bB (bb (w_fld (w_var rfl (aX ho (by decide) rfl (bS hH (ai (aQ (w_var rfl (w_c (aS rfl (ax ?_)))))))))));refine sV Y.H (fun z=>hE _ _ ?_ r0) fun j k e hj G1 c1 H1=>?_
  · unfold doneF pH;dsimp only;rw[gE z]
  · have eR:doneF y (.wa i)= .ok (au y {y.af with ks:=y.af.ks.set j {k with up:=true}}) (.one (.bl (!k.up))):=by
     unfold doneF pH;dsimp only;rw[IH e hj];dsimp only;rw[hj]
    lia;exact hq _ S G1 _ _ eR (c1.mono fun n hn=>qE_ _ hn) (Sd.To.refl _ _) (Y.af c1 (Ad.To.refl S.A G.length) H1) rfl
end
def wordOf(c:Nat):Str:=if c=1001 then "no hand" else if c=1002 then "no keeper" else if c=1003 then "no letter" else if c=1004 then "busy" else "idle"
def bc(y:Sy)(d:dM):Sy×An:=match doneF y d with
 | .no c=>(y,.one (.str (wordOf c)))
 | .ok z a=>(z,a)
def zk(y:Sy):Sy:={y with aP:=y.aP+1}
def cQ(y:Sy)(d:dM):Sy×An:=(zk (j6 (bc y d).1),(bc y d).2)
def fx(y:Sy)(ds:List dM):Sy:=ds.foldl (fun y d=>(cQ y d).1) y
def iS:Sy->List dM->List An
 |_,[]=>[]
 |y,d :: r=>(cQ y d).2 :: iS (cQ y d).1 r
def AR(y:Sy)(a b:List dM):iS y (a++b)=iS y a++iS (fx y a) b:=by
 induction a generalizing y with
 |nil=>rfl
 |cons d r ih=>show _ :: iS _ (r++b)=_;rw[ih];rfl
def tQ(y:Sy)(a:List dM):(iS y a).length=a.length:=by
 induction a generalizing y with
 |nil=>rfl
 |cons d r ih=>simp [iS,ih]
def D8(y:Sy)(a b:List dM):fx y (a++b)=fx (fx y a) b:=List.foldl_append
def FW(h:doneF y d= .no c):c=1001\/c=1002\/c=1003\/c=1004\/c=1005:=by
 cases d <;> (unfold doneF at h;(try unfold cz at h);(try unfold iu at h);(try unfold pH at h);dsimp only at h;repeat' split at h) <;> cases h <;> simp
def ml(I:Iv1 y z):Iv1 y (j6 z):=by
 obtain⟨q1,q2,q3,q4⟩:=gG z.last z;unfold j6;exact⟨⟨by rw[q2];exact I.W.W,by rw[q1,q2,q4];exact I.W.la,by rw[q1];exact I.W.nd,by rw[q1,q2];exact I.W.atw⟩,q3.trans I.d,by rw[q2];exact I.m,by rw[q4];exact I.w,by rw[q1];exact I.l,by rw[q2];exact I.hl,by rw[q2];exact I.kl⟩
def oM(I:Iv y)(d:dM):Iv1 y (bc y d).1:=by
 unfold bc;split
 · exact I.same
 · rename_i z a h;exact Ge I d h
def EC(I:Iv1 y z):Iv (zk z):=by
 have h1:=I.d;have h2:=I.m;have h3:=I.w;refine⟨⟨I.W.W,I.W.la,I.W.nd,I.W.atw⟩,?_,?_,I.l⟩
 · show mea z.af<=40*(z.aP+1);omega
 · show z.ao.length<=z.aP+1;omega
def AF(I:Iv y)(d:dM):Iv (cQ y d).1:=EC (ml (oM I d))
def yZ{y:Sy}(I:Iv y)(d:dM):(cQ y d).1.aP=y.aP+1:=by
 show (j6 (bc y d).1).aP+1=_;rw[(ml (oM I d)).d]
def DR{y:Sy}(I:Iv y)(d:dM):(cQ y d).1.af.hs.length=y.af.hs.length/\(cQ y d).1.af.ks.length=y.af.ks.length:=⟨(ml (oM I d)).hl,(ml (oM I d)).kl⟩
def mB{y:Sy}(I:Iv y)(ds:List dM):Iv (fx y ds)/\(fx y ds).aP=y.aP+ds.length/\(fx y ds).af.hs.length=y.af.hs.length/\(fx y ds).af.ks.length=y.af.ks.length:=by
 induction ds generalizing y with
 |nil=>exact⟨I,rfl,rfl,rfl⟩
 |cons d r ih=>obtain⟨a,b,c,e⟩:=ih (AF I d);obtain⟨p,q⟩:=DR I d;refine⟨a,b.trans ?_,c.trans p,e.trans q⟩;rw[yZ I d,List.length_cons];omega
section
variable{G G':Hh}{Q:D->Hh->Prop}{E:Nat->Hh->Prop}{S:Sd}{y:Sy}{σ:St}{QS:Fl×St->Hh->Prop}
def nC.chg(h:nC S n G a v)(c:Chg T G G')(ht:∀x∈T,x∈S.all):nC S n G' a v:=by
 cases a with
 |one d=>exact h
 |lst ds=>obtain⟨l,e,h1,h2,h3⟩:=h;exact⟨l,e,h1,h2,c.get h3 fun z=>h2 (ht l z)⟩
def nC.on(h:nC S n G a v)(c:Chg S.all G G')(t:S.To S' G.length):nC S' n G' a v:=by
 cases a with
 |one d=>exact h
 |lst ds=>obtain⟨l,e,h1,h2,h3⟩:=h;have:=ar h3;exact⟨l,e,h1,fun z=>(t.z l z).elim h2 fun w=>by omega,c.get h3 h2⟩
def cy.count(Y:cy G S y)(c:Chg [S.s] G G')(h:G'[S.s]? =some (.ins 4 [(17,.ref S.A.a),(18,.ref S.lw),(19,.ref S.ld),(20,.int ((y.aP+1:Nat):Int))])):cy G' S (zk y):=by
 obtain⟨n1,n2,n3,n4,n5⟩:=jl Y.nd;have ns:∀n,n≠S.s->n∉ [S.s]:=fun n h z=>h (by simpa using z);exact⟨h,c.get Y.w (ns _ (Ne.symm n1)),c.get Y.d (ns _ (Ne.symm n2)),Y.wl,fun i a w h1 h2=>c.get (Y.wk i a w h1 h2) (ns _ (n5 a (qD_ h1)).1),Y.H.frame c (by intro n hn;simp at hn;rw[hn];exact Y.dj _ (by simp [Sd.own])),Y.nd,Y.dj⟩
def oA(I:Iv y)(hd:y.aP<=1000)(Y:cy G S y)
 (hq:∀v S' G',Chg S.all G G'->S.To S' G.length->cy G' S' (bc y d).1->nC S' G.length G' (bc y d).2 v->Q v G'):M3.run (bP [.ref S.s,ba d]) G Q E:=by
 have ho:=Y.o;walk_at "f";unfold cH;refine My (bb (w_var rfl (bS ho (ai (w_var rfl (ax ?_))))));refine Ju I hd Y (fun c G1 e c1=>?_) fun v S' G1 z a e c1 t Y1 h1=>?_
 · have e1:bc y d=(y,.one (.str (wordOf c))):=by unfold bc;rw[e]
   have Y1:cy G1 S (bc y d).1:=by rw[e1];exact Y.frame c1 (by simp)
   have q:=hq (.str (wordOf c)) S G1 (c1.mono (by simp)) (Sd.To.refl _ _) Y1 (by rw[e1];rfl);rcases FW e with rfl |rfl |rfl |rfl |rfl
   · exact⟨_,rfl,bB (w_c (lx q))⟩
   · exact⟨_,rfl,bB (w_c (lx q))⟩
   · exact⟨_,rfl,bB (w_c (lx q))⟩
   · exact⟨_,rfl,bB (w_c (lx q))⟩
   · exact⟨_,rfl,bB (w_c (lx q))⟩
 · have e1:bc y d=(z,a):=by unfold bc;rw[e]
   refine lx (hq v S' G1 c1 t (by rw[e1];exact Y1) (by rw[e1];exact h1))
def Ei(I:Iv y)(hd:y.aP<=1000)(Y:cy G S y)
 (hq:∀v S' G',Chg S.all G G'->S.To S' G.length->cy G' S' (cQ y d).1->nC S' G.length G' (cQ y d).2 v->Q v G'):M3.run (b8 [.ref S.s,ba d]) G Q E:=by
 have ho:=Y.o;walk_at "f";unfold ie;refine az (aY (bb (w_var rfl (bS ho (ai (w_var rfl (ax ?_)))))));refine oA I hd Y fun v S1 G1 c1 t1 Y1 h1=>w_next ?_;walk_at "s";have I1:=oM I d;have yo:=Y1.o;rw[t1.s]at yo;refine az (dE (bb (w_var rfl (bS yo (ax ?_)))));rw[<-t1.s];refine sR Y1 I1.W fun G2 c2 Y2=>w_next ?_;have zK:=Y2.o;have h2:=h1.chg c2 fun x hx=>qF_ _ hx;refine az (fU (aQ (w_fld (w_var rfl (aX zK (by decide) rfl (w_c (zq (w_var rfl ?_))))))));refine aL zK ⟨by decide,qP_ rfl⟩ fun G3 c3 l3 h3=>?_;lia;have sm:S1.s∈S1.all:=qF_ _ (by simp [Sd.own]);refine hq v S1 G3 ?_ t1 (Y2.count c3 ?_) (h2.chg c3 (by intro x hx;simp at hx;rw[hx];exact sm))
 · refine(c1.trans' c2 fun n hn=>t1.z n (qF_ _ hn)).trans' c3 fun n hn=>?_;simp at hn;rw[hn];exact t1.z _ sm
 · exact h3
end
def k0:Kr:=⟨start,true⟩
def fC(count many:Nat):Hl:=⟨List.replicate count k0,(List.range many).map fun i=>kA i count,[]⟩
def bC(count many:Nat):Sy:=⟨fC count many,[],[],0⟩
def mh{c m:Nat}(hc:c<=9)(hm:m<=9):Iv (bC c m):=by
 have hg:∀(i:Nat) h,(fC c m).hs[i]? =some h->h=kA i c:=by
  intro i h hh;unfold fC at hh;dsimp only at hh;rw[qQ_]at hh;cases q:(List.range m)[i]? with
  |none=>rw[q]at hh;cases hh
  |some j=>rw[q]at hh;obtain⟨h1,h2⟩:=qB_.mp q;rw[List.getElem_range]at h2;cases hh;rw[h2]
 have hk:(fC c m).ks.length=c:=by unfold fC;simp
 have hl:(fC c m).hs.length=m:=by unfold fC;simp
 refine⟨⟨⟨fun i h hh=>?_,fun e he=>(by cases he),by rw[show (bC c m).af=fC c m from rfl,hk];exact hc,by rw[show (bC c m).af=fC c m from rfl,hl];exact hm⟩,fun e he=>(by cases he),List.nodup_nil,fun i h hh ha=>?_⟩,?_,qO_ _,qf_ _⟩
 · rw[hg i h hh];exact⟨rfl,hk.symm,by simp [kA],by simp [kA],by simp [kA]⟩
 · rw[hg i h hh]at ha;cases ha
 · show mea (fC c m)<=0;unfold mea fC;dsimp only;rw[qb_];have:∀l:List Nat,(l.map (pot ∘ fun i=>kA i c)).sum=0:=by
    intro l
    induction l with
    |nil=>rfl
    |cons x r ih=>rw[List.map_cons,List.sum_cons,ih];rfl
   rw[this];exact qO_ _
section
variable{G G':Hh}{Q:D->Hh->Prop}{E:Nat->Hh->Prop}{S:Sd}{y:Sy}{σ:St}{QS:Fl×St->Hh->Prop}
def mE{it:I3}{cond:T3}{elt:E3}
 (h:M3.run (it σ) G (fun s G1=>M3.run (cg s.ck (fun x=>cond (some x :: eZ σ cap)) (fun x=>elt (some x :: eZ σ cap)) s.xs []) G1 (fun ys G2=>∀G3,Chg [] G2 G3->G3.length=G2.length+1->G3[G2.length]? =some (.lst ys)->Q (.ref G2.length) G3) E) E):M3.run (ij it cap cond elt σ) G Q E:=
 vh (ak h (fun s G1 q=>ak q (fun ys G2 q=>q _ (Chg.add _ _) (by simp) (aM _ _)) fun _ _ z=>z) fun _ _ z=>z)
def tm(ha:G[a]? =some (.ins 1 []))(hq:∀G',Chg [a] G G'->iy G' a k0->Q .non G'):M3.run (gx [.ref a]) G Q E:=by
 walk_at "f";unfold jj;lia;refine aL ha ⟨by decide,qP_ rfl⟩ fun G1 c1 l1 h1=>?_;lia;refine aL h1 ⟨by decide,qP_ rfl⟩ fun G2 c2 l2 h2=>?_;lia;exact hq G2 (c1.trans c2) h2
def yN{i:Int}{j:Nat}{QI:Src->Hh->Prop}(e:i=(j:Int))(hj:j<=1000000)(h:QI ⟨rng 0 j,fun _=>true⟩ G):M3.run (Hj (.int i)) G QI E:=by
 rw[e]
 with_reducible exact ir hj h
def xj{a c m:Nat}{ci mi:Int}(oO:ci=(c:Int))(qQ:mi=(m:Int))(ha:G[a]? =some (.ins 2 []))(hc:c<=9)(hm:m<=9)(hq:∀A G',A.a=a->Chg [a] G G'->(∀x∈A.foot,x=a\/G.length<=x)->bo G' A (fC c m)->Q .non G'):M3.run (gD [.ref a,.int ci,.int mi]) G Q E:=by
 have Pk:=ar ha;unfold gD
 with_reducible refine M3.GW rfl ?_
 simp only[List.map_cons,List.map_nil,List.cons_append,qc_];unfold ly
 with_reducible refine az ?_
 with_reducible refine fU ?_
 with_reducible refine mE ?_
 with_reducible refine qM ?_
 walk_at "w"
 with_reducible refine yN oO (by omega) ?_
 with_reducible refine jX (xs:=rng 0 c) (fun i acc G'=>∃ka:List Nat,acc=refs ka/\ka.length=i/\ka.Nodup/\(∀x∈ka,G.length<=x/\iy G' x k0)/\Chg [] G G') (fun _ _ _ _=>rfl) ?_ ?_ _ 0 [] G List.drop_zero (qf_ _) ⟨[],rfl,rfl,List.nodup_nil,by simp,Chg.refl _ _⟩
 · rintro i x acc G' hx ⟨ka,rfl,hl,hnd,hk,cc⟩;obtain⟨_,hi⟩:=nR hx;refine jA ?_;rw[if_pos rfl];refine lZ (ax fun G1 c1 l1 h1=>?_);refine tm h1 fun G2 c2 h2=>⟨rfl,?_,ka++[G'.length],?_,?_,?_,?_,?_⟩
   · unfold refs;rw[qM_,hl];unfold aw;omega
   · unfold refs;rw[qT_];rfl
   · simp [hl]
   · rw[List.nodup_append];refine⟨hnd,by simp,fun x hx y hy w=>?_⟩;simp at hy;have:=ar (hk x hx).2;omega
   · intro x hx;have g:=cc.1;rcases qG_.mp hx with w |w
     · obtain⟨q1,q2⟩:=hk x w;have:=ar q2;exact⟨q1,c2.get (c1.get q2 (by simp)) (by simp;omega)⟩
     · simp at w;subst w;exact⟨g,h2⟩
   · have g:=cc.1;exact cc.trans (c1.trans' c2 (by intro n hn;simp at hn;rw[hn];exact .inr (qO_ _)))
 rintro acc G1 ⟨ka,rfl,Ph,hknd,hk,cc1⟩;rw[qP]at Ph;refine fun G2 c2 l2 h2=>w_var rfl ?_;have Ue:=cc1.trans c2;have LY:=Ue.get ha (by simp);refine aL LY ⟨by decide,qP_ rfl⟩ fun G3 c3 l3 h3=>w_next ?_;have g1:=cc1.1
 with_reducible refine az ?_
 with_reducible refine fU ?_
 with_reducible refine mE ?_
 with_reducible refine qM ?_
 walk_at "w"
 with_reducible refine yN qQ (by omega) ?_
 with_reducible refine jX (xs:=rng 0 m) (fun i acc G'=>∃ha da:List Nat,acc=refs ha/\ha.length=i/\da.length=i/\(ha++da).Nodup/\(∀x∈ha++da,G3.length<=x/\x < G'.length)/\(∀(j:Nat) a d,ha[j]? =some a->da[j]? =some d->fV G' a d (kA j c))/\Chg [] G3 G') (fun _ _ _ _=>rfl) ?_ ?_ _ 0 [] G3 List.drop_zero (qf_ _) ⟨[],[],rfl,rfl,rfl,(by simp),(by simp),(by simp),Chg.refl _ _⟩
 · rintro i x acc G' hx ⟨ha,da,rfl,hl,hdl,hnd,hk,hh,cc⟩;obtain⟨rfl,hi⟩:=nR hx;rw[Int.zero_add];refine jA ?_;rw[if_pos rfl];refine lZ (ai (w_var rfl (ai (w_var rfl (ax fun G4 c4 l4 h4=>?_)))));rw[oO]
   with_reducible refine yd h4 fun G5 d c5 hd h5=>⟨rfl,?_,ha++[G'.length],da++[d],?_,?_,?_,?_,?_,?_,?_⟩
   · unfold refs;rw[qM_,hl];unfold aw;omega
   · unfold refs;rw[qT_];rfl
   · simp [hl]
   · simp [hdl]
   · have gA:∀x∈ha++da,x < G'.length:=fun x hx=>(hk x hx).2;refine(List.Perm.nodup_iff (l₂:=(ha++da)++[G'.length,d]) ?_).mpr ?_
     · rw[List.append_assoc,List.append_assoc];exact List.Perm.append_left ha (show (G'.length :: (da++[d])).Perm (da++G'.length :: [d])from List.perm_middle.symm)
     · rw[List.nodup_append];refine⟨hnd,by simp;omega,fun x hx y hy w=>?_⟩;have:=gA x hx;simp at hy;rcases hy with q |q <;> omega
   · intro x hx;have g:=cc.1;have l5:=ar h5.1;have l6:=ar h5.2;have g5:=c5.1;simp only[qG_,qS_,List.not_mem_nil,or_false]at hx;rcases hx with (w |w) |(w |w)
     · have:=hk x (qF_ _ w);omega
     · omega
     · have:=hk x (qE_ _ w);omega
     · omega
   · intro j a' d' e1 e2;by_cases z:j < i
     · rw[qK_ (by omega)]at e1;rw[qK_ (by omega)]at e2;have q:=hh j a' d' e1 e2;have r1:=ar q.1;have r2:=ar q.2;exact(q.chg c4 (by simp) (by simp)).chg c5 (by simp;omega) (by simp;omega)
     · have z1:j=i:=by
        have:=(qB_.mp e1).1;simp at this;omega
       subst z1;rw[List.getElem?_append_right (by omega)]at e1 e2;simp [hl]at e1;simp [hdl]at e2;subst e1 e2;exact h5
   · exact cc.trans (c4.trans' c5 (by intro n hn;simp at hn;rw[hn];exact .inr (qO_ _)))
 rintro acc G4 ⟨hA,dA,rfl,hhl,hdl,hnd,hk4,hh,cc4⟩;rw[qP]at hhl hdl;refine fun G5 c5 l5 h5=>w_var rfl ?_;have Wq:=c5.get (cc4.get h3 (by simp)) (by simp);refine aL Wq ⟨by decide,qP_ rfl⟩ fun G6 c6 l6 h6=>w_next ?_;refine fU (cD fun G7 c7 l7 h7=>w_var rfl ?_);have V6:=c7.get h6 (by simp);refine aL V6 ⟨by decide,qP_ rfl⟩ fun G8 c8 l8 h8=>?_;have g4:=cc4.1;have na:∀x,x≠a->x∉ [a]:=fun x h z=>h (by simpa using z);have k8:G8[G1.length]? =some (.lst (refs ka)):=c8.get (c7.get (c6.get (c5.get (cc4.get (c3.get h2 (na _ (by omega))) (by simp)) (by simp)) (na _ (by omega))) (by simp)) (na _ (by omega));have r8:G8[G4.length]? =some (.lst (refs hA)):=c8.get (c7.get (c6.get h5 (na _ (by omega))) (by simp)) (na _ (by omega));have e8:G8[G6.length]? =some (.lst []):=c8.get h7 (na _ (by omega));refine uL ?_;refine hq ⟨a,G1.length,G4.length,G6.length,ka,hA,dA⟩ G8 rfl ?_ ?_ ⟨h8,k8,r8,e8,?_,?_,?_,?_,?_,?_⟩
 · exact((Ue.mono (by simp)).trans c3).trans ((((cc4.mono (by simp)).trans (c5.mono (by simp))).trans c6).trans ((c7.mono (by simp)).trans c8))
 · intro x hx;unfold Ad.foot at hx;simp only[qG_,qS_,List.not_mem_nil,or_false]at hx;rcases hx with (w |w |w |w) |(w |w |w)
   · exact .inl w
   · exact .inr (by omega)
   · exact .inr (by omega)
   · exact .inr (by omega)
   · exact .inr (hk x w).1
   · have:=hk4 x (qF_ _ w);exact .inr (by omega)
   · have:=hk4 x (qE_ _ w);exact .inr (by omega)
 · unfold fC;simp [Ph]
 · unfold fC;simp [hhl]
 · unfold fC;simp [hdl]
 · intro i x k h1 h2;have BW:=hk x (qD_ h1);have gA:=ar BW.2;have:k=k0:=by
    have:=qD_ h2;unfold fC at this;exact(List.mem_replicate.mp this).2
   subst this;exact c8.get (c7.get (c6.get (c5.get (cc4.get (c3.get (c2.get BW.2 (by simp)) (na _ (by omega))) (by simp)) (by simp)) (na _ (by omega))) (by simp)) (na _ (by omega))
 · intro i x d h h1 h2 ET;have q:=hh i x d h1 h2;have e:h=kA i c:=by
    unfold fC at ET;dsimp only at ET;rw[qQ_]at ET;cases w:(List.range m)[i]? with
    |none=>rw[w]at ET;cases ET
    |some j=>rw[w]at ET;obtain⟨_,w2⟩:=qB_.mp w;rw[List.getElem_range]at w2;cases ET;rw[w2]
   subst e;have u1:=hk4 x (qF_ _ (qD_ h1));have u2:=hk4 d (qE_ _ (qD_ h2));exact(((q.chg c5 (by simp) (by simp)).chg c6 (na _ (by omega)) (na _ (by omega))).chg c7 (by simp) (by simp)).chg c8 (na _ (by omega)) (na _ (by omega))
 · unfold Ad.foot;dsimp only;rw[List.nodup_append];refine⟨by simp;omega,?_,fun x hx z hz w=>?_⟩
   · rw[List.nodup_append];refine⟨hknd,hnd,fun x hx z hz w=>?_⟩;have u1:=ar (hk x hx).2;have u2:=hk4 z hz;omega
   · subst w;simp only[qS_,List.not_mem_nil,or_false]at hx;rcases qG_.mp hz with q |q
     · have u1:=(hk x q).1;have u2:=ar (hk x q).2;omega
     · have:=hk4 x q;omega
def oa{a c m:Nat}{ci mi:Int}(oO:ci=(c:Int))(qQ:mi=(m:Int))(ha:G[a]? =some (.ins 4 []))(hc:c<=9)(hm:m<=9)
 (hq:∀S G',S.s=a->Chg [a] G G'->(∀x∈S.all,x=a\/G.length<=x)->cy G' S (bC c m)->Q .non G'):M3.run (dY [.ref a,.int ci,.int mi]) G Q E:=by
 have Pk:=ar ha;have na:∀x,x≠a->x∉ [a]:=fun x h z=>h (by simpa using z);walk_at "f";unfold jP;refine az (fU (lZ (ai (w_var rfl (ai (w_var rfl (ax fun G1 c1 l1 h1=>?_)))))));refine xj oO qQ h1 hc hm fun A G2 hA c2 hf H2=>⟨rfl,w_var rfl ?_⟩;have Wc:∀x,x < G.length->x∉ [G.length]:=fun x h z=>by simp at z;omega
 have LY:=c2.get (c1.get ha (by simp)) (Wc _ Pk);refine aL LY ⟨by decide,qP_ rfl⟩ fun G3 c3 l3 h3=>w_next ?_;refine az (fU (cD fun G4 c4 l4 h4=>w_var rfl ?_));have Wf:=c4.get h3 (by simp);refine aL Wf ⟨by decide,qP_ rfl⟩ fun G5 c5 l5 h5=>w_next ?_;refine az (fU (jm fun G6 c6 l6 h6=>w_var rfl ?_));have WG:=c6.get h5 (by simp);refine aL WG ⟨by decide,qP_ rfl⟩ fun G7 c7 l7 h7=>w_next ?_;refine fU (w_c (w_var rfl ?_));refine aL h7 ⟨by decide,qP_ rfl⟩ fun G8 c8 l8 h8=>uL ?_;have g2:=c2.1;have N7:∀x∈A.foot,x≠a/\G.length<=x/\x < G2.length:=fun x hx=>by
  have:=H2.lt x hx;rcases hf x hx with w |w <;> omega
 have fr:∀{T:List Nat} {X Y:Hh},Chg T X Y->(∀n∈T,n=a)->bo X A (fC c m)->bo Y A (fC c m):=fun cc ht H=>H.frame cc fun n hn z=>(N7 n z).1 (ht n hn);have e1:∀n∈ [a],n=a:=by simp
 have e0:∀n∈([]:List Nat),n=a:=by simp
 have H8:=fr c8 e1 (fr c7 e1 (fr c6 e0 (fr c5 e1 (fr c4 e0 (fr c3 e1 H2)))));rw[<-hA]at h8;have n1:G3.length∉ [a]:=na _ (by omega);have n2:G5.length∉ [a]:=na _ (by omega);have w8:G8[G3.length]? =some (.lst []):=c8.get (c7.get (c6.get (c5.get h4 n1) (by simp)) n1) n1;have d8:G8[G5.length]? =some (.dK []):=c8.get (c7.get h6 n2) n2;refine hq ⟨a,G3.length,G5.length,[],A⟩ G8 rfl ?_ ?_ ⟨h8,w8,d8,rfl,by simp,H8,?_,?_⟩
 · exact(((c1.mono (T:=[a]) (by simp)).trans' c2 (by intro n hn;simp at hn;exact .inr (by omega))).trans c3 |>.trans (c4.mono (by simp)) |>.trans c5 |>.trans (c6.mono (by simp)) |>.trans c7 |>.trans c8)
 · intro x hx;rcases qG_.mp hx with w |w
   · unfold Sd.own at w;simp only[qY_,qS_,List.not_mem_nil,or_false]at w;rcases w with w |w |w
     · exact .inl w
     · exact .inr (by omega)
     · exact .inr (by omega)
   · exact .inr (N7 x w).2.1
 · unfold Sd.own;simp;omega
 · intro x hx z;unfold Sd.own at hx;simp only[qY_,qS_,List.not_mem_nil,or_false]at hx;have:=N7 x z;omega
def tM(hs:S.s=s)(I:Iv y)(hd:y.aP<=1000)(Y:cy G S y)
 (hq:∀v S' G',Chg S.all G G'->S.To S' G.length->cy G' S' (cQ y d).1->nC S' G.length G' (cQ y d).2 v->Q v G'):M3.run (b8 [.ref s,ba d]) G Q E:=by
 subst hs;exact Ei I hd Y hq
def uf(S:Sd)(n:Nat)(G:Hh)(as:List An)(vs:List D):Prop:=as.length=vs.length/\∀(i:Nat) a v,as[i]? =some a->vs[i]? =some v->nC S n G a v
def nC.mono{n m:Nat}{a:An}{v:D}(h:nC S n G a v)(hm:m<=n):nC S m G a v:=by
 cases a with
 |one d=>exact h
 |lst ds=>obtain⟨l,e,h1,h2,h3⟩:=h;exact⟨l,e,Nat.le_trans hm h1,h2,h3⟩
def uf.snoc(h:uf S n G as vs)(h1:nC S n G a v):uf S n G (as++[a]) (vs++[v]):=by
 refine⟨by simp [h.1],fun i b w hb hw=>?_⟩;by_cases z:i < as.length
 · rw[qK_ z]at hb;rw[qK_ (by rw[<-h.1];exact z)]at hw;exact h.2 i b w hb hw
 · rw[List.getElem?_append_right (by omega)]at hb;rw[List.getElem?_append_right (by rw[<-h.1];omega)]at hw;have:i - as.length=0:=by
    have:=(qB_.mp hb).1;simp at this;omega
   rw[this]at hb;rw[<-h.1,this]at hw;simp at hb hw;subst hb hw;exact h1
def xH{ds:List dM}(h:ds[i]? =some d)(y:Sy):fx y (ds.take (i+1))=(cQ (fx y (ds.take i)) d).1/\iS y (ds.take (i+1))=iS y (ds.take i)++[(cQ (fx y (ds.take i)) d).2]:=by
 rw[take_succ h,D8,AR];exact⟨rfl,rfl⟩
def Bq{c m l:Nat}{ci mi:Int}{ds:List dM}(oO:ci=(c:Int))(qQ:mi=(m:Int))(hc:c<=9)(hm:m<=9)(hl:G[l]? =some (.lst (ds.map ba)))(hz:ds.length<=1000)
 (hq:∀S la vs G',Chg [] G G'->G.length<=la->G'[la]? =some (.lst vs)->uf S G.length G' (iS (bC c m) ds) vs->Q (.ref la) G'):M3.run (mn [.int ci,.int mi,.ref l]) G Q E:=by
 have Mn:=ar hl;walk_at "f";unfold pb;refine az (aY (lZ (ai (w_var rfl (ai (w_var rfl (ax fun G1 c1 l1 h1=>?_)))))));refine oa oO qQ h1 hc hm fun S0 G2 hS c2 hf Y2=>⟨rfl,w_next ?_⟩;walk_at "s";have I0:=mh hc hm;have Hv:Chg [] G G2:=c1.trans' c2 (by intro n hn;simp at hn;rw[hn];exact .inr (qO_ _));have Qi:∀x∈S0.all,G.length<=x:=fun x hx=>by rcases hf x hx with w |w <;> omega
 have yn:=Hv.get hl (by simp);refine bB (mE (pO (w_var rfl (eP yn ?_))));refine jX (xs:=ds.map ba) (fun i acc G'=>∃S',Chg [] G G'/\S'.s=G.length/\(∀x∈S'.all,G.length<=x)/\cy G' S' (fx (bC c m) (ds.take i))/\uf S' G.length G' (iS (bC c m) (ds.take i)) acc) ?_ ?_ ?_ _ 0 [] G2 List.drop_zero (qf_ _) ⟨S0,Hv,hS,Qi,Y2,rfl,by intro i a v h;simp [iS]at h⟩
 · rintro i acc G' ⟨S',cc,_⟩;exact qZ_ (cc.get hl (by simp))
 · rintro i x acc G' hx ⟨S',cc,hs,zI,Y',A'⟩;obtain⟨d,hd,rfl⟩:=qO hx;obtain⟨I',Oh,_,_⟩:=mB I0 (ds.take i);obtain⟨e1,e2⟩:=xH hd (bC c m);have LM:(fx (bC c m) (ds.take i)).aP<=1000:=by
    rw[Oh,List.length_take];show 0+_<=_;omega
   have ho:=Y'.o;rw[hs]at ho;refine jA ?_;rw[if_pos rfl];refine bb (w_var rfl (bS ho (ai (w_var rfl (ax ?_)))));refine tM hs (d:=d) I' LM Y' fun v S2 G2 c2 t2 Y2 A2=>?_;have g:=cc.1;refine⟨?_,S2,?_,t2.s.trans hs,fun x hx=>?_,by rw[e1];exact Y2,?_⟩
   · rw[<-A'.1,tQ,List.length_take];unfold aw;omega
   · exact cc.trans' c2 fun n hn=>.inr (zI n hn)
   · rcases t2.z x hx with w |w
     · exact zI x w
     · omega
   · rw[e2];exact uf.snoc ⟨A'.1,fun j a w h1 h2=>(A'.2 j a w h1 h2).on c2 t2⟩ (A2.mono g)
 · rintro acc G' ⟨S',cc,hs,zI,Y',A'⟩;rw[qM_,List.take_length]at*;intro G3 c3 l3 h3;lia;exact hq S' G'.length acc G3 (cc.trans c3) cc.1 h3 ⟨A'.1,fun j a w h1 h2=>(A'.2 j a w h1 h2).chg c3 (by simp)⟩
def Kp(ha:pC G a w)(hq:Q (fS w) G):M3.run (iM [.ref a]) G Q E:=by
 unfold pC wkF at ha;walk_at "f";unfold kZ;lia;exact hq
def vi{f:Nat->D}{xs:List Nat}{ck:Hh->Bool}{cond:D->M Bool}{elt:D->M D}{QA:List D->Hh->Prop}(wo:ck G=true)(hz:xs.length<=1000000)
 (hc:∀x∈xs,M3.run (cond (.ref x)) G (fun c G1=>G1=G/\c=true) E) (he:∀x∈xs,M3.run (elt (.ref x)) G (fun y G1=>G1=G/\y=f x) E)
 (h:QA (xs.map f) G):M3.run (cg ck cond elt (refs xs) []) G QA E:=by
 refine oG (f:=D.ref) (p:=fun _=>true) (g:=f) wo hz hc (fun x hx _=>he x hx) ?_;rw[List.filter_eq_self.mpr (fun _ _=>rfl)];exact h
def zC{α:Type}{as:List Nat}{ws:List α}{f:Nat->D}{g:α->D}(hl:as.length=ws.length)(h:∀(i:Nat) a w,as[i]? =some a->ws[i]? =some w->f a=g w):as.map f=ws.map g:=by
 apply List.ext_getElem?;intro i;rw[qQ_,qQ_];cases p:as[i]? with
 |none=>
  have:ws[i]? =none:=by rw[List.getElem?_eq_none_iff]at*;omega
  rw[this];rfl
 |some a=>have hi:=(qB_.mp p).1;have:ws[i]? =some ws[i]:=qA_ (by omega);rw[this];show some (f a)=some (g _);rw[h i a _ p this]
def vb(G:Hh)(a:Nat):D:=match G[a]? with
 |some (.ins _ [(_,a),(_,b),(_,c),(_,d),(_,e),_])=>.tup [a,b,c,d,e]
 |_=>.non
def pZ(G:Hh)(i:Nat)(a:Nat):D:=match G[a]? with
 |some (.ins _ fs)=>(fs.lookup i).getD .non
 |_=>.non
def Jw(y:Sy)(l1 l2 l3:Nat)(G:Hh):Prop:=G[l1]? =some (.lst (y.ao.map fS))/\G[l2]? =some (.lst (y.ao.map fun w=>stD w.bY))/\G[l3]? =some (.lst (y.af.ks.map fun k=>pD k.pair))
def xn{c m l:Nat}{ci mi:Int}{ds:List dM}(oO:ci=(c:Int))(qQ:mi=(m:Int))(hc:c<=9)(hm:m<=9)(hl:G[l]? =some (.lst (ds.map ba)))(hz:ds.length<=1000)
 (hq:∀l1 l2 l3 G',Chg [] G G'->G.length<=l1->G.length<=l2->G.length<=l3->Jw (fx (bC c m) ds) l1 l2 l3 G'->Q (.tup [.ref l1,.ref l2,.ref l3]) G'):M3.run (iI [.int ci,.int mi,.ref l]) G Q E:=by
 have Mn:=ar hl;walk_at "f";unfold k6;refine az (aY (lZ (ai (w_var rfl (ai (w_var rfl (ax fun G1 c1 l1 h1=>?_)))))));refine oa oO qQ h1 hc hm fun S0 G2 hS c2 hf Y2=>⟨rfl,w_next ?_⟩;walk_at "s";have I0:=mh hc hm;have Hv:Chg [] G G2:=c1.trans' c2 (by intro n hn;simp at hn;rw[hn];exact .inr (qO_ _));have Qi:∀x∈S0.all,G.length<=x:=fun x hx=>by rcases hf x hx with w |w <;> omega
 have yn:=Hv.get hl (by simp);refine az (CJ (pO (w_var rfl (eP yn ?_))));refine jI (fun i σ G'=>∃S' v,σ=[some (.int ci),some (.int mi),some (.ref l),some (.ref G.length),v,none,none,none]/\Chg [] G G'/\S'.s=G.length/\(∀x∈S'.all,G.length<=x)/\cy G' S' (fx (bC c m) (ds.take i))) ?_ ?_ ?_ ⟨S0,none,rfl,Hv,hS,Qi,Y2⟩
 · rintro i σ G' ⟨S',v,_,cc,_⟩;exact qZ_ (cc.get hl (by simp))
 · rintro i d σ G' hd ⟨S',v,rfl,cc,hs,zI,Y'⟩;obtain⟨I',Oh,_,_⟩:=mB I0 (ds.take i);obtain⟨e1,e2⟩:=xH hd (bC c m);have LM:(fx (bC c m) (ds.take i)).aP<=1000:=by
    rw[Oh,List.length_take];show 0+_<=_;omega
   have ho:=Y'.o;rw[hs]at ho;refine aB (kB ?_);walk_at "s";refine dE (bb (w_var rfl (bS ho (ai (w_var rfl (ax ?_))))));refine tM hs (d:=d) I' LM Y' fun v S2 G2 c2 t2 Y2 A2=>?_;have g:=cc.1;refine⟨S2,_,rfl,cc.trans' c2 fun n hn=>.inr (zI n hn),t2.s.trans hs,fun x hx=>?_,by rw[e1];exact Y2⟩;rcases t2.z x hx with w |w
   · exact zI x w
   · omega
 · rintro σ G3 ⟨S',v,rfl,cc,hs,zI,Y⟩;rw[List.take_length]at Y;obtain⟨I',Oh,_,_⟩:=mB I0 ds;have hw:(fx (bC c m) ds).ao.length<=1000:=by
    have:=I'.w;rw[Oh]at this;have:(fx (bC c m) ds).ao.length<=0+ds.length:=this;omega
   have WW:=I'.W.W.ksz;generalize fx (bC c m) ds=y at*;have ho:=Y.o;rw[hs]at ho;refine w_next ?_;have OO:∀a∈S'.wa,∃w,pC G3 a w:=fun a ha=>by
    obtain⟨i,hi,e⟩:=List.getElem_of_mem ha;have h1:S'.wa[i]? =some a:=(by rw[qA_ hi,e]);exact⟨_,Y.wk i a _ h1 (qA_ (by rw[<-Y.wl];exact hi))⟩
   refine az (aY (mE (pO (w_fld (w_var rfl (aX ho (by decide) rfl (eP Y.w ?_)))))));refine vi (f:=vb G3) (qZ_ Y.w) (by rw[Y.wl];omega) (fun x _=>jA ⟨rfl,rfl⟩) (fun x hx=>?_) ?_
   · obtain⟨w,hw⟩:=OO x hx;have Qo:=hw;unfold pC wkF at Qo;refine bb (w_var rfl (bS Qo (ax ?_)));refine Kp hw ⟨rfl,?_⟩;unfold vb;rw[Qo];rfl
   have em1:S'.wa.map (vb G3)=y.ao.map fS:=zC Y.wl fun i a w h1 h2=>by
    have:=Y.wk i a w h1 h2;unfold pC wkF at this;unfold vb;rw[this];rfl
   rw[em1];intro G4 c4 l4 h4;refine w_next ?_;walk_at "s";have Y4:=Y.frame c4 (by simp);have T7:=c4.get ho (by simp);have RG:∀a∈S'.wa,∃w,pC G4 a w:=fun a ha=>by
    obtain⟨w,hw⟩:=OO a ha;exact⟨w,c4.get hw (by simp)⟩
   refine az (aY (mE (pO (w_fld (w_var rfl (aX T7 (by decide) rfl (eP Y4.w ?_)))))));refine vi (f:=pZ G4 16) (qZ_ Y4.w) (by rw[Y4.wl];omega) (fun x _=>jA ⟨rfl,rfl⟩) (fun x hx=>?_) ?_
   · obtain⟨w,hw⟩:=RG x hx;unfold pC wkF at hw;refine w_fld (w_var rfl (aX hw (by decide) rfl ⟨rfl,?_⟩));unfold pZ;rw[hw];rfl
   have em2:S'.wa.map (pZ G4 16)=y.ao.map fun w=>stD w.bY:=zC Y4.wl fun i a w h1 h2=>by
    have:=Y4.wk i a w h1 h2;unfold pC wkF at this;unfold pZ;rw[this];rfl
   rw[em2];intro G5 c5 l5 h5;refine w_next ?_;walk_at "s";have Y5:=Y4.frame c5 (by simp);have WB:=c5.get T7 (by simp);have U0:=Y5.H.o;have Fd:∀a∈S'.A.ka,∃k,iy G5 a k:=fun a ha=>by
    obtain⟨i,hi,e⟩:=List.getElem_of_mem ha;have h1:S'.A.ka[i]? =some a:=(by rw[qA_ hi,e]);exact⟨_,Y5.H.kr i a _ h1 (qA_ (by rw[<-Y5.H.kl];exact hi))⟩
   refine az (aY (mE (pO (w_fld (w_fld (w_var rfl (aX WB (by decide) rfl (aX U0 (by decide) rfl (eP Y5.H.k ?_)))))))));refine vi (f:=pZ G5 4) (qZ_ Y5.H.k) (by rw[Y5.H.kl];omega) (fun x _=>jA ⟨rfl,rfl⟩) (fun x hx=>?_) ?_
   · obtain⟨w,hw⟩:=Fd x hx;unfold iy krF at hw;refine w_fld (w_var rfl (aX hw (by decide) rfl ⟨rfl,?_⟩));unfold pZ;rw[hw];rfl
   have em3:S'.A.ka.map (pZ G5 4)=y.af.ks.map fun k=>pD k.pair:=zC Y5.H.kl fun i a w h1 h2=>by
    have:=Y5.H.kr i a w h1 h2;unfold iy krF at this;unfold pZ;rw[this];rfl
   rw[em3];intro G6 c6 l6 h6;have g3:=cc.1;refine w_next ?_;walk_at "s";lia;exact hq G3.length G4.length G5.length G6 (((cc.trans c4).trans c5).trans c6) (by omega) (by omega) (by omega) ⟨c6.get (c5.get h4 (by simp)) (by simp),c6.get h5 (by simp),h6⟩
end
def DIn(c m:Nat):dM->Prop
 | .wr i _=>0<=i/\i < (m:Int)
 | .rd i=>0<=i/\i < (m:Int)
 | .ca _ _=>True
 | .pa i j=>(0<=i/\i < (m:Int))/\(0<=j/\j < (c:Int))
 | .sw=>True
 | .ag i=>0<=i/\i < (m:Int)
 | .qu i=>0<=i/\i < (m:Int)
 | .st j=>0<=j/\j < (c:Int)
 | .wa j=>0<=j/\j < (c:Int)
section
variable{G G':Hh}{Q:D->Hh->Prop}{E:Nat->Hh->Prop}{σ:St}
def qI{xs:List Int}(h0:0<=i)(h1:i < (xs.length:Int)):∃v∈xs,atI (xs.map D.int) i=some (.int v):=by
 have hl:i.toNat < xs.length:=by omega
 exact⟨xs[i.toNat],List.getElem_mem hl,ED h0 (qA_ hl)⟩
def gP(h:Q (.bl true) G):M3.run (dI [.int i]) G Q E:=by
 walk_at "f";unfold uY;lia;exact h
def Mo{l:Nat}{ns:List Int}{k:Nat}(hl:G[l]? =some (.frz (ns.map D.int)))(h:∀v:Int,Q (.int v) G):M3.run (xt [.ref l,.int (k:Int)]) G Q E:=by
 unfold xt
 with_reducible refine M3.GW rfl ?_
 simp only[List.map_cons,List.map_nil,List.cons_append,qc_];unfold Ky;lia
 with_reducible refine Em hl ?_
 lia;refine w_ite (fun z=>?_) fun z=>?_
 · have z':=of_decide_eq_true z;rw[qM_]at z';obtain⟨v,_,e⟩:=qI (xs:=ns) (i:=(k:Int)) (by omega) z';lia
   with_reducible refine NM hl e ?_
   lia;exact h v
 · lia;exact h 0
def Zn(n:Int):Str:=Txt.mul "0" n
def tza(h0:0<=i)(h1:i<=1000)(h:Q (.str (Zn i)) G):M3.run (eN (.str "0") (.int i)) G Q E:=by
 have c:(0:Int)<=i/\i<=1000/\("0":Str).length<=1000:=⟨h0,h1,by decide +kernel⟩;show M3.run (if (0:Int)<=i/\i<=1000/\("0":Str).length<=1000 then ret (D.str (Txt.mul "0" i))else fail) G _ E;rw[if_pos c];exact h
def P6:intText? (("1":Str)++Zn 88)=some (10 ^ 88):=by decide +kernel
def P2:intText? (("1":Str)++Zn 90)=some (10 ^ 90):=by decide +kernel
def Qc:(("1":Str)++Zn 88).length<=640:=by decide +kernel
def Po:(("1":Str)++Zn 90).length<=640:=by decide +kernel
def tzc{s:Str}(hn:intText? s=some i)(hl:s.length<=640)(h:Q (.int i) G):M3.run (yW [.str s]) G Q E:=by
 refine aC (a:= .int i) (G':=G) ?_ h;unfold yW;dsimp only;rw[hn];dsimp only;rw[if_pos hl]
def zo(h:∀v G',Ext G G'->Q (.int v) G'):M3.run (jT [.int c,.int k]) G Q E:=by
 walk_at "f";unfold nK;lia;refine tza (by decide) (by decide) ?_;lia;refine EG (by decide +kernel) ?_;lia;refine tzc P6 Qc ?_;refine nE (by decide) ?_;lia;have i1:0<=c*48271 % 1009 % 6:=Int.emod_nonneg _ (by decide);have i2:c*48271 % 1009 % 6 < 6:=Int.emod_lt_of_pos _ (by decide);obtain⟨v,_,e⟩:=qI (xs:=[k+1,0 - k - 1,1000*k+7,c % 10 ^ 88*100+k,0 - (c % 10 ^ 88*100+k),0]) i1 i2;refine bL (aM _ _) e ?_;lia;exact h v _ (Ext.add _ _)
def Di(h0:0<=i)(h1:i < 2):atI [a,b] i=some a\/atI [a,b] i=some b:=by
 have:i=0\/i=1:=by omega
 rcases this with rfl |rfl
 · exact .inl rfl
 · exact .inr rfl
def AW{c m:Nat}{x k ci mi:Int}(oO:ci=(c:Int))(qQ:mi=(m:Int))(hc:0 < c)(hm:0 < m)(h:∀d G',Ext G G'->DIn c m d->Q (ba d) G'):M3.run (jq [.int x,.int k,.int ci,.int mi]) G Q E:=by
 have e0:=Ext.refl G;walk_at "f";unfold oR;lia;refine nE (by omega) ?_;lia;refine nE (by omega) ?_;have a1:0<=x*48271 % 1019 % mi:=Int.emod_nonneg _ (by omega);have a2:x*48271 % 1019 % mi < (m:Int):=by rw[<-qQ];exact Int.emod_lt_of_pos _ (by omega)
 have b1:0<=x*48271 % 1021 % ci:=Int.emod_nonneg _ (by omega);have b2:x*48271 % 1021 % ci < (c:Int):=by rw[<-oO];exact Int.emod_lt_of_pos _ (by omega)
 generalize x*48271 % 1019 % mi=hh at*;generalize x*48271 % 1021 % ci=kk at*;have w1:0<=x*48271 % 1013 % 20:=Int.emod_nonneg _ (by decide);have w2:x*48271 % 1013 % 20 < 20:=Int.emod_lt_of_pos _ (by decide);generalize x*48271 % 1013 % 20=way at*;lia;refine w_ite (fun z=>?_) fun z1=>?_
 · lia;refine zo fun v G1 e1=>?_
   lia;exact h (.wr hh v) G1 e1 ⟨a1,a2⟩
 lia;refine w_ite (fun z=>?_) fun z2=>?_
 · lia;exact h (.rd hh) G e0 ⟨a1,a2⟩
 lia;refine w_ite (fun z=>?_) fun z3=>?_
 · lia;exact h (.pa hh kk) G e0 ⟨⟨a1,a2⟩,b1,b2⟩
 lia;refine w_ite (fun z=>?_) fun z4=>?_
 · lia;refine w_eq (by rfl) ?_
   lia;refine w_ite (fun z=>?_) fun z=>?_
   · lia;refine tza (by decide) (by decide) ?_
     lia;refine EG (by decide +kernel) ?_
     lia;refine tzc P2 Po ?_
     refine nE (by decide) ?_;lia;exact h (.ca _ _) G e0 trivial
   · lia;exact h (.ca _ _) G e0 trivial
 have z4:=of_decide_eq_false z4;lia;refine w_eq (by rfl) ?_;lia;refine w_ite (fun z=>?_) fun z5=>?_
 · lia;exact h (.ag hh) G e0 ⟨a1,a2⟩
 have z5:=of_decide_eq_false z5;lia;refine w_eq (by rfl) ?_;lia;refine w_ite (fun z=>?_) fun z6=>?_
 · lia;have i1:0<=x*48271 % 1039 % 2:=Int.emod_nonneg _ (by decide)
   have i2:x*48271 % 1039 % 2 < 2:=Int.emod_lt_of_pos _ (by decide);rcases Di (a:= .tup [.str "quit",.int hh]) (b:= .tup [.str "sweep"]) i1 i2 with e |e
   · refine bL (aM _ _) e ?_;lia;exact h (.qu hh) _ (Ext.add _ _) ⟨a1,a2⟩
   · refine bL (aM _ _) e ?_;lia;exact h .sw _ (Ext.add _ _) trivial
 have z6:=of_decide_eq_false z6;lia;rcases Di (a:= .tup [.str "stop",.int kk]) (b:= .tup [.str "wake",.int kk]) (i:=way - 16) (by omega) (by omega)with e |e
 · refine bL (aM _ _) e ?_;lia;exact h (.st kk) _ (Ext.add _ _) ⟨b1,b2⟩
 · refine bL (aM _ _) e ?_;lia;exact h (.wa kk) _ (Ext.add _ _) ⟨b1,b2⟩
def GC{xs:List D}(h1:G[i]? =some (.lst xs))(h2:G[j]? =some (.lst []))(h:Q (.bl (!xs.isEmpty)) G):M3.run (oNe (.ref i) (.ref j)) G Q E:=by
 refine kE (b:=xs.isEmpty) ?_ h;have e1:M3.listOf G i=some xs:=by unfold M3.listOf;rw[h1]
 have e2:M3.listOf G j=some []:=by unfold M3.listOf;rw[h2]
 unfold eqG;dsimp only;rw[e1,e2];dsimp only;cases xs with
 |nil=>rfl
 |cons a r=>rw[if_neg (by simp)];rfl
def vj{a b:List D}(h1:G[i]? =some (.lst a))(h2:G[j]? =some (.lst b))(hl:a.length+b.length<=aw)(h:∀G',Chg [] G G'->G'.length=G.length+1->G'[G.length]? =some (.lst (a++b))->Q (.ref G.length) G'):M3.run (eM (.ref i) (.ref j)) G Q E:=
 Ds h1 h2 hl (h _ (Chg.add _ _) (by simp) (aM _ _))
def hV{a:A3}(h:M3.run (a σ) G (fun xs G1=>xs.length<=aw/\∀G2,Chg [] G1 G2->G2.length=G1.length+1->G2[G1.length]? =some (.lst xs)->Q (.ref G1.length) G2) E):M3.run (bW a σ) G Q E:=
 DV (ak h (fun xs G1 ⟨q1,q2⟩=>⟨q1,q2 _ (Chg.add _ _) (by simp) (aM _ _)⟩) fun _ _ z=>z)
def Ba{c m:Nat}{x ci mi:Int}(oO:ci=(c:Int))(qQ:mi=(m:Int))(hc:0 < c)(hm:0 < m)
 (h:∀(ds:List dM) l G',Chg [] G G'->G.length<=l->ds.length<=10->(∀d∈ds,DIn c m d)->G'[l]? =some (.lst (ds.map ba))->Q (.ref l) G'):M3.run (my [.int x,.int ci,.int mi]) G Q E:=by
 walk_at "f";unfold o5;lia;refine w_eq (by rfl) ?_;lia;refine w_ite (fun z=>?_) fun z=>?_
 · refine az ?_;refine aY ?_;refine hV ?_;lia;intro G1 c1 l1 h1;refine w_next ?_;walk_at "s";refine bB (aQ (w_var rfl ?_));refine hV ?_;lia;intro G2 c2 l2 h2;refine vj (c2.get h1 (by simp)) h2 (qP_ (by with_unfolding_all rfl)) fun G3 c3 l3 h3=>?_
   lia;refine h [.wr 0 7,.ca 0 true,.ca 0 true,.ca ci false,.ca ci false] G2.length G3 ((c1.trans c2).trans c3) (by omega) (by simp) ?_ h3
   intro d hd;simp only[qS_,List.not_mem_nil,or_false]at hd;rcases hd with rfl |rfl |rfl |rfl |rfl
   · exact⟨by decide,by omega⟩
   all_goals trivial
 lia;refine w_ite (fun z1=>?_) fun z1=>?_
 · lia;refine w_eq (by rfl) ?_
   lia;refine w_ite (fun z2=>?_) fun z2=>?_
   · have z2:=of_decide_eq_true z2;lia;refine w_ite (fun z3=>?_) fun z3=>?_
     · have z3:=of_decide_eq_true z3;refine az ?_;refine aY ?_;refine hV ?_;lia;intro G1 c1 l1 h1;refine w_next ?_;walk_at "s";refine az (dE (tR (w_var rfl (fM h1 ?_))));refine hV ?_;lia;intro G2 c2 l2 h2;refine gk (c2.get h1 (by simp)) h2 (by decide) fun G3 c3 l3 h3=>?_;refine w_next ?_;refine az (dE (tR (w_var rfl (fM h3 ?_))));refine hV ?_;lia;intro G4 c4 l4 h4;refine gk (c4.get h3 (by simp)) h4 (by decide) fun G5 c5 l5 h5=>?_;refine w_next ?_;refine bB (aQ (w_var rfl ?_));refine hV ?_;lia;intro G6 c6 l6 h6;refine vj (c6.get h5 (by simp)) h6 (by decide) fun G7 c7 l7 h7=>?_;lia;have Vw:Chg [] G G3:=(c1.trans c2).trans' c3 (by intro n hn;simp at hn;exact .inr (by omega));have UZ:Chg [] G G5:=(Vw.trans c4).trans' c5 (by intro n hn;simp at hn;exact .inr (by omega));refine h [.rd 0,.ca 0 true,.wr 1 9,.pa 1 0,.pa 1 1,.pa 1 0,.ca 0 true,.ca 6 false,.ca 3 false,.pa 0 2] G6.length G7 ((UZ.trans c6).trans c7) (by omega) (by simp) ?_ h7;intro d hd;simp only[qS_,List.not_mem_nil,or_false]at hd;rcases hd with rfl |rfl |rfl |rfl |rfl |rfl |rfl |rfl |rfl |rfl
       · exact⟨by decide,by omega⟩
       · trivial
       · exact⟨by decide,by omega⟩
       · exact⟨⟨by decide,by omega⟩,by decide,by omega⟩
       · exact⟨⟨by decide,by omega⟩,by decide,by omega⟩
       · exact⟨⟨by decide,by omega⟩,by decide,by omega⟩
       · trivial
       · trivial
       · trivial
       · exact⟨⟨by decide,by omega⟩,by decide,by omega⟩
     · lia;exact h [] _ _ (Chg.add _ _) (qO_ _) (by simp) (by simp) (aM _ _)
   · lia;exact h [] _ _ (Chg.add _ _) (qO_ _) (by simp) (by simp) (aM _ _)
 · lia;exact h [] _ _ (Chg.add _ _) (qO_ _) (by simp) (by simp) (aM _ _)
def Co{c m l:Nat}{ci mi:Int}{ns:List Int}(oO:ci=(c:Int))(qQ:mi=(m:Int))(hc:0 < c)(hm:0 < m)(hl:G[l]? =some (.lst (ns.map D.int)))(hz:ns.length<=100)
 (h:∀(ds:List dM) ld G',Chg [] G G'->G.length<=ld->ds.length<=ns.length+10->(∀d∈ds,DIn c m d)->G'[ld]? =some (.lst (ds.map ba))->Q (.ref ld) G'):M3.run (nW [.ref l,.int ci,.int mi]) G Q E:=by
 have Mn:=ar hl;walk_at "f";unfold vg;refine az (aY (cD fun G1 c1 l1 h1=>w_next ?_));walk_at "s";have HJ:=c1.get hl (by simp);have loop:∀(ds:List dM) (ld:Nat) (G2:Hh),Chg [] G G2->G.length<=ld->ds.length<=10->(∀d∈ds,DIn c m d)->G2[ld]? =some (.lst (ds.map ba))->
  M3.run ((aj (li (jw (aq dh (aa (ae 0) ah))) (gNm 4) (bq (rh (ae 3) (aq jq (aa (eOp eM (eOp oIx (ae 0) (ae 4)) (eOp eN (eC (.int 7)) (ae 4))) (aa (ae 4) (aa (ae 1) (aa (ae 2) ah)))))))) (aA (ae 3))) [some (.ref l),some (.int ci),some (.int mi),some (.ref ld),none]) G2 (fun r G3=>M3.run (fK r) G3 Q E) E:=by
  intro ds ld G2 c2 g2 hd EW h2;have yn:=c2.get hl (by simp);lia;refine cX yn ?_;rw[qM_]
  with_reducible refine ir (by omega) ?_
  refine pB (fun i σ G'=>∃(ds:List dM) (v:Option D),σ=[some (.ref l),some (.int ci),some (.int mi),some (.ref ld),v]/\Chg [] G G'/\ds.length<=10+i/\(∀d∈ds,DIn c m d)/\G'[ld]? =some (.lst (ds.map ba))) ?_ ?_ ⟨ds,none,rfl,c2,hd,EW,h2⟩
  · rintro i σ G3 hi ⟨ds,v,rfl,c3,hd,EW,h3⟩;have hn:ns[i]? =some ns[i]:=qA_ hi;have Q0:=bD (f:=D.int) hn;generalize ns[i]=nv at*;have TQ:(i:Int)<=100:=(by omega);generalize (i:Int)=ii at*;refine aB (kB ?_);walk_at "s";refine dE (DT (w_var rfl (fM h3 ?_)));refine bh (ai (aQ (aQ (w_var rfl (w_var rfl (bL (c3.get hl (by simp)) Q0 ?_))))));lia;refine AW oO qQ hc hm fun d G4 e4 UY=>?_;refine dm (e4.get h3) (by rw[qM_];unfold aw;omega) fun G5 c5 l5 h5=>?_;refine⟨ds++[d],_,rfl,(c3.trans (Ext.chg e4)).trans' c5 (by intro n hn;simp at hn;exact .inr (by omega)),by simp;omega,?_,by rw[qT_];exact h5⟩;intro x hx;rcases qG_.mp hx with w |w
    · exact EW x w
    · simp at w;rw[w];exact UY
  · rintro σ G3 ⟨ds,v,rfl,c3,hd,EW,h3⟩;lia;exact h ds ld G3 c3 g2 (by omega) EW h3
 refine az (cJ (mP (aQ (w_var rfl ?_))));refine cD fun G2 c2 l2 h2=>?_;have yn:=c2.get HJ (by simp);refine GC yn h2 ?_;cases ns with
 |nil=>
  lia;exact loop [] G.length G2 (c1.trans c2) (qO_ _) (by simp) (by simp) (c2.get h1 (by simp))
 |cons a r=>dsimp only[List.map,List.isEmpty];lia;refine bL (d:= .int a) yn (bD (f:=D.int) (xs:=a :: r) (i:=0) rfl) ?_;lia;refine Ba oO qQ hc hm fun ds ld G3 c3 WN hd EW h3=>?_;refine w_next ?_;walk_at "s";exact loop ds ld G3 ((c1.trans c2).trans c3) (by omega) hd EW h3
def rD{s:Int×Int}(h:Q (.bl true) G):M3.run (fY [.tup [.int s.1,.int s.2]]) G Q E:=by
 walk_at "f";unfold ng;lia;refine kE (b:=true) rfl ?_;lia;refine gP ?_;lia;refine gP ?_;lia;exact h
def Bc(h:Q (.bl true) G):M3.run (mz [pD p]) G Q E:=by
 unfold pD;walk_at "f";unfold pj;lia;refine kE (b:=true) rfl ?_;lia;refine rD (s:=p.1) ?_;lia;refine gP ?_;lia;exact h
def Ep(o:Option Nat):decide (nD o= .non)=o.isNone:=by cases o <;> rfl
def Bp(h:Q (.bl true) G):M3.run (mv [fS w]) G Q E:=by
 unfold fS;walk_at "f";unfold pE;lia;refine kE (b:=true) rfl ?_;generalize (w.hand:Int)=wh;generalize (w.beg:Int)=wb;lia;refine gP ?_;lia;refine gP ?_;lia;rw[Ck];cases hv:w.val with
 |none=>
  dsimp only[Option.isNone];lia;rw[Ep];cases he:w.en with
  |none=>dsimp only[Option.isNone];lia;exact h
  |some e=>dsimp only[Option.isNone];lia;refine gP (i:=(e:Int)) ?_;lia;exact h
 |some v=>
  dsimp only[Option.isNone];simp only[oD];lia;refine gP ?_;lia;rw[Ep];cases he:w.en with
  |none=>dsimp only[Option.isNone];lia;exact h
  |some e=>dsimp only[Option.isNone];lia;refine gP (i:=(e:Int)) ?_;lia;exact h
end
section
variable{G G':Hh}{Q:D->Hh->Prop}{E:Nat->Hh->Prop}{σ:St}{y:Sy}
def Km{QI:Src->Hh->Prop}(h:QI ⟨xs,fun _=>true⟩ G):M3.run (srcOf (.tup xs)) G QI E:=h
def xO{l1 l2 l3 c:Nat}{ci:Int}(oO:ci=(c:Int))(A:Jw y l1 l2 l3 G)(hk:y.af.ks.length=c)(h:Q (.bl true) G):M3.run (iT [.tup [.ref l1,.ref l2,.ref l3],.int ci]) G Q E:=by
 obtain⟨h1,h2,h3⟩:=A;walk_at "f";unfold kK;lia;refine kE (b:=true) rfl ?_;lia;refine Km ?_;refine jI (f:=fun d:D=>d) (xs:=[.ref l1,.ref l2,.ref l3]) (fun i σ G'=>G'=G/\∃v,σ=[some (.tup [.ref l1,.ref l2,.ref l3]),some (.int ci),v,none,none,none]) (fun _ _ _ _=>rfl) ?_ ?_ ⟨rfl,none,rfl⟩
 · rintro i d σ G' hd ⟨rfl,v,rfl⟩;have:d= .ref l1\/d= .ref l2\/d= .ref l3:=by
    have:=qD_ hd
    simpa using this
   rcases this with rfl |rfl |rfl
   · lia;refine fE h1 ?_
     lia;exact⟨rfl,_,rfl⟩
   · lia;refine fE h2 ?_
     lia;exact⟨rfl,_,rfl⟩
   · lia;refine fE h3 ?_
     lia;exact⟨rfl,_,rfl⟩
 rintro σ G' ⟨rfl,v,rfl⟩;lia;refine eP h1 ?_;refine jI (fun i σ G1=>G1=G'/\∃u,σ=[some (.tup [.ref l1,.ref l2,.ref l3]),some (.int ci),v,u,none,none]) ?_ ?_ ?_ ⟨rfl,none,rfl⟩
 · rintro i σ G1 ⟨rfl,_⟩;exact qZ_ h1
 · rintro i w σ G1 hw ⟨rfl,u,rfl⟩;refine aB (kB ?_);walk_at "s";refine cJ (gj (fD (bh (ai (w_var rfl (ax ?_))))));refine Bp ?_;lia;exact⟨rfl,_,rfl⟩
 rintro σ G1 ⟨rfl,u,rfl⟩;lia;refine eP h2 ?_;refine jI (fun i σ G2=>G2=G1/\∃u',σ=[some (.tup [.ref l1,.ref l2,.ref l3]),some (.int ci),v,u,u',none]) ?_ ?_ ?_ ⟨rfl,none,rfl⟩
 · rintro i σ G2 ⟨rfl,_⟩;exact qZ_ h2
 · rintro i w σ G2 hw ⟨rfl,u',rfl⟩;refine aB (kB ?_);walk_at "s";cases hs:w.bY with
   |none=>simp only[stD];refine cJ (rz (mP (yq (w_var rfl (vH (gK ?_))))));rw[if_neg (by decide)];lia;exact⟨rfl,_,rfl⟩
   |some s=>refine cJ (rz (mP (yq (w_var rfl (vH (gK ?_))))));rw[if_pos (by rfl)];refine gj (fD (bh (ai (w_var rfl (ax ?_)))));refine rD (s:=s) ?_;lia;exact⟨rfl,_,rfl⟩
 rintro σ G2 ⟨rfl,u',rfl⟩;lia;refine eP h3 ?_;refine jI (fun i σ G3=>G3=G2/\∃u'',σ=[some (.tup [.ref l1,.ref l2,.ref l3]),some (.int ci),v,u,u',u'']) ?_ ?_ ?_ ⟨rfl,none,rfl⟩
 · rintro i σ G3 ⟨rfl,_⟩;exact qZ_ h3
 · rintro i k σ G3 hw ⟨rfl,u'',rfl⟩;refine aB (kB ?_);walk_at "s";refine cJ (gj (fD (bh (ai (w_var rfl (ax ?_))))));refine Bc ?_;lia;exact⟨rfl,_,rfl⟩
 rintro σ G3 ⟨rfl,u'',rfl⟩;refine w_next ?_;refine bB (zf ?_);refine aQ (bh (ai (aQ (w_var rfl (w_c (aS rfl (ax ?_)))))));refine cX h1 ?_;refine bh (ai (aQ (w_var rfl (w_c (aS rfl (ax ?_))))));refine cX h2 ?_;refine w_eq (b:=true) ?_ ?_
 · rw[qM_,qM_,eq_int];simp
 lia;refine cX h3 ?_
 lia;refine w_eq (b:=true) ?_ ?_
 · rw[qM_,eq_int,hk,oO];simp
 lia;exact h
theorem rT{f:D->D->Option Bool}:∀{xs:List D},(∀x∈xs,f x x=some true)->eqZ f xs xs=some true
 | [],_=>rfl
 |a :: r,h=>by
  unfold eqZ;rw[h a qI_,rT fun x hx=>h x (qR_ _ hx)];rfl
def hX(h:∀x∈xs,eqG G k x x=some true):eqG G (k+1) (.tup xs) (.tup xs)=some true:=by
 show (eqZ (eqG G k) xs xs).map (·&&decide (xs.length=xs.length))=some true;rw[rT h];simp
def cC(i:Int):eqG G (k+1) (.int i) (.int i)=some true:=by show some (decide (i=i))=_;simp
def fI(i:Str):eqG G (k+1) (.str i) (.str i)=some true:=by show some (decide (i=i))=_;simp
def DX(i:Bool):eqG G (k+1) (.bl i) (.bl i)=some true:=by show some (i==i)=_;simp
def all1{P:D->Prop}(h1:P a):∀x∈ [a],P x:=by simp [h1]
def all2{P:D->Prop}(h1:P a)(h2:P b):∀x∈ [a,b],P x:=by simp [h1,h2]
def Ja{P:D->Prop}(h1:P a)(h2:P b)(h3:P c):∀x∈ [a,b,c],P x:=by simp [h1,h2,h3]
def Ak(d:dM)(k:Nat):eqG G (k+2) (ba d) (ba d)=some true:=by
 cases d with
 |wr i v=>exact hX (Ja (fI _) (cC _) (cC _))
 |rd i=>exact hX (all2 (fI _) (cC _))
 |ca n s=>exact hX (Ja (fI _) (cC _) (DX _))
 |pa i j=>exact hX (Ja (fI _) (cC _) (cC _))
 |sw=>exact hX (all1 (fI _))
 |ag i=>exact hX (all2 (fI _) (cC _))
 |qu i=>exact hX (all2 (fI _) (cC _))
 |st i=>exact hX (all2 (fI _) (cC _))
 |wa i=>exact hX (all2 (fI _) (cC _))
def eq_list{i j k:Nat}{xs:List D}(h1:G[i]? =some (.lst xs))(h2:G[j]? =some (.lst xs))(h:∀x∈xs,eqG G k x x=some true):eqG G (k+1) (.ref i) (.ref j)=some true:=by
 have e1:M3.listOf G i=some xs:=by unfold M3.listOf;rw[h1]
 have e2:M3.listOf G j=some xs:=by unfold M3.listOf;rw[h2]
 unfold eqG;dsimp only;rw[e1,e2];dsimp only;rw[if_pos rfl];exact rT h
def zt{c m l:Nat}{ci mi:Int}{ds:List dM}(oO:ci=(c:Int))(qQ:mi=(m:Int))(hc:c<=9)(hm:m<=9)(hl:G[l]? =some (.lst (ds.map ba)))(hz:ds.length<=1000)
 (hq:∀l1 l2 l3 G',Chg [] G G'->G.length<=l1->G.length<=l2->G.length<=l3->Jw (fx (bC c m) ds) l1 l2 l3 G'->Q (.tup [.ref l1,.ref l2,.ref l3]) G'):M3.run (jO [.int ci,.int mi,.ref l]) G Q E:=by
 have Mn:=ar hl;walk_at "f";unfold nH;refine az (aY (bh (ai (w_var rfl (ax ?_)))));refine zX hl ?_;have c1:Chg [] G (G++[O.lst (ds.map ba)]):=Chg.add _ _;have h1:=aM G (.lst (ds.map ba));have l1:(G++[O.lst (ds.map ba)]).length=G.length+1:=by simp
 generalize G++[O.lst (ds.map ba)]=G1 at*;refine w_next ?_;walk_at "s";refine az (aY (bh (ai (w_var rfl (ai (w_var rfl (ai (w_var rfl (ax ?_)))))))));refine xn oO qQ hc hm h1 hz fun a1 a2 a3 G2 c2 g1 g2 g3 A=>?_;refine w_next ?_;walk_at "s";refine az (cJ (uq (mP (aQ (w_var rfl (w_var rfl ?_))))));refine kE (b:=true) (eq_list (c2.get h1 (by simp)) ((c1.trans c2).get hl (by simp)) fun x hx=>?_) ?_
 · obtain⟨d,_,rfl⟩:=qH_.mp hx;exact Ak d 5
 lia;have hk:(fx (bC c m) ds).af.ks.length=c:=by rw[(mB (mh hc hm) ds).2.2.2];show (List.replicate c k0).length=c;simp
 refine xO oO A hk ?_;lia;exact hq a1 a2 a3 G2 (c1.trans c2) (by omega) (by omega) (by omega) A
end
def H4:D->Bool
 | .non=>true
 | .bl _=>true
 | .int _=>true
 | .str _=>true
 |_=>false
inductive Eqv (G:Hh):Nat->D->D->Prop
 |atom {n:Nat} {d:D} (h:H4 d=true):Eqv G (n+1) d d
 |tup {n:Nat} {a b:List D} (hl:a.length=b.length) (hz:a.length<=1000000) (h:∀(i:Nat) x y,a[i]? =some x->b[i]? =some y->Eqv G n x y):Eqv G (n+1) (.tup a) (.tup b)
 |lst {n i j:Nat} {a b:List D} (h1:G[i]? =some (.lst a)) (h2:G[j]? =some (.lst b)) (hl:a.length=b.length) (hz:a.length<=1000000) (h:∀(i:Nat) x y,a[i]? =some x->b[i]? =some y->Eqv G n x y):Eqv G (n+1) (.ref i) (.ref j)
section
variable{G G':Hh}{Q:D->Hh->Prop}{E:Nat->Hh->Prop}{σ:St}{y:Sy}
def w_isK(hk:kdOf G d=some k)(h:Q (.bl (iV k c)) G):M3.run (bIs c [d]) G Q E:=by
 refine aC (a:= .bl (iV k c)) (G':=G) ?_ h;unfold bIs;dsimp only;rw[hk]
def D3{cs:List Kd}(hk:kdOf G d=some k)(h:Q (.bl (cs.any (iV k ·))) G):M3.run (A8 cs [d]) G Q E:=by
 refine aC (a:= .bl (cs.any (iV k ·))) (G':=G) ?_ h;unfold A8;dsimp only;rw[hk]
def Cm{xs:List D}{i:Nat}(h:xs[i]? =some d)(hq:Q d G):M3.run (oIx (.tup xs) (.int (i:Int))) G Q E:=by
 have:=bD (f:=fun d:D=>d) h;rw[List.map_id']at this
 with_reducible exact aS this hq
def vT{n:Nat}{xs:List D}{i:Nat}(hn:G[n]? =some (.lst xs))(h:xs[i]? =some d)(hq:Q d G):M3.run (oIx (.ref n) (.int (i:Int))) G Q E:=by
 have:=bD (f:=fun d:D=>d) h;rw[List.map_id']at this
 with_reducible exact bL hn this hq
def JA:∀(n:Nat) {a b:D} {Q:D->Hh->Prop},Eqv G n a b->Q (.bl true) G->M3.run (wC n [a,b]) G Q E:=by
 intro n
 induction n with
 |zero=>intro a b Q h;cases h
 |succ n ih=>
  intro a b Q h hq;show M3.run (fnM 2 [none] (F4 (wC n)) [a,b]) G Q E;refine GW rfl ?_;simp only[List.map_cons,List.map_nil,List.cons_append,qc_];unfold F4;cases h with
  |atom h=>
   cases a with
   |non=>
    lia;exact hq
   |bl b=>
    lia;rw[show decide (D.bl b=D.non)=false from rfl]
    lia;refine w_eq (DX b) ?_
    lia;exact hq
   |int i=>
    lia;rw[show decide (D.int i=D.non)=false from rfl]
    lia;refine w_eq (cC i) ?_
    lia;exact hq
   |str i=>
    lia;rw[show decide (D.str i=D.non)=false from rfl]
    lia;refine w_eq (fI i) ?_
    lia;exact hq
   |tup xs=>cases h
   |ref i=>cases h
  |tup hl hz h=>
   rename_i xs ys;lia;rw[show decide (D.tup ys=D.non)=false from rfl];lia;refine kE (b:=true) rfl ?_;lia;refine kE (b:=true) rfl ?_;lia;refine D3 (k:= .tup) rfl ?_;lia;rw[show (![Kd.lst,Kd.tup].any fun x=>iV Kd.tup x)=false from rfl];lia;refine uM (by unfold aw;omega) ?_;lia;refine uM (by unfold aw;omega) ?_;refine kE (b:=true) (by rw[eq_int];simp [hl]) ?_;lia;refine uM (by unfold aw;omega) ?_
   with_reducible refine ir (by omega) ?_
   refine pB (fun i σ G'=>G'=G/\∃v,σ=[some (.tup xs),some (.tup ys),v]) ?_ ?_ ⟨rfl,none,rfl⟩
   · rintro i σ G' hi ⟨rfl,v,rfl⟩;have e1:xs[i]? =some xs[i]:=qA_ (by omega);have e2:ys[i]? =some ys[i]:=qA_ hi;have he:=h i _ _ e1 e2;refine aB ?_
     with_reducible refine kB ?_
     walk_at "s"
     with_reducible refine cJ ?_
     with_reducible refine gj ?_
     with_reducible refine fD ?_
     with_reducible refine bh ?_
     lia
     with_reducible refine Cm e1 ?_
     lia
     with_reducible refine Cm e2 ?_
     lia;refine ih he ?_
     lia;exact⟨rfl,_,rfl⟩
   · rintro σ G' ⟨rfl,v,rfl⟩;lia;exact hq
  |lst h1 h2 hl hz h=>
   rename_i i0 j0 xs ys;lia;rw[show decide (D.ref j0=D.non)=false from rfl];lia;refine xW h2 ?_;lia;refine vk h2 ?_;lia;refine ve h2 ?_;lia;refine vP h2 ?_;lia;refine oH h2 ?_;lia;refine oH h1 ?_;refine kE (b:=true) rfl ?_;lia;refine fE h2 ?_;lia;refine fE h1 ?_;refine kE (b:=true) rfl ?_;lia;refine D3 (k:= .lst) (by unfold kdOf;dsimp only;rw[h2]) ?_;lia;rw[show (![Kd.lst,Kd.tup].any fun x=>iV Kd.lst x)=false from rfl];lia;refine cX h1 ?_;lia;refine cX h2 ?_;refine kE (b:=true) (by rw[eq_int];simp [hl]) ?_;lia;refine cX h2 ?_
   with_reducible refine ir (by omega) ?_
   refine pB (fun i σ G'=>G'=G/\∃v,σ=[some (.ref i0),some (.ref j0),v]) ?_ ?_ ⟨rfl,none,rfl⟩
   · rintro i σ G' hi ⟨rfl,v,rfl⟩;have e1:xs[i]? =some xs[i]:=qA_ (by omega);have e2:ys[i]? =some ys[i]:=qA_ hi;have he:=h i _ _ e1 e2;refine aB ?_
     with_reducible refine kB ?_
     walk_at "s"
     with_reducible refine cJ ?_
     with_reducible refine gj ?_
     with_reducible refine fD ?_
     with_reducible refine bh ?_
     lia
     with_reducible refine vT h1 e1 ?_
     lia
     with_reducible refine vT h2 e2 ?_
     lia;refine ih he ?_
     lia;exact⟨rfl,_,rfl⟩
   · rintro σ G' ⟨rfl,v,rfl⟩;lia;exact hq
end
def asg(hs:List Hd):List (Nat×Nat)->Nat->Option (Int×Int)
 | [],_=>none
 |e :: r,q=>match asg hs r q with
  |some s=>some s
  |none=>if e.2=q then ((hs[e.1]?).bind (·.pair)).map (·.1)else none
def app(o:Option (Int×Int))(w:Wk):Wk:=match o with
 |none=>w
 |some s=>{w with bY:=some s}
def BJ(y:Sy)(e:Nat×Nat)(q:Nat):(bK y e).ao[q]? =(y.ao[q]?).map (app (if e.2=q then ((y.af.hs[e.1]?).bind (·.pair)).map (·.1)else none)):=by
 unfold bK;cases hp:(y.af.hs[e.1]?).bind (·.pair)with
 |none=>
  have e0:(if e.2=q then Option.map (·.1) (none:Option Pr)else none)=none:=by split <;> rfl
  rw[e0];show y.ao[q]? =(y.ao[q]?).map (app none);cases y.ao[q]? <;> rfl
 |some p=>
  unfold iQ;cases hw:y.ao[e.2]? with
  |none=>
   dsimp only;by_cases z:e.2=q
   · subst z;rw[hw];rfl
   · rw[if_neg z];cases y.ao[q]? <;> rfl
  |some w=>
   dsimp only;by_cases z:e.2=q
   · subst z;rw[if_pos rfl,qU_ (qB_.mp hw).1,hw];rfl
   · rw[if_neg z,qV_ z];cases y.ao[q]? <;> rfl
theorem uo:∀(l:List (Nat×Nat)) (y:Sy) (q:Nat),(l.foldl bK y).ao[q]? =(y.ao[q]?).map (app (asg y.af.hs l q))
 | [],y,q=>by
   show y.ao[q]? =(y.ao[q]?).map (app none);cases y.ao[q]? <;> rfl
 |e :: l,y,q=>by
  show (l.foldl bK (bK y e)).ao[q]? =_;rw[uo l (bK y e) q,BJ,(pJ y e).2.1];rw[show asg y.af.hs (e :: l) q=(match asg y.af.hs l q with
   |some s=>some s
   |none=>if e.2=q then ((y.af.hs[e.1]?).bind (·.pair)).map (·.1)else none)from rfl]
  cases h1:asg y.af.hs l q with
  |none=>dsimp only;cases y.ao[q]? <;> rfl
  |some s=>
   dsimp only;cases y.ao[q]? with
   |none=>rfl
   |some w=>show some (app (some s) (app _ w))=some (app (some s) w);generalize (if e.2=q then _ else _:Option (Int×Int))=o;cases o <;> rfl
def DF(y:Sy)(e:Nat×Pr)(p:Nat):(hJ y e).ao[p]? =if p=lastOf y.last e.1 then (y.ao[p]?).map (tx y e.2)else y.ao[p]?:=by
 unfold hJ iQ;cases hw:y.ao[lastOf y.last e.1]? with
 |none=>
  dsimp only;split
  · rename_i z;rw[z,hw];rfl
  · rfl
 |some w=>
  dsimp only;split
  · rename_i z;subst z;rw[qU_ (qB_.mp hw).1,hw];rfl
  · rename_i z;rw[qV_ (Ne.symm z)]
def Mv(p:Nat):D:= .int (p:Int)
section
variable{G G':Hh}{Q:D->Hh->Prop}{E:Nat->Hh->Prop}{σ:St}{y:Sy}{QA:List D->Hh->Prop}
def HS{ws:List Wk}(hw:G[lw]? =some (.lst (ws.map fS)))(hp:ws[p]? =some w)(h:Q (fS w) G):M3.run (oIx (.ref lw) (Mv p)) G Q E:=by
 unfold Mv
 with_reducible exact bL hw (bD hp) h
end
def plain:Nat->D->Bool
 |0,_=>false
 |n+1,.tup xs=>decide (xs.length<=1000000)&&xs.all (plain n)
 |n+1,d=>H4 d
theorem Cb:∀(k:Nat) (d:D),plain k d=true->∀n,Eqv G (n+k) d d
 |0,_,h,_=>by cases h
 |k+1,.tup xs,h,n=>by
  simp only[plain,Bool.and_eq_true,decide_eq_true_eq,List.all_eq_true]at h;refine Eqv.tup rfl h.1 fun i x y hx hy=>?_;rw[hx]at hy;cases hy;exact Cb k x (h.2 x (qD_ hx)) n
 |k+1,.non,h,n=>Eqv.atom rfl
 |k+1,.bl _,h,n=>Eqv.atom rfl
 |k+1,.int _,h,n=>Eqv.atom rfl
 |k+1,.str _,h,n=>Eqv.atom rfl
 |k+1,.ref _,h,n=>by cases h
def sk{G:Hh}{xs:List D}(h1:G[i]? =some (.lst xs))(h2:G[j]? =some (.lst xs))(hz:xs.length<=1000000)(h:∀x∈xs,plain 3 x=true)(k:Nat):Eqv G (k+4) (.ref i) (.ref j):=by
 refine Eqv.lst h1 h2 rfl hz fun q x y hx hy=>?_;rw[hx]at hy;cases hy;exact Cb 3 x (h x (qD_ hx)) k
section
variable{G G':Hh}{Q:D->Hh->Prop}{E:Nat->Hh->Prop}{σ:St}{y:Sy}
def Ez(ns:List Int)(a b:Nat):∃ms:List Int,cutD (ns.map D.int) (some (a:Int)) (some (b:Int))=ms.map D.int/\ms.length<=b - a:=by
 unfold cutD;refine⟨(ns.drop (sIx (ns.map D.int).length 0 (some (a:Int)))).take (sIx (ns.map D.int).length (ns.map D.int).length (some (b:Int)) - sIx (ns.map D.int).length 0 (some (a:Int))),?_,?_⟩
 · rw[List.map_take,List.map_drop]
 · rw[List.length_take,List.length_drop,qM_];unfold sIx;dsimp only;rw[if_neg (by omega),if_neg (by omega)];omega
def Lh(hn:G[n]? =some (.frz xs))(h:∀G',Chg [] G G'->G'.length=G.length+1->G'[G.length]? =some (.lst (cutD xs lo hi))->Q (.ref G.length) G'):M3.run (oSl (.ref n) lo hi) G Q E:=
 MM hn (h _ (Chg.add _ _) (by simp) (aM _ _))
def xw(hn:G[n]? =some (.lst xs))(h:∀G',Chg [] G G'->G'.length=G.length+1->G'[G.length]? =some (.lst xs)->Q (.ref G.length) G'):M3.run (nV [.ref n]) G Q E:=
 zX hn (h _ (Chg.add _ _) (by simp) (aM _ _))
def o9(h:G[n]? =some (.lst xs)):kdOf G (.ref n)=some .lst:=by
 unfold kdOf;dsimp only;rw[h]
def x9{xs:List Int}{v:Int}(h:v∈xs)(hx:∀x∈xs,1<=x/\x<=9):∃c:Nat,v=(c:Int)/\0 < c/\c<=9:=by
 obtain⟨h1,h2⟩:=hx v h;exact⟨v.toNat,by omega,by omega,by omega⟩
end
section
variable{G G':Hh}{Q:D->Hh->Prop}{E:Nat->Hh->Prop}{σ:St}{y:Sy}{QS:Fl×St->Hh->Prop}
def vD:eqG G (k+1) (.str a) (.str b)=some (decide (a=b)):=rfl
end
section
variable{G G':Hh}{Q:D->Hh->Prop}{E:Nat->Hh->Prop}{σ:St}{QS:Fl×St->Hh->Prop}
def Lc{ns:List Int}{B:S3}(hl:G[0]? =some (.frz (ns.map D.int)))
 (h:∀(c m:Nat) (ci mi:Int) G',ci=(c:Int)->mi=(m:Int)->0 < c->c<=9->0 < m->m<=9->Chg [] G G'->M3.run (B (some (.ref 0) :: some (.int ci) :: some (.int mi) :: rest)) G' QS E):
 M3.run ((aj (aV 1 (eOp oIx (bW (aa (eC (.int 3)) (aa (eC (.int 3)) (aa (eC (.int 3)) (aa (eC (.int 1)) (aa (eC (.int 2)) (aa (eC (.int 4)) (aa (eC (.int 5)) (aa (eC (.int 3)) (aa (eC (.int 7)) (aa (eC (.int 8)) (aa (eC (.int 9)) (aa (eC (.int 3)) ah))))))))))))) (eOp oMod (eOp oMod (eOp eN (aq xt (aa (ae 0) (aa (eC (.int 0)) ah))) (eC (.int 48271))) (eC (.int 1049))) (eC (.int 12)))))
 (aj (aV 2 (eOp oIx (bW (aa (eC (.int 2)) (aa (eC (.int 2)) (aa (eC (.int 3)) (aa (eC (.int 1)) (aa (eC (.int 2)) (aa (eC (.int 3)) (aa (eC (.int 2)) (aa (eC (.int 9)) ah))))))))) (eOp oMod (eOp oMod (eOp eN (aq xt (aa (ae 0) (aa (eC (.int 0)) ah))) (eC (.int 48271))) (eC (.int 1051))) (eC (.int 8))))) B))
 (some (.ref 0) :: none :: none :: rest)) G QS E:=by
 refine az (aY (aQ ?_));refine hV ?_;lia;intro G1 c1 l1 h1;have f1:=c1.get hl (by simp);refine aQ (aQ (aQ (bh (ai (w_var rfl (ai (w_c (ax (Mo (k:=0) f1 fun x=>?_)))))))));lia;have i1:0<=x*48271 % 1049 % 12:=Int.emod_nonneg _ (by decide);have i2:x*48271 % 1049 % 12 < 12:=Int.emod_lt_of_pos _ (by decide);obtain⟨ci,mc,e⟩:=qI (xs:=[3,3,3,1,2,4,5,3,7,8,9,3]) i1 i2;refine bL h1 e ?_;obtain⟨c,oO,OY,Mc⟩:=x9 mc (by decide);clear i1 i2 e mc;refine w_next ?_;walk_at "s";refine az (aY (aQ ?_));refine hV ?_;lia;intro G2 c2 l2 h2;have f2:=c2.get f1 (by simp);refine aQ (aQ (aQ (bh (ai (w_var rfl (ai (w_c (ax (Mo (k:=0) f2 fun x'=>?_)))))))));lia;have i1:0<=x'*48271 % 1051 % 8:=Int.emod_nonneg _ (by decide);have i2:x'*48271 % 1051 % 8 < 8:=Int.emod_lt_of_pos _ (by decide);obtain⟨mi,mm,e⟩:=qI (xs:=[2,2,3,1,2,3,2,9]) i1 i2;refine bL h2 e ?_;obtain⟨m,qQ,SF,Mb⟩:=x9 mm (by decide);refine w_next ?_;walk_at "s";exact h c m ci mi G2 oO qQ OY Mc SF Mb (c1.trans c2)
end
def di{k:Key}{d:D}{r:List (Key×D)}:look ((k,d) :: r) k=some d:=by simp [look]
def aF{k k':Key}{d:D}{r:List (Key×D)}(h:k'≠k):look ((k',d) :: r) k=look r k:=by simp [look,h]
def vG{k:Key}{v:D}:put [] k v=[(k,v)]:=rfl
def gB{k k':Key}{d v:D}{r:List (Key×D)}(h:k'≠k):put ((k',d) :: r) k v=(k',d) :: put r k v:=by
 unfold put;simp only[List.any_cons,qa_ h,Bool.false_or,List.map_cons,if_neg h];split <;> rfl
def vX{r:List (Key×D)}(h:k∉r.map (·.1)):put ((k,d) :: r) k v=(k,v) :: r:=by
 unfold put;rw[if_pos (by simp),List.map_cons,if_pos rfl];congr 1;refine(List.map_congr_left fun kv hm=>?_).trans (List.map_id _);rw[if_neg]
 · rfl
 · intro e;exact h (qH_.mpr ⟨kv,hm,e⟩)
def plK(pl:Option Nat):List (Key×D):=match pl with
 |none=>[]
 |some n=>[(.inr "place",.int (n:Int))]
def bU(c o w p q:D)(pl:Option Nat):List (Key×D):=(.inr "call",c) :: (.inr "own",o) :: (.inr "word",w) :: (.inr "pair",p) :: (.inr "heard",q) :: plK pl
section
variable{c o w p q v:D}{pl:Option Nat}
def qN:look (bU c o w p q pl) (.inr "call")=some c:=di
def D9:look (bU c o w p q pl) (.inr "own")=some o:=(aF (by decide +kernel)).trans di
def ow:look (bU c o w p q pl) (.inr "word")=some w:=(aF (by decide +kernel)).trans ((aF (by decide +kernel)).trans di)
def qE:look (bU c o w p q pl) (.inr "pair")=some p:=(aF (by decide +kernel)).trans ((aF (by decide +kernel)).trans ((aF (by decide +kernel)).trans di))
def ju:look (bU c o w p q pl) (.inr "heard")=some q:=(aF (by decide +kernel)).trans ((aF (by decide +kernel)).trans ((aF (by decide +kernel)).trans ((aF (by decide +kernel)).trans di)))
def ia:look (bU c o w p q (some n)) (.inr "place")=some (.int (n:Int)):=(aF (by decide +kernel)).trans ((aF (by decide +kernel)).trans ((aF (by decide +kernel)).trans ((aF (by decide +kernel)).trans ((aF (by decide +kernel)).trans di))))
def nT{k:Str}(hk:k≠"place"):(Sum.inr k:Key)∉(plK pl).map (·.1):=by
 cases pl with
 |none=>simp [plK]
 |some n=>simp only[plK,List.map_cons,List.map_nil,qS_,List.not_mem_nil,or_false];exact fun e=>hk (Sum.inr.inj e)
set_option hygiene false in
local macro_rules |`(tactic|walk_at "pk1")=>`(tactic|(
 refine vX ?_;simp only[List.map_cons,qS_,not_or]
 first
  |exact⟨by decide +kernel,by decide +kernel,by decide +kernel,by decide +kernel,nT (by decide +kernel)⟩
  |exact⟨by decide +kernel,by decide +kernel,by decide +kernel,nT (by decide +kernel)⟩
  |exact⟨by decide +kernel,by decide +kernel,nT (by decide +kernel)⟩
  |exact⟨by decide +kernel,nT (by decide +kernel)⟩))
def zZ:put (bU c o w p q pl) (.inr "call") v=bU v o w p q pl:=by unfold bU;walk_at "pk1"
def Ku:put (bU c o w p q pl) (.inr "own") v=bU c v w p q pl:=by
 unfold bU;rw[gB (by decide +kernel)];congr 1;walk_at "pk1"
def vw:put (bU c o w p q pl) (.inr "word") v=bU c o v p q pl:=by
 unfold bU;(repeat rw[gB (by decide +kernel)]);congr 2;walk_at "pk1"
def zV:put (bU c o w p q pl) (.inr "pair") v=bU c o w v q pl:=by
 unfold bU;(repeat rw[gB (by decide +kernel)]);congr 3;walk_at "pk1"
def wR:put (bU c o w p q pl) (.inr "heard") v=bU c o w p v pl:=by
 unfold bU;(repeat rw[gB (by decide +kernel)]);congr 4;exact vX (nT (by decide +kernel))
def EA{n:Nat}:put (bU c o w p q pl) (.inr "place") (.int (n:Int))=bU c o w p q (some n):=by
 unfold bU;(repeat rw[gB (by decide +kernel)]);congr 5
 cases pl with
 |none=>rfl
 |some m=>exact vX (by simp)
end
def rj(pr up hd lt wk st:Nat):List (Key×D):=[(.inr "pairs",.ref pr),(.inr "up",.ref up),(.inr "hands",.ref hd),(.inr "letters",.ref lt),(.inr "works",.ref wk),(.inr "stamps",.ref st)]
section
variable{pr up hd lt wk st:Nat}
def jo:look (rj pr up hd lt wk st) (.inr "pairs")=some (.ref pr):=di
def tF:look (rj pr up hd lt wk st) (.inr "up")=some (.ref up):=(aF (by decide +kernel)).trans di
def jy:look (rj pr up hd lt wk st) (.inr "hands")=some (.ref hd):=(aF (by decide +kernel)).trans ((aF (by decide +kernel)).trans di)
def cu:look (rj pr up hd lt wk st) (.inr "letters")=some (.ref lt):=(aF (by decide +kernel)).trans ((aF (by decide +kernel)).trans ((aF (by decide +kernel)).trans di))
def jr:look (rj pr up hd lt wk st) (.inr "works")=some (.ref wk):=(aF (by decide +kernel)).trans ((aF (by decide +kernel)).trans ((aF (by decide +kernel)).trans ((aF (by decide +kernel)).trans di)))
def oS:look (rj pr up hd lt wk st) (.inr "stamps")=some (.ref st):=(aF (by decide +kernel)).trans ((aF (by decide +kernel)).trans ((aF (by decide +kernel)).trans ((aF (by decide +kernel)).trans ((aF (by decide +kernel)).trans di))))
end
structure La where
 h:Nat
 pr:Nat
 up:Nat
 hd:Nat
 lt:Nat
 wk:Nat
 st:Nat
 ds:List Nat
 qs:List Nat
def La.foot(A:La):List Nat:=A.h :: A.pr :: A.up :: A.hd :: A.lt :: A.wk :: A.st :: (A.ds++A.qs)
abbrev Lx:=(Bool×Lt)×D
def lD(p:Lx):D:= .tup [.bl (!p.1.1),.int (p.1.2.hand:Int),.int (p.1.2.kpr:Int),.int p.1.2.num,p.2]
def XR(p:Lx):Prop:=(p.1.1=false->p.2=opD p.1.2.pair)/\(p.1.1=true->∃q,p.2=pD q/\∀r,p.1.2.pair=some r->q=r)
def Ji(row:List (Bool×Lt))(rx:List Lx):Prop:=rx.map (·.1)=row/\∀p∈rx,XR p
abbrev Hx:=(Nat×Option Pr)×Pr
def hD(p:Hx):Key×D:=(.inl (p.1.1:Int),pD p.2)
def HrX(l:List (Nat×Option Pr))(hx:List Hx):Prop:=hx.map (·.1)=l/\∀p∈hx,∀r,p.1.2=some r->p.2=r
def wdD(h:Hd):D:=if h.atw then .str (word (decide (h.val=none)))else .non
def plc(last:List (Nat×Nat))(i:Nat):Option Nat:=(last.find? fun e=>decide (e.1=i)).map (·.2)
def iN(last:List (Nat×Nat))(i:Nat)(h:Hd)(q:Nat):List (Key×D):=bU (.int h.rnd) (.int h.own) (wdD h) (opD h.pair) (.ref q) (plc last i)
def gC(hs:List Hd)(last:List (Nat×Nat))(q:Nat)(s0:Option (Int×Int)):Option (Int×Int):=match last.find? fun e=>decide (e.2=q)with
 |some e=>(match (hs[e.1]?).bind (·.pair)with
  |some p=>some p.1
  |none=>s0)
 |none=>s0
def stL(hs:List Hd)(last:List (Nat×Nat))(ws:List Wk):List D:=ws.mapIdx fun q w=>stD (gC hs last q w.bY)
structure LAt (G:Hh) (A:La) (z:Sy):Prop where
 o:G[A.h]? =some (.dK (rj A.pr A.up A.hd A.lt A.wk A.st))
 pr:G[A.pr]? =some (.lst (z.af.ks.map fun k=>pD k.pair))
 up:G[A.up]? =some (.lst (z.af.ks.map fun k=>.bl k.up))
 hd:G[A.hd]? =some (.lst (refs A.ds))
 lt:∃rx,Ji z.af.row rx/\G[A.lt]? =some (.lst (rx.map lD))
 wk:G[A.wk]? =some (.lst (z.ao.map fS))
 st:G[A.st]? =some (.lst (stL z.af.hs z.last z.ao))
 dl:A.ds.length=z.af.hs.length
 ql:A.qs.length=z.af.hs.length
 hs:∀(i:Nat) d q h,A.ds[i]? =some d->A.qs[i]? =some q->z.af.hs[i]? =some h->G[d]? =some (.dK (iN z.last i h q))/\∃hx,HrX h.av hx/\G[q]? =some (.dK (hx.map hD))
 nd:A.foot.Nodup
structure Sep (A:La):Prop where
 l1:A.lt≠A.h/\A.lt≠A.pr/\A.lt≠A.up/\A.lt≠A.hd/\A.lt≠A.wk/\A.lt≠A.st
 l2:A.pr≠A.h/\A.pr≠A.up/\A.pr≠A.hd/\A.pr≠A.wk/\A.pr≠A.st
 l3:A.up≠A.h/\A.up≠A.hd/\A.up≠A.wk/\A.up≠A.st
 l4:A.wk≠A.h/\A.wk≠A.hd/\A.wk≠A.st
 l5:A.st≠A.h/\A.st≠A.hd
 l6:A.hd≠A.h
 dq:∀x,x∈A.ds\/x∈A.qs->x≠A.h/\x≠A.pr/\x≠A.up/\x≠A.hd/\x≠A.lt/\x≠A.wk/\x≠A.st
 d:A.ds.Nodup
 q:A.qs.Nodup
 x:∀a∈A.ds,∀b∈A.qs,a≠b
def La.sep{A:La}(nd:A.foot.Nodup):Sep A:=by
 unfold La.foot at nd;simp only[List.nodup_cons,qS_,qG_,not_or,List.nodup_append]at nd;obtain⟨⟨a1,a2,a3,a4,a5,a6,a7,a8⟩,⟨b1,b2,b3,b4,b5,b6,b7⟩,⟨c1,c2,c3,c4,c5,c6⟩,⟨d1,d2,d3,d4,d5⟩,⟨e1,e2,e3,e4⟩,⟨f1,f2,f3⟩,⟨g1,g2⟩,n1,n2,n3⟩:=nd;refine⟨⟨Ne.symm a4,Ne.symm b3,Ne.symm c2,Ne.symm d1,e1,e2⟩,⟨Ne.symm a1,b1,b2,b4,b5⟩,⟨Ne.symm a2,c1,c3,c4⟩,⟨Ne.symm a5,Ne.symm d2,f1⟩,⟨Ne.symm a6,Ne.symm d3⟩,Ne.symm a3,fun x hx=>?_,n1,n2,n3⟩;rcases hx with hx |hx
 · exact⟨fun z=>a7 (z ▸ hx),fun z=>b6 (z ▸ hx),fun z=>c5 (z ▸ hx),fun z=>d4 (z ▸ hx),fun z=>e3 (z ▸ hx),fun z=>f2 (z ▸ hx),fun z=>g1 (z ▸ hx)⟩
 · exact⟨fun z=>a8 (z ▸ hx),fun z=>b7 (z ▸ hx),fun z=>c6 (z ▸ hx),fun z=>d5 (z ▸ hx),fun z=>e4 (z ▸ hx),fun z=>f3 (z ▸ hx),fun z=>g2 (z ▸ hx)⟩
def n1{a b:Nat}(h:a≠b):a∉ [b]:=by simpa using h
section
variable{G:Hh}{Q:D->Hh->Prop}{E:Nat->Hh->Prop}{A:La}{z:Sy}
def LAt.hand(L:LAt G A z){i:Nat}{h:Hd}(hi:z.af.hs[i]? =some h):∃d q,A.ds[i]? =some d/\A.qs[i]? =some q/\d∈A.ds/\q∈A.qs/\G[d]? =some (.dK (iN z.last i h q))/\∃hx,HrX h.av hx/\G[q]? =some (.dK (hx.map hD)):=by
 have hl:=(qB_.mp hi).1;have e1:A.ds[i]? =some (A.ds[i]'(by rw[L.dl];exact hl)):=qA_ _;have e2:A.qs[i]? =some (A.qs[i]'(by rw[L.ql];exact hl)):=qA_ _;obtain⟨h1,h2⟩:=L.hs i _ _ h e1 e2 hi;exact⟨_,_,e1,e2,qD_ e1,qD_ e2,h1,h2⟩
def FA(hx:List Hx){l:List (Nat×Option Pr)}(h:HrX l hx)(k:Nat):(look (hx.map hD) (.inl (k:Int))).isSome=decide (k∈l.map (·.1)):=by
 rw[pR];refine decide_eq_decide.mpr ?_;rw[<-h.1,qb_,qb_];constructor
 · intro z;obtain⟨e,he,ee⟩:=qH_.mp z;have:(e.1.1:Int)=(k:Int):=Sum.inl.inj ee;exact qH_.mpr ⟨e,he,by show e.1.1=k;omega⟩
 · intro z;obtain⟨e,he,ee⟩:=qH_.mp z;exact qH_.mpr ⟨e,he,by show Sum.inl (e.1.1:Int)=Sum.inl (k:Int);rw[show e.1.1=k from ee]⟩
def yY{i:Nat}{ii:Int}{h:Hd}(e:ii=(i:Int))(L:LAt G A z)(wn:h.num=i)(wc:h.cnt=z.af.ks.length)(Oe:z.af.ks.length<=9)(hi:z.af.hs[i]? =some h)(hz:z.af.row.length<=100000)
 (hq:∀G',Chg [A.lt] G G'->LAt G' A (au z {z.af with row:=newRow z.af h})->Q (.int ((aR h).length:Int)) G'):M3.run (nI [.ref A.h,.int ii]) G Q E:=by
 subst e;have S:=La.sep L.nd;obtain⟨d,q,hd,sH,md,mq,gd,hx,hh,gq⟩:=L.hand hi;obtain⟨rx,hr,gl⟩:=L.lt;have Fb:rx.length=z.af.row.length:=by rw[<-hr.1,qM_]
 have sd:=S.dq d (.inl md);have sq:=S.dq q (.inr mq);walk_at "f";unfold yG;lia;refine aG L.o rfl jy ?_;lia;refine bL L.hd (bD hd) ?_;lia;refine aG L.o rfl tF ?_;lia;refine cX L.up ?_;rw[qM_]
 with_reducible refine ir (by omega) ?_
 refine pB (fun j σ G'=>Chg [A.lt] G G'/\G'.length=G.length/\G'[A.lt]? =some (.lst ((rx++(((List.range j).filter fun k=>!decide (k∈h.av.map (·.1))).map fun k=>((false,(⟨h.num,k,h.rnd,h.pair⟩:Lt)),opD h.pair))).map lD))/\∃x,σ=[some (.ref A.h),some (.int (i:Int)),some (.ref d),some (.int (((List.range j).filter fun k=>!decide (k∈h.av.map (·.1))).length:Int)),x]) ?_ ?_ ⟨Chg.refl _ _,rfl,by simpa using gl,_,rfl⟩
 · rintro j σ G' hj ⟨c,len,gl',x,rfl⟩;have g1:=c.get L.o (n1 (Ne.symm S.l1.1));have g2:=c.get gd (n1 sd.2.2.2.2.1);have g3:=c.get gq (n1 sq.2.2.2.2.1);have es:((List.range (j+1)).filter fun k=>!decide (k∈h.av.map (·.1)))=((List.range j).filter fun k=>!decide (k∈h.av.map (·.1)))++(if decide (j∈h.av.map (·.1))then []else [j]):=by
    rw[List.range_succ,List.filter_append];congr 1;rw[List.filter_cons,List.filter_nil];cases decide (j∈h.av.map (·.1)) <;> rfl
   lia;refine aG g2 rfl ju ?_
   refine AA (b:=decide (j∈h.av.map (·.1))) ?_ ?_
   · unfold inG;dsimp only;rw[g3];show some (look (hx.map hD) (.inl (j:Int))).isSome=_;rw[FA hx hh]
   rw[es];have Uh:=List.length_filter_le (fun k=>!decide (k∈h.av.map (·.1))) (List.range j);rw[List.length_range]at Uh;generalize ((List.range j).filter fun k=>!decide (k∈h.av.map (·.1)))=F at gl' Uh;cases decide (j∈h.av.map (·.1))with
   |true=>
    lia;rw[if_pos rfl,qY_]
    exact⟨c,len,gl',_,rfl⟩
   |false=>
    lia;refine aG g1 rfl cu ?_
    refine fM gl' ?_;lia;refine aG g2 rfl qN ?_;lia;refine aG g2 rfl qE ?_;lia;refine dm gl' ?_ fun G2 c2 Wi O5=>?_
    · rw[qM_,qN_,qM_];unfold aw;omega
    lia;rw[if_neg (by decide)]
    refine⟨c.trans c2,by omega,?_,some (.int (j:Int)),?_⟩
    · rw[O5,qT_,qT_,qT_,qT_,List.append_assoc];show _=some (O.lst (_++(_++[lD ((false,(⟨h.num,j,h.rnd,h.pair⟩:Lt)),opD h.pair)])));rw[wn];rfl
    · rw[qN_];rfl
 · rintro σ G' ⟨c,len,gl',x,rfl⟩;lia;have ew:((List.range z.af.ks.length).filter fun k=>!decide (k∈h.av.map (·.1)))=oo h:=by unfold oo;rw[wc]
   rw[ew]at gl' ⊢;have el:(oo h).length=(aR h).length:=by unfold aR;rw[qM_]
   rw[el];refine hq G' c ⟨c.get L.o (n1 (Ne.symm S.l1.1)),c.get L.pr (n1 (Ne.symm S.l1.2.1)),c.get L.up (n1 (Ne.symm S.l1.2.2.1)),c.get L.hd (n1 (Ne.symm S.l1.2.2.2.1)),⟨_,⟨?_,?_⟩,gl'⟩,c.get L.wk (n1 (Ne.symm S.l1.2.2.2.2.1)),c.get L.st (n1 (Ne.symm S.l1.2.2.2.2.2)),L.dl,L.ql,fun i' d' q' h' a1 a2 a3=>?_,L.nd⟩
   · rw[qT_,hr.1,qb_];show _=newRow z.af h;unfold newRow aR;rw[qb_];rfl
   · intro p hp;rcases qG_.mp hp with hp |hp
     · exact hr.2 p hp
     · obtain⟨k,_,rfl⟩:=qH_.mp hp;exact⟨fun _=>rfl,fun w=>by cases w⟩
   · obtain⟨b1,LI,b2,b3⟩:=L.hs i' d' q' h' a1 a2 a3;exact⟨c.get b1 (n1 (S.dq d' (.inl (qD_ a1))).2.2.2.2.1),LI,b2,c.get b3 (n1 (S.dq q' (.inr (qD_ a2))).2.2.2.2.1)⟩
end
def v9{α:Type}{f:α->Nat}{l:List α}{i:Nat}{e:α}(q:l.find? (fun e=>decide (f e=i))=some e):f e=i:=of_decide_eq_true (List.find?_some (p:=fun e=>decide (f e=i)) q)
structure LNd (last:List (Nat×Nat)):Prop where
 k:∀a∈last,∀b∈last,a.1=b.1->a=b
 p:∀a∈last,∀b∈last,a.2=b.2->a=b
def qL(h:plc last i=some p):(i,p)∈last:=by
 unfold plc at h;cases q:last.find? fun e=>decide (e.1=i)with
 |none=>rw[q]at h;cases h
 |some e=>rw[q]at h;have h1:=List.mem_of_find?_eq_some q;have h2:=v9 q;obtain⟨a,b⟩:=e;cases h;subst h2;exact h1
theorem oh{α β:Type}{f:α->β}:∀{l:List α},(l.map f).Nodup->∀{a b:α},a∈l->b∈l->f a=f b->a=b
 | [],_,_,_,h,_,_=>by cases h
 |x :: r,nd,a,b,ha,hb,e=>by
  rw[List.map_cons,List.nodup_cons]at nd;rcases qS_.mp ha with ea |ha
  · rcases qS_.mp hb with eb |hb
    · rw[ea,eb]
    · exact absurd (qH_.mpr ⟨b,hb,by rw[<-e,ea]⟩) nd.1
  · rcases qS_.mp hb with eb |hb
    · exact absurd (qH_.mpr ⟨a,ha,by rw[e,eb]⟩) nd.1
    · exact oh nd.2 ha hb e
def Cq{last:List (Nat×Nat)}(N:LNd last)(h:(i,p)∈last):last.find? (fun e=>decide (e.2=p))=some (i,p):=by
 cases q:last.find? fun e=>decide (e.2=p)with
 |none=>have:=List.find?_eq_none.mp q (i,p) h;simp at this
 |some e=>have h1:=List.mem_of_find?_eq_some q;have h2:=v9 q;rw[N.p _ h1 _ h h2]
def Ln{hs:List Hd}{h':Hd}{pr:Pr}(N:LNd last)(hp:plc last i=some p)(hi:i < hs.length)(hh:h'.pair=some pr):stL (hs.set i h') last ws=(stL hs last ws).set p (stD (some pr.1)):=by
 have hm:=qL hp;unfold stL;apply List.ext_getElem?;intro q;rw[qJ_,List.getElem?_mapIdx,List.getElem?_mapIdx,List.length_mapIdx];by_cases hq:p=q
 · subst hq;rw[if_pos rfl];cases hw:ws[p]? with
   |none=>rw[if_neg (fun z=>by rw[qA_ z]at hw;cases hw)];rfl
   |some w=>
    rw[if_pos (qB_.mp hw).1];show some (stD (gC (hs.set i h') last p w.bY))=_;unfold gC;rw[Cq N hm];dsimp only;rw[qU_ hi];show some (stD (match h'.pair with |some p=>some p.1 |none=>w.bY))=_
    rw[hh]
 · rw[if_neg hq];cases hw:ws[q]? with
   |none=>rfl
   |some w=>
    show some (stD (gC (hs.set i h') last q w.bY))=some (stD (gC hs last q w.bY));unfold gC;cases qf:last.find? fun e=>decide (e.2=q)with
    |none=>rfl
    |some e=>
     have h1:=List.mem_of_find?_eq_some qf;have h2:=v9 qf;have mU:i≠e.1:=fun z=>by
      have:=N.k _ hm _ h1 z;rw[<-this]at h2;exact hq h2
     dsimp only;rw[qV_ mU]
def we{hs:List Hd}{h h':Hd}(hi:hs[i]? =some h)(hh:h'.pair=h.pair):stL (hs.set i h') last ws=stL hs last ws:=by
 unfold stL;congr 1;funext q w;unfold gC;cases last.find? fun e=>decide (e.2=q)with
 |none=>rfl
 |some e=>
  dsimp only;by_cases mU:i=e.1
  · subst mU;rw[qU_ (qB_.mp hi).1,hi];show stD (match h'.pair with |some p=>some p.1 |none=>w.bY)=stD (match h.pair with |some p=>some p.1 |none=>w.bY)
    rw[hh]
  · rw[qV_ mU]
theorem pT:∀(ps:List Pr) (b:Pr),(ps.foldl better b).1.1=(turns ps).foldl (fun m t=>if t > m then t else m) b.1.1
 | [],b=>rfl
 |p :: r,b=>by
  show (r.foldl better (better b p)).1.1=(turns r).foldl _ (if p.1.1 > b.1.1 then p.1.1 else b.1.1);rw[pT r];congr 1;unfold better gtS;obtain⟨⟨t,n⟩,v⟩:=p;obtain⟨⟨t',n'⟩,v'⟩:=b;by_cases h1:t'=t
  · subst h1;have:∀c:Bool,(if c=true then ((t',n),v)else ((t',n'),v'):Pr).1.1=t':=fun c=>by cases c <;> rfl
    rw[this];simp
  · have e:sU [t',n'] [t,n]=decide (t' < t):=(by simp [sU,h1]);rw[e];by_cases h2:t' < t
    · simp [h2]
    · simp [h2]
theorem tO:∀(l:List Int) (m:Int),iB m l=l.foldl (fun m t=>if t > m then t else m) m
 | [],_=>rfl
 |x :: r,m=>by
  show iB (if x > m then x else m) r=_;rw[tO r];rfl
theorem jx:∀(l:List Int) (m:Int),iB m l∈m :: l
 | [],m=>qI_
 |x :: r,m=>by
  show iB (if x > m then x else m) r∈_;have h:=jx r (if x > m then x else m);rcases qS_.mp h with e |h
  · rw[e];split
    · exact qR_ _ qI_
    · exact qI_
  · exact qR_ _ (qR_ _ h)
theorem gL:∀(l:List Int) (m:Int),∀x∈m :: l,x<=iB m l
 | [],m,x,h=>by
   rcases qS_.mp h with e |h
   · rw[e];exact Int.le_refl _
   · cases h
 |y :: r,m,x,h=>by
  show x<=iB (if y > m then y else m) r;have h0:=gL r (if y > m then y else m) _ qI_;rcases qS_.mp h with e |h
  · split at h0 <;> split <;> omega
  · rcases qS_.mp h with e |h
    · split at h0 <;> split <;> omega
    · exact gL r _ x (qR_ _ h)
def Gm(ps:List Pr)(own:Int)(h0:0<=own):mO ps own+1=1+(if (iO ps).1.1 > own then (iO ps).1.1 else own):=by
 have e1:(iO ps).1.1=iB 0 (turns ps):=by unfold iO;rw[pT,tO];rfl
 have a1:∀x∈turns ps++[own],x<=mO ps own:=by
  unfold mO;cases q:turns ps++[own]with
  |nil=>intro x hx;cases hx
  |cons m r=>exact gL r m
 have a2:mO ps own∈turns ps++[own]:=by
  unfold mO;cases q:turns ps++[own]with
  |nil=>simp at q
  |cons m r=>exact jx r m
 have a3:=jx (turns ps) 0;have a4:=gL (turns ps) 0;rw[e1];generalize iB 0 (turns ps)=M at*;generalize mO ps own=N at*;have b1:=a1 own (by simp);have b2:M<=N:=by
  rcases qS_.mp a3 with e |h
  · omega
  · exact a1 M (qF_ _ h)
 have b3:N<=M\/N=own:=by
  rcases qG_.mp a2 with h |h
  · exact .inl (a4 N (qR_ _ h))
  · exact .inr (by simpa using h)
 split <;> omega
def kM{l:List Nat}(nd:l.Nodup){i j x:Nat}(hi:l[i]? =some x)(hj:l[j]? =some x):i=j:=by
 obtain⟨h1,e1⟩:=qB_.mp hi;obtain⟨h2,e2⟩:=qB_.mp hj;have p:=List.pairwise_iff_getElem.mp nd;rcases Nat.lt_trichotomy i j with w |w |w
 · exact absurd (e1.trans e2.symm) (p i j h1 h2 w)
 · exact w
 · exact absurd (e2.trans e1.symm) (p j i h2 h1 w)
def cP{α:Type}{l:List α}{i:Nat}{x:α}(h:l[i]? =some x):l.set i x=l:=by
 apply List.ext_getElem?;intro j;rw[qJ_];split
 · rename_i e;subst e;rw[if_pos (qB_.mp h).1,h]
 · rfl
theorem ug:∀{l:List Nat} {i x:Nat},l.Nodup->x∉l->(l.set i x).Nodup
 | [],_,_,h,_=>h
 |a :: r,0,x,h,hx=>List.nodup_cons.mpr ⟨fun w=>hx (qR_ _ w),(List.nodup_cons.mp h).2⟩
 |a :: r,i+1,x,h,hx=>by
  rw[List.set_cons_succ];refine List.nodup_cons.mpr ⟨fun w=>?_,ug (List.nodup_cons.mp h).2 fun w=>hx (qR_ _ w)⟩;rcases List.mem_or_eq_of_mem_set w with w |w
  · exact(List.nodup_cons.mp h).1 w
  · exact hx (w ▸ qI_)
def La.to(A A':La)(n:Nat):Prop:=∃qs,A'={A with qs:=qs}/\∀x∈qs,x∈A.foot\/n<=x
def La.iJ(A:La)(n:Nat):A.to A n:=⟨A.qs,rfl,fun x hx=>.inl (by unfold La.foot;simp [hx])⟩
def La.lY{A A':La}(t:A.to A' n)(hx:x∈A'.foot):x∈A.foot\/n<=x:=by
 obtain⟨qs,rfl,h⟩:=t;unfold La.foot at hx;simp only[qS_,qG_]at hx;have e:∀x,x∈A.foot↔(x=A.h\/x=A.pr\/x=A.up\/x=A.hd\/x=A.lt\/x=A.wk\/x=A.st\/x∈A.ds\/x∈A.qs):=fun x=>by unfold La.foot;simp only[qS_,qG_]
 rcases hx with w |w |w |w |w |w |w |w |w
 iterate 8 first |exact .inl ((e x).mpr (by simp [w]))
 exact h x w
def La.xN{A B C:La}(t:A.to B n)(u:B.to C m)(h:n<=m):A.to C n:=by
 have t':=t;obtain⟨q1,rfl,h1⟩:=t;obtain⟨q2,rfl,h2⟩:=u;refine⟨q2,rfl,fun x hx=>?_⟩;rcases h2 x hx with w |w
 · exact La.lY t' w
 · exact .inr (Nat.le_trans h w)
section
variable{G G':Hh}{A:La}{z:Sy}
def La.mem(A:La):x∈A.foot↔(x=A.h\/x=A.pr\/x=A.up\/x=A.hd\/x=A.lt\/x=A.wk\/x=A.st\/x∈A.ds\/x∈A.qs):=by unfold La.foot;simp only[qS_,qG_]
def LAt.lt'(L:LAt G A z)(h:x∈A.foot):x < G.length:=by
 rcases (La.mem A).mp h with w |w |w |w |w |w |w |w |w
 · subst w;exact ar L.o
 · subst w;exact ar L.pr
 · subst w;exact ar L.up
 · subst w;exact ar L.hd
 · subst w;obtain⟨rx,_,g⟩:=L.lt;exact ar g
 · subst w;exact ar L.wk
 · subst w;exact ar L.st
 · obtain⟨i,hi⟩:=List.getElem?_of_mem w;have hl:i < z.af.hs.length:=by rw[<-L.dl];exact(qB_.mp hi).1
   obtain⟨d,q,h1,h2,_,_,g1,_⟩:=L.hand (qA_ hl);rw[h1]at hi;cases hi;exact ar g1
 · obtain⟨i,hi⟩:=List.getElem?_of_mem w;have hl:i < z.af.hs.length:=by rw[<-L.ql];exact(qB_.mp hi).1
   obtain⟨d,q,h1,h2,_,_,g1,_,_,g2⟩:=L.hand (qA_ hl);rw[h2]at hi;cases hi;exact ar g2
def LAt.upd(L:LAt G A z){S:List Nat}{i d q q':Nat}{h h':Hd}{hx:List Hx}{last':List (Nat×Nat)}{ws':List Wk}{row':List (Bool×Lt)}{rx:List Lx}(hi:z.af.hs[i]? =some h)(hd:A.ds[i]? =some d)(hq:A.qs[i]? =some q)
 (c:Chg S G G') (hS:∀x∈S,x=d\/x=q\/x=A.st\/x=A.wk\/x=A.lt) (gd:G'[d]? =some (.dK (iN last' i h' q'))) (gq:G'[q']? =some (.dK (hx.map hD))) (hh:HrX h'.av hx) (sH:q'=q\/q'∉A.foot)
 (gs:G'[A.st]? =some (.lst (stL (z.af.hs.set i h') last' ws'))) (gw:G'[A.wk]? =some (.lst (ws'.map fS))) (hr:Ji row' rx) (gl:G'[A.lt]? =some (.lst (rx.map lD))) (hl:∀j,j≠i->plc last' j=plc z.last j):
 LAt G' {A with qs:=A.qs.set i q'} ⟨{z.af with hs:=z.af.hs.set i h',row:=row'},ws',last',z.aP⟩:=by
 have S':=La.sep L.nd;have md:=qD_ hd;have mq:=qD_ hq;have sd:=S'.dq d (.inl md);have sq:=S'.dq q (.inr mq);have ns:∀x,x≠d->x≠q->x≠A.st->x≠A.wk->x≠A.lt->x∉S:=fun x a1 a2 a3 a4 a5 m=>by
  rcases hS x m with w |w |w |w |w
  · exact a1 w
  · exact a2 w
  · exact a3 w
  · exact a4 w
  · exact a5 w
 have il:i < A.qs.length:=(qB_.mp hq).1;refine⟨c.get L.o (ns _ (Ne.symm sd.1) (Ne.symm sq.1) (Ne.symm S'.l5.1) (Ne.symm S'.l4.1) (Ne.symm S'.l1.1)),c.get L.pr (ns _ (Ne.symm sd.2.1) (Ne.symm sq.2.1) S'.l2.2.2.2.2 S'.l2.2.2.2.1 (Ne.symm S'.l1.2.1)),c.get L.up (ns _ (Ne.symm sd.2.2.1) (Ne.symm sq.2.2.1) S'.l3.2.2.2 S'.l3.2.2.1 (Ne.symm S'.l1.2.2.1)),c.get L.hd (ns _ (Ne.symm sd.2.2.2.1) (Ne.symm sq.2.2.2.1) (Ne.symm S'.l5.2) (Ne.symm S'.l4.2.1) (Ne.symm S'.l1.2.2.2.1)),⟨rx,hr,gl⟩,gw,gs,?_,?_,fun j d1 q1 h1 a1 a2 a3=>?_,?_⟩
 · show A.ds.length=(z.af.hs.set i h').length;rw[qX_,L.dl]
 · show (A.qs.set i q').length=(z.af.hs.set i h').length;rw[qX_,qX_,L.ql]
 · replace a2:(A.qs.set i q')[j]? =some q1:=a2;replace a3:(z.af.hs.set i h')[j]? =some h1:=a3;show G'[d1]? =some (.dK (iN last' j h1 q1))/\_;by_cases e:j=i
   · subst e;rw[hd]at a1;cases a1;rw[qU_ il]at a2;cases a2;rw[qU_ (qB_.mp hi).1]at a3;cases a3;exact⟨gd,hx,hh,gq⟩
   · rw[qV_ (Ne.symm e)]at a2 a3;obtain⟨b1,LI,b2,b3⟩:=L.hs j d1 q1 h1 a1 a2 a3;have s1:=S'.dq d1 (.inl (qD_ a1));have s2:=S'.dq q1 (.inr (qD_ a2));have Vo:d1≠d:=fun w=>by subst w;exact e (kM S'.d a1 hd)
     have WE:q1≠q:=fun w=>by subst w;exact e (kM S'.q a2 hq)
     refine⟨?_,LI,b2,c.get b3 (ns _ (fun w=>S'.x d md q1 (qD_ a2) w.symm) WE s2.2.2.2.2.2.2 s2.2.2.2.2.2.1 s2.2.2.2.2.1)⟩;have:=c.get b1 (ns _ Vo (S'.x d1 (qD_ a1) q mq) s1.2.2.2.2.2.2 s1.2.2.2.2.2.1 s1.2.2.2.2.1);rw[this];unfold iN;rw[hl j e]
 · rcases sH with rfl |sH
   · have:A.qs.set i q'=A.qs:=cP hq;show (La.foot {A with qs:=A.qs.set i q'}).Nodup;rw[this];exact L.nd
   · have nd:=L.nd;unfold La.foot at nd ⊢;have e:(A.h :: A.pr :: A.up :: A.hd :: A.lt :: A.wk :: A.st :: (A.ds++A.qs.set i q'))=(A.h :: A.pr :: A.up :: A.hd :: A.lt :: A.wk :: A.st :: A.ds)++A.qs.set i q':=rfl;have e2:(A.h :: A.pr :: A.up :: A.hd :: A.lt :: A.wk :: A.st :: (A.ds++A.qs))=(A.h :: A.pr :: A.up :: A.hd :: A.lt :: A.wk :: A.st :: A.ds)++A.qs:=rfl;have Qh:q'∉(A.h :: A.pr :: A.up :: A.hd :: A.lt :: A.wk :: A.st :: A.ds)++A.qs:=sH;show ((A.h :: A.pr :: A.up :: A.hd :: A.lt :: A.wk :: A.st :: A.ds)++A.qs.set i q').Nodup;rw[e2]at nd;generalize (A.h :: A.pr :: A.up :: A.hd :: A.lt :: A.wk :: A.st :: A.ds)=X at nd Qh;rw[List.nodup_append]at nd ⊢;refine⟨nd.1,ug nd.2.1 fun w=>Qh (qE_ _ w),fun a ha b hb w=>?_⟩;subst w;rcases List.mem_or_eq_of_mem_set hb with w |w
     · exact nd.2.2 a ha a w rfl
     · subst w;exact Qh (qF_ _ ha)
end
def ak{α:Type}{m:M α}{G:Hh}{Q Q':α->Hh->Prop}{E:Nat->Hh->Prop}(h:M3.run m G Q E)(i:∀a G',Q a G'->Q' a G'):M3.run m G Q' E:=by
 unfold M3.run at h ⊢;revert h;cases m G with
 |none=>exact id
 |some r=>
  obtain⟨o,G'⟩:=r;cases o with
  |ok a=>exact i a G'
  |exc c=>exact id
def GJ{l:List (Nat×Option Pr)}{hx:List Hx}(h:HrX l hx)(nd:(l.map (·.1)).Nodup){e:Hx}(he:e∈hx):look (hx.map hD) (.inl (e.1.1:Int))=some (pD e.2):=by
 obtain⟨h1,_⟩:=h;subst h1;rw[qb_]at nd;unfold look;cases q:(hx.map hD).find? fun kv=>decide (kv.1=(Sum.inl (e.1.1:Int):Key))with
 |none=>have:=List.find?_eq_none.mp q (hD e) (qH_.mpr ⟨e,he,rfl⟩);simp [hD]at this
 |some f=>
  have h1:=List.mem_of_find?_eq_some q;have h2:=List.find?_some q;obtain⟨g,hg,rfl⟩:=qH_.mp h1;have h3:(Sum.inl (g.1.1:Int):Key)=Sum.inl (e.1.1:Int):=of_decide_eq_true h2;have h4:g.1.1=e.1.1:=by have:=Sum.inl.inj h3;omega
  have:g=e:=oh (f:=fun x:Hx=>x.1.1) nd hg he h4;subst this;rfl
def F8{hx:List Hx}(h:HrX l hx)(hl:∀e∈l,e.2.isSome=true):hx.map (·.2)=vals l:=by
 obtain⟨h1,h2⟩:=h;subst h1;unfold vals;rw[List.filterMap_map]
 induction hx with
 |nil=>rfl
 |cons e r ih=>obtain⟨p,hp⟩:=Option.isSome_iff_exists.mp (hl e.1 qI_);have hc:((fun x:Nat×Option Pr=>x.2) ∘ fun x:Hx=>x.1) e=some p:=hp;rw[List.filterMap_cons,List.map_cons,hc];dsimp only;rw[h2 e qI_ p hp,ih (fun x hx=>h2 x (qR_ _ hx)) fun x hx=>hl x (qR_ _ hx)]
def nU(h:j < n):ixN n (j:Int)=some j:=by
 unfold M3.ixN;rw[if_pos (Int.natCast_nonneg _),if_pos (by omega)];rfl
section
variable{G:Hh}{Q:D->Hh->Prop}{E:Nat->Hh->Prop}{A:La}{z:Sy}{QU:Unit->Hh->Prop}
def qK{xs:List D}(hn:G[n]? =some (.lst xs))(hj:ixN xs.length k=some j)(h:∀G',Chg [n] G G'->G'.length=G.length->G'[n]? =some (.lst (xs.set j v))->QU () G'):M3.run (vE (.ref n) (.int k) v) G QU E:=
 JS hn hj (h _ (Chg.set _ _ (by simp)) (by simp) (fy hn))
def FT{o:E3}(h:M3.run (o σ) G (fun x G1=>M3.run (xc x) G1 Q E) E):M3.run (Cu o σ) G Q E:=aB h
def FI{kvs:List (Key×D)}(hn:G[n]? =some (.dK kvs))(h:∀G',Chg [] G G'->G'.length=G.length+1->G'[G.length]? =some (.lst (kvs.map fun kv=>vU kv.1))->Q (.ref G.length) G'):M3.run (xc (.ref n)) G Q E:=by
 refine aC (a:=D.ref G.length) (G':=G++[.lst (kvs.map fun kv=>vU kv.1)]) ?_ (h _ (Chg.add _ _) (by simp) (aM _ _));unfold xc;dsimp only;rw[hn];rfl
def tj(h:Hd):Hd:=roundF (bf h (vals h.av)).1 (some (bf h (vals h.av)).2)
def DO{i p:Nat}{ii:Int}{h:Hd}{w:Wk}(e:ii=(i:Int))(L:LAt G A z)(W:HOK z.af.ks.length i h)(Oe:z.af.ks.length<=9)(N:LNd z.last)(hi:z.af.hs[i]? =some h)(ha:h.atw=true)(hp:h.pair=none)(pl:plc z.last i=some p)(hw:z.ao[p]? =some w)(wv:w.val=h.val)(h0:0<=h.own)(hz:z.af.row.length<=100000)
 (hq:∀G' A',Chg A.foot G G'->A.to A' G.length->LAt G' A' (au z {z.af with hs:=z.af.hs.set i (tj h),row:=newRow z.af (tj h)})->Q .non G'):M3.run (oB [.ref A.h,.int ii]) G Q E:=by
 subst e;have S:=La.sep L.nd;obtain⟨wn,wc,_,knd,hv⟩:=W;replace hv:=hv hp;obtain⟨d,q,hd,sH,md,mq,gd,hx,hh,gq⟩:=L.hand hi;have sd:=S.dq d (.inl md);have sq:=S.dq q (.inr mq);have Ow:q≠d:=fun w=>S.x d md q mq w.symm;have ev:=F8 hh hv;obtain⟨rx,hr,gl⟩:=L.lt;unfold iN at gd;rw[pl,hp]at gd;have E8:p < z.ao.length:=(qB_.mp hw).1;walk_at "f";unfold rG;lia;refine aG L.o rfl jy ?_;lia;refine bL L.hd (bD hd) ?_;lia;refine FT ?_;lia;refine aG gd rfl ju ?_;refine FI gq fun G1 c1 l1 g1=>?_;refine eP g1 ?_;have wm:=c1.get gd (by simp);have TU:=c1.get gq (by simp);have ek:((hx.map hD).map fun kv=>vU kv.1)=hx.map fun e=>D.int (e.1.1:Int):=by rw[qb_];rfl
 rw[ek]at g1 ⊢;refine jI (f:=fun e:Hx=>D.int (e.1.1:Int)) (fun j σ G'=>G'=G1/\∃x,σ=[some (.ref A.h),some (.int (i:Int)),some (.ref d),some (pD (((hx.map (·.2)).take j).foldl better start)),x]) ?_ ?_ ?_ ⟨rfl,_,rfl⟩
 · rintro j σ G' ⟨rfl,_⟩;exact qZ_ g1
 · rintro j e σ G' he ⟨rfl,x,rfl⟩;have et:(hx.map (·.2)).take (j+1)=(hx.map (·.2)).take j++[e.2]:=take_succ (by rw[qQ_,he];rfl);rw[et,List.foldl_append];generalize ((hx.map (·.2)).take j).foldl better start=b;have lk:=GJ hh knd (qD_ he);lia;refine aG wm rfl ju ?_;lia;refine aG TU rfl lk ?_;unfold pD;lia;show M3.run _ _ _ _;refine w_ite (fun c=>?_) fun c=>?_
   · have eb:better b e.2=e.2:=by unfold better;rw[if_pos];exact c
     lia;refine aG wm rfl ju ?_
     lia;refine aG TU rfl lk ?_
     lia;show _/\_
     rw[List.foldl_cons,List.foldl_nil,eb];exact⟨rfl,_,rfl⟩
   · have eb:better b e.2=b:=by
      unfold better;rw[if_neg];intro w;have:gtS e.2.1 b.1=false:=c;rw[this]at w;cases w
     lia;show _/\_
     rw[List.foldl_cons,List.foldl_nil,eb];exact⟨rfl,_,rfl⟩
 rintro σ G' ⟨rfl,x,rfl⟩;rw[<-qM_ (f:=(·.2)) (as:=hx),List.take_length,ev];refine w_next ?_;refine az (ak (Q:=fun r G2=>∃P o' x4,r=(.next,[some (.ref A.h),some (.int (i:Int)),some (.ref d),some (pD P),x4])/\Chg [d] G' G2/\G2.length=G'.length/\G2[d]? =some (.dK (bU (.int h.rnd) (.int o') (wdD h) .non (.ref q) (some p)))/\bf h (vals h.av)=({h with own:=o'},P)) ?_ ?_)
 · lia;refine aG wm rfl ow ?_
   unfold wdD;rw[if_pos ha];lia;refine w_eq vD ?_;lia;unfold wdD at wm;rw[if_pos ha]at wm;cases hvv:h.val with
   |none=>
    have ew:decide (word (decide ((none:Option Int)=none))="write")=false:=by decide +kernel
    rw[ew];lia;refine⟨iO (vals h.av),h.own,x,rfl,Chg.refl _ _,rfl,?_,?_⟩
    · rw[hvv]at wm;exact wm
    · unfold bf;rw[hvv];have e:∀g:Hd,g.val=none->g={g with val:=none,own:=g.own}:=fun g hg=>by cases g;cases hg;rfl
      exact congrArg (·,iO (vals h.av)) (e h hvv)
   |some v=>
    have ew:decide (word (decide ((some v:Option Int)=none))="write")=true:=by
     have:decide ((some v:Option Int)=none)=false:=rfl;rw[this]
     decide +kernel
    rw[ew];unfold pD;lia;refine aG wm rfl D9 ?_;lia;refine cq wm rfl (show _ < aw from qP_ rfl) fun G2 c2 l2 g2=>?_;rw[Ku]at g2;lia;refine aG g2 rfl D9 ?_;lia;refine aG (c2.get (c1.get L.o (by simp)) (n1 (Ne.symm sd.1))) rfl jr ?_;lia;refine aG g2 rfl ia ?_;refine HS (c2.get (c1.get L.wk (by simp)) (n1 (Ne.symm sd.2.2.2.2.2.1))) hw ?_;unfold fS;lia;rw[wv,hvv];have em:=Gm (vals h.av) h.own h0;refine⟨((mO (vals h.av) h.own+1,(i:Int)),v),mO (vals h.av) h.own+1,x,?_,c2,l2,?_,?_⟩
    · rw[em];rfl
    · rw[em,<-hvv];exact g2
    · unfold bf;rw[hvv,wn]
 rintro r G2 ⟨P,o',x4,rfl,c2,l2,g2,hc⟩;have e2:tj h={h with own:=o',rnd:=h.rnd+1,pair:=some P,av:=[]}:=by unfold tj;rw[hc];rfl
 rw[e2]at hq;have lo:=L.lt' ((La.mem A).mpr (.inl rfl));have ld:=L.lt' ((La.mem A).mpr (.inr (.inr (.inr (.inr (.inr (.inr (.inr (.inl md)))))))));refine w_next ?_;lia;refine aG (c2.get (c1.get L.o (by simp)) (n1 (Ne.symm sd.1))) rfl oS ?_;lia;refine aG g2 rfl ia ?_;have gZ:p < (stL z.af.hs z.last z.ao).length:=by unfold stL;rw[List.length_mapIdx];exact E8
 refine qK (c2.get (c1.get L.st (by simp)) (n1 (Ne.symm sd.2.2.2.2.2.2))) (nU gZ) fun G3 c3 l3 g3=>?_;have VA:=c3.get g2 (n1 sd.2.2.2.2.2.2);lia;refine cq VA rfl (show _ < aw from qP_ rfl) fun G4 c4 l4 g4=>?_;rw[zV]at g4;lia;refine aG g4 rfl qN ?_;lia;refine cq g4 rfl (show _ < aw from qP_ rfl) fun G5 c5 l5 g5=>?_;rw[zZ]at g5;refine w_next ?_;refine az (ph (jm fun G6 c6 l6 g6=>?_));lia;refine cq (c6.get g5 (by simp)) rfl (show _ < aw from qP_ rfl) fun G7 c7 l7 g7=>?_;rw[wR]at g7;have n6:G5.length≠d:=by omega
 have Vx:=c7.get g6 (n1 n6);have C:Chg [d,A.st] G G7:=(((c1.mono (by simp)).trans (c2.mono (by simp))).trans (c3.mono (by simp))).trans (((c4.mono (by simp)).trans (c5.mono (by simp))).trans ((c6.mono (by simp)).trans (c7.mono (by simp))));have Vb:G7[A.st]? =some (.lst ((stL z.af.hs z.last z.ao).set p (pD P |> fun _=>.tup [.int P.1.1,.int P.1.2]))):=c7.get (c6.get (c5.get (c4.get g3 (n1 (Ne.symm sd.2.2.2.2.2.2))) (n1 (Ne.symm sd.2.2.2.2.2.2))) (by simp)) (n1 (Ne.symm sd.2.2.2.2.2.2));have il:i < z.af.hs.length:=(qB_.mp hi).1;have L7:=L.upd (S:=[d,A.st]) (h':={h with own:=o',rnd:=h.rnd+1,pair:=some P,av:=[]}) (last':=z.last) (ws':=z.ao) (row':=z.af.row) (hx:=[]) (q':=G5.length) (rx:=rx) hi hd sH C (by simp) (by unfold iN;rw[pl];exact g7) Vx ⟨rfl,by simp⟩ (.inr fun w=>by have:=L.lt' w;omega) (by rw[Ln N pl il rfl];exact Vb) (C.get L.wk (by simp;exact⟨Ne.symm sd.2.2.2.2.2.1,S.l4.2.2⟩)) hr (C.get gl (by simp;exact⟨Ne.symm sd.2.2.2.2.1,S.l1.2.2.2.2.2⟩)) fun _ _=>rfl;lia;refine yY (A:={A with qs:=A.qs.set i G5.length}) (z:=⟨{z.af with hs:=z.af.hs.set i {h with own:=o',rnd:=h.rnd+1,pair:=some P,av:=[]},row:=z.af.row},z.ao,z.last,z.aP⟩) (h:={h with own:=o',rnd:=h.rnd+1,pair:=some P,av:=[]}) rfl L7 wn wc Oe (qU_ il) hz fun G8 c8 L8=>?_;lia;refine hq G8 _ ?_ ⟨_,rfl,fun x hx=>?_⟩ L8
 · exact(C.mono (fun x hx=>by
    simp at hx;rcases hx with rfl |rfl
    · exact(La.mem A).mpr (by simp [md])
    · exact(La.mem A).mpr (by simp))).trans (c8.mono fun x hx=>by
    simp at hx;subst hx
    exact(La.mem A).mpr (by simp))
 · rcases List.mem_or_eq_of_mem_set hx with w |w
   · exact .inl ((La.mem A).mpr (by simp [w]))
   · right;subst w;omega
end
def bX(st:Hl)(e:Bool×Lt):Hl×List (Nat×Pr):=match e with
 |(true,l)=>(match st.hs[l.hand]? with
  |none=>(st,[])
  |some h=>({st with hs:=st.hs.set l.hand (aZ h l).1,row:=st.row++(aZ h l).2.1.map fun x=>(false,x)},match (aZ h l).2.2 with
   |none=>[]
   |some p=>[(l.hand,p)]))
 |(false,l)=>(match st.ks[l.kpr]? with
  |none=>(st,[])
  |some k=>({st with ks:=st.ks.set l.kpr (bp k l).1,row:=st.row++(match (bp k l).2 with
   |none=>[]
   |some x=>[(true,x)])},[]))
def km{st:Hl}(W:WF st)(he:st.row[p]? =some e):aE st p s=bX {st with row:=bI st p s} e:=by
 obtain⟨h,h1,h2,_⟩:=W.rw e (qD_ he);unfold aE bX;rw[he];obtain⟨b,l⟩:=e;cases b with
 |true=>dsimp only at h1 ⊢;rw[h1] <;> rfl
 |false=>dsimp only at h2 ⊢;rw[qA_ h2] <;> rfl
structure PI (z:Sy):Prop where
 w:∀(i:Nat) h,z.af.hs[i]? =some h->h.atw=true->∃p w,plc z.last i=some p/\z.ao[p]? =some w/\w.hand=i/\w.val=h.val
 o:∀(i:Nat) h,z.af.hs[i]? =some h->0<=h.own
def Dq(hx:List Hx)(k:Nat)(o:Option Pr)(p:Pr):List Hx:=if (hx.any fun e=>decide (e.1.1=k))then hx.map fun e=>if e.1.1=k then ((e.1.1,o),p)else e else hx++[((k,o),p)]
def Le(hx:List Hx)(k:Nat)(o:Option Pr)(p:Pr):put (hx.map hD) (.inl (k:Int)) (pD p)=(Dq hx k o p).map hD:=by
 have key:∀e:Hx,decide ((hD e).1=(.inl (k:Int):Key))=decide (e.1.1=k):=fun e=>decide_eq_decide.mpr ⟨fun z=>by have:=Sum.inl.inj z;omega,fun z=>by unfold hD;rw[z]⟩;unfold put Dq;have e1:((hx.map hD).any fun kv=>decide (kv.1=(.inl (k:Int):Key)))=hx.any fun e=>decide (e.1.1=k):=by rw[List.any_map];congr 1;funext e;exact key e
 rw[e1];by_cases c:(hx.any fun e=>decide (e.1.1=k))=true
 · rw[if_pos c,if_pos c,qb_,qb_];apply List.map_congr_left;intro e _;show (if (hD e).1=(.inl (k:Int):Key)then ((hD e).1,pD p)else hD e)=hD (if e.1.1=k then ((e.1.1,o),p)else e);by_cases z:e.1.1=k
   · rw[if_pos z,if_pos (of_decide_eq_true ((key e).trans (qZ_ z)))];rfl
   · rw[if_neg z,if_neg (fun w=>z (of_decide_eq_true ((key e).symm.trans (qZ_ w))))]
 · rw[if_neg c,if_neg c,qT_];rfl
def Jy(h:HrX l hx)(ho:∀r,o=some r->p=r):HrX (bQ l k o) (Dq hx k o p):=by
 obtain⟨h1,h2⟩:=h;subst h1;have e:((hx.map (·.1)).any fun e=>decide (e.1=k))=hx.any fun e=>decide (e.1.1=k):=by rw[List.any_map];rfl
 unfold Dq bQ;rw[e];split
 · refine⟨?_,fun x LI=>?_⟩
   · rw[qb_,qb_];apply List.map_congr_left;intro e _;show (if e.1.1=k then ((e.1.1,o),p)else e).1=if e.1.1=k then (e.1.1,o)else e.1;split <;> rfl
   · obtain⟨e,he,rfl⟩:=qH_.mp LI;split
     · exact ho
     · exact h2 e he
 · refine⟨by rw[qT_];rfl,fun x LI=>?_⟩;rcases qG_.mp LI with w |w
   · exact h2 x w
   · simp at w;subst w;exact ho
def Nd{ws:List Wk}{w w':Wk}(hw:ws[p]? =some w)(e:w'.bY=w.bY):stL hs last (ws.set p w')=stL hs last ws:=by
 unfold stL;apply List.ext_getElem?;intro q;rw[List.getElem?_mapIdx,List.getElem?_mapIdx,qJ_];split
 · rename_i z;subst z;rw[if_pos (qB_.mp hw).1,hw];show some (stD (gC hs last p w'.bY))=some (stD (gC hs last p w.bY));rw[e]
 · rfl
section
variable{h:Hd}{l:Lt}
def tL(c:h.atw=false\/l.num≠h.rnd):aZ h l=(h,[],none):=by
 unfold aZ;rw[if_pos];rcases c with c |c
 · rw[c];rfl
 · rw[qa_ c];simp
def qB(h:Hd)(l:Lt):Hd:={h with av:=bQ h.av l.kpr l.pair}
def zS(a:h.atw=true)(n:l.num=h.rnd):aZ h l=if (!decide (h.cnt < (bQ h.av l.kpr l.pair).length*2))=true then (qB h l,[],none)else match h.pair with
 |none=>(tj (qB h l),aR (tj (qB h l)),none)
 |some p=>({qB h l with atw:=false},[],some p):=by
 show (if (!h.atw||!decide (l.num=h.rnd))=true then _ else _)=_;rw[if_neg (by rw[a,qZ_ n];decide)];rfl
end
section
variable{G:Hh}{Q:D->Hh->Prop}{E:Nat->Hh->Prop}{A:La}{z:Sy}
def LAt.frame{G':Hh}{S:List Nat}(L:LAt G A z)(c:Chg S G G')(h:∀x∈S,x∉A.foot):LAt G' A z:=by
 have m:∀{x},x∈A.foot->x∉S:=fun hx hs=>h _ hs hx;obtain⟨rx,hr,gl⟩:=L.lt;refine⟨c.get L.o (m ((La.mem A).mpr (by simp))),c.get L.pr (m ((La.mem A).mpr (by simp))),c.get L.up (m ((La.mem A).mpr (by simp))),c.get L.hd (m ((La.mem A).mpr (by simp))),⟨rx,hr,c.get gl (m ((La.mem A).mpr (by simp)))⟩,c.get L.wk (m ((La.mem A).mpr (by simp))),c.get L.st (m ((La.mem A).mpr (by simp))),L.dl,L.ql,fun i d q h a1 a2 a3=>?_,L.nd⟩;obtain⟨b1,hx,b2,b3⟩:=L.hs i d q h a1 a2 a3;exact⟨c.get b1 (m ((La.mem A).mpr (by simp [qD_ a1]))),hx,b2,c.get b3 (m ((La.mem A).mpr (by simp [qD_ a2])))⟩
def LAt.new(L:LAt G A z)(c:Chg [] G G'):LAt G' A z:=L.frame c (by simp)
def oI(h:plc last i=some p):lastOf last i=p:=by
 unfold lastOf;unfold plc at h;rw[h];rfl
def F5{x:Lx}{l:Lt}{h:Hd}(et:t=(z.aP:Int))(ex:x.1=(true,l))(X:XR x)(L:LAt G A z)(W:HOK z.af.ks.length l.hand h)(Oe:z.af.ks.length<=9)(N:LNd z.last)(P:PI z)(hi:z.af.hs[l.hand]? =some h)(lk:l.kpr < z.af.ks.length)(lp:l.num=h.rnd->l.pair.isSome=h.pair.isNone)(hz:z.af.row.length<=100000)
 (hq:∀G' A' lr,Chg A.foot G G'->A.to A' G.length->LAt G' A' (endsF z (bX z.af (true,l)))->G.length<=lr->lr∉A'.foot->G'[lr]? =some (.lst (cp z (bX z.af (true,l))))->Q (.ref lr) G'):M3.run (qH [.ref A.h,lD x,.int t]) G Q E:=by
 subst et;have S:=La.sep L.nd;obtain⟨d,q,hd,sH,md,mq,gd,hx,hh,gq⟩:=L.hand hi;have sd:=S.dq d (.inl md);have sq:=S.dq q (.inr mq);have Ow:q≠d:=fun w=>S.x d md q mq w.symm;obtain⟨rx,hr,gl⟩:=L.lt;obtain⟨pq,e2,e3⟩:=X.2 (by rw[ex]);rw[ex]at e3;have il:l.hand < z.af.hs.length:=(qB_.mp hi).1;unfold iN at gd;have eb:bX z.af (true,l)=({z.af with hs:=z.af.hs.set l.hand (aZ h l).1,row:=z.af.row++(aZ h l).2.1.map fun x=>(false,x)},match (aZ h l).2.2 with
  |none=>[]
  |some p=>[(l.hand,p)]):=by
  unfold bX;dsimp only;rw[hi]
 have skip:(h.atw=false\/l.num≠h.rnd)->∀G',Chg [] G G'->G'.length=G.length+1->G'[G.length]? =some (.lst [])->Q (.ref G.length) G':=fun c G' c' l' g'=>by
  have e:bX z.af (true,l)=(z.af,[]):=by rw[eb,tL c,cP hi];dsimp only;rw[List.map_nil,qY_]
  rw[e]at hq;exact hq G' A G.length (c'.mono (by simp)) (La.iJ _ _) (L.new c') (qO_ _) (fun w=>by have:=L.lt' w;omega) g'
 have eL:lD x= .tup [.bl false,.int (l.hand:Int),.int (l.kpr:Int),.int l.num,pD pq]:=by unfold lD;rw[ex,e2];rfl
 rw[eL];walk_at "f";unfold vm;lia;refine aG L.o rfl jy ?_;lia;refine bL L.hd (bD hd) ?_;lia;refine aG gd rfl ow ?_;lia;cases ha:h.atw with
 |false=>
  have e0:decide (wdD h= .non)=true:=by unfold wdD;rw[ha];rfl
  rw[e0];refine df ?_;lia;exact skip (.inl ha) _ (Chg.add _ _) (by simp) (aM _ _)
 |true=>
  have e0:decide (wdD h= .non)=false:=by unfold wdD;rw[ha];rfl
  rw[e0];refine dC ?_;lia;refine aG gd rfl qN ?_;refine kE eq_int ?_;lia;refine w_ite (fun c=>?_) fun c=>?_
  · lia;exact skip (.inr fun w=>by rw[qZ_ w]at c;cases c) _ (Chg.add _ _) (by simp) (aM _ _)
  have en:l.num=h.rnd:=by
   by_cases w:l.num=h.rnd
   · exact w
   · rw[qa_ w]at c;cases c
  have eh:=zS ha en;lia;refine aG gd rfl ju ?_;lia;refine cq gq rfl ?_ fun G1 c1 l1 g1=>?_
  · rw[qM_];have:=rF z.af.ks.length (h.av.map (·.1)) W.2.2.2.1 fun k hk=>by
     obtain⟨e,he,rfl⟩:=qH_.mp hk;exact W.2.2.1 e he
    rw[<-hh.1,qM_,qM_]at this;unfold aw;omega
  rw[Le hx l.kpr l.pair pq]at g1;have Mh:=Jy (k:=l.kpr) (o:=l.pair) (p:=pq) hh e3;generalize Dq hx l.kpr l.pair pq=hx1 at g1 Mh;have wm:=c1.get gd (n1 Ow.symm);have W1:HOK z.af.ks.length l.hand (qB h l):=Ey W lk fun w=>by rw[lp en,w];rfl
  have L1:=L.upd (S:=[q]) (h':=qB h l) (last':=z.last) (ws':=z.ao) (row':=z.af.row) (rx:=rx) (q':=q) hi hd sH c1 (by simp) wm g1 Mh (.inl rfl) (by rw[we (h':=qB h l) hi rfl];exact c1.get L.st (n1 (Ne.symm sq.2.2.2.2.2.2))) (c1.get L.wk (n1 (Ne.symm sq.2.2.2.2.2.1))) hr (c1.get gl (n1 (Ne.symm sq.2.2.2.2.1))) fun _ _=>rfl;rw[cP sH]at L1;have HJ:hx1.length=(bQ h.av l.kpr l.pair).length:=by rw[<-Mh.1,qM_]
  lia;refine aG wm rfl ju ?_
  refine Dl g1 ?_;lia;refine aG L1.o rfl tF ?_;refine cX L1.up ?_;lia;have eu:(z.af.ks.map fun k=>D.bl k.up).length=h.cnt:=by rw[qM_,W.2.1]
  have lf:∀{x:Nat},x∈A.foot->x < G1.length:=fun hx=>by rw[l1];exact L.lt' hx
  have cf:Chg A.foot G G1:=c1.mono fun x hx=>by simp at hx;subst hx;exact(La.mem A).mpr (by simp [mq])
  have UR:(z.af.hs.set l.hand (qB h l))[l.hand]? =some (qB h l):=qU_ il;refine w_ite (fun c2=>?_) fun c2=>?_
  · have ef:aZ h l=(qB h l,[],none):=by
     rw[eh,if_pos];have:=of_decide_eq_true c2;rw[qM_,HJ,eu]at this;simp;omega
    have e:bX z.af (true,l)=({z.af with hs:=z.af.hs.set l.hand (qB h l)},[]):=by rw[eb,ef];dsimp only;rw[List.map_nil,qY_]
    rw[e]at hq;lia;exact hq _ A G1.length (cf.trans (Chg.add _ _)) (La.iJ _ _) (L1.new (Chg.add _ _)) (by omega) (fun w=>by have:=lf w;omega) (aM _ _)
  have eg:(!decide (h.cnt < (bQ h.av l.kpr l.pair).length*2))=false:=by have:=of_decide_eq_false c2;rw[qM_,HJ,eu]at this;simp;omega
  rw[eg,if_neg qC_]at eh;obtain⟨p,w,pl,hw,wh,wv⟩:=P.w _ h hi ha;rw[pl]at wm;lia;refine aG wm rfl qE ?_;lia;rw[nY];cases hp:h.pair with
  |none=>
   rw[hp]at eh;have e:bX z.af (true,l)=({z.af with hs:=z.af.hs.set l.hand (tj (qB h l)),row:=newRow z.af (tj (qB h l))},[]):=by rw[eb,eh];rfl
   rw[e]at hq;refine df ?_;lia;refine DO (A:=A) (z:=⟨{z.af with hs:=z.af.hs.set l.hand (qB h l),row:=z.af.row},z.ao,z.last,z.aP⟩) (h:=qB h l) (p:=p) (w:=w) rfl L1 W1 Oe N UR ha hp pl hw wv (P.o _ h hi) hz fun G2 A2 c2 t2 L2=>?_;lia;have VY:LAt G2 A2 (au z {z.af with hs:=z.af.hs.set l.hand (tj (qB h l)),row:=newRow z.af (tj (qB h l))}):=by have:=L2;unfold au at this ⊢;dsimp only at this;rw[List.set_set]at this;exact this
   have l2:=c2.1;exact hq _ A2 G2.length (cf.trans (c2.trans (Chg.add _ _))) (by rw[<-l1];exact t2) (VY.new (Chg.add _ _)) (by omega) (fun w=>by have:=L2.lt' w;omega) (aM _ _)
  |some pr=>
   rw[hp]at eh wm;have e:bX z.af (true,l)=({z.af with hs:=z.af.hs.set l.hand {qB h l with atw:=false}},[(l.hand,pr)]):=by rw[eb,eh];dsimp only;rw[List.map_nil,qY_]
   have ee:endsF z (bX z.af (true,l))=⟨{z.af with hs:=z.af.hs.set l.hand {qB h l with atw:=false},row:=z.af.row},z.ao.set p (tx z pr w),z.last,z.aP⟩:=by rw[e];show hJ _ _=_;unfold hJ iQ au;dsimp only;rw[oI pl,hw];rfl
   have ed:cp z (bX z.af (true,l))=[.tup [.int (p:Int),.int pr.2]]:=by rw[e];show [seD z (l.hand,pr)]=_;unfold seD;rw[oI pl]
   rw[ee,ed]at hq;refine dC ?_;lia;refine aG L1.o rfl jr ?_;lia;refine aG wm rfl ia ?_;refine HS L1.wk hw ?_;unfold fS;lia;refine aG wm rfl qE ?_;unfold opD pD;lia;refine aG L1.o rfl jr ?_;lia;refine aG wm rfl ia ?_;refine qK L1.wk (nU (by rw[qM_];exact(qB_.mp hw).1)) fun G2 c2 l2 g2=>?_;have V3:=c2.get wm (n1 sd.2.2.2.2.2.1);lia;refine cq V3 rfl (show _ < aw from qP_ rfl) fun G3 c3 l3 g3=>?_;rw[vw]at g3;lia;refine aG g3 rfl ia ?_;lia;refine aG g3 rfl qE ?_;unfold opD pD;lia;have C:Chg [q,A.wk,d] G G3:=(c1.mono (by simp)).trans ((c2.mono (by simp)).trans (c3.mono (by simp)));have gw:G3[A.wk]? =some (.lst ((z.ao.set p (tx z pr w)).map fS)):=by rw[c3.get g2 (n1 (Ne.symm sd.2.2.2.2.2.1)),List.map_set];unfold fS tx;dsimp only;rw[wh];rfl
   have L3:=L.upd (S:=[q,A.wk,d]) (h':={qB h l with atw:=false}) (last':=z.last) (ws':=z.ao.set p (tx z pr w)) (row':=z.af.row) (rx:=rx) (q':=q) (hx:=hx1) hi hd sH C (by simp) (by unfold iN;rw[pl,show (qB h l).pair=some pr from hp];exact g3) (c3.get (c2.get g1 (n1 sq.2.2.2.2.2.1)) (n1 Ow)) Mh (.inl rfl) (by rw[Nd (w':=tx z pr w) hw rfl,we (h':={qB h l with atw:=false}) hi rfl];exact C.get L.st (by simp;exact⟨Ne.symm sq.2.2.2.2.2.2,Ne.symm S.l4.2.2,Ne.symm sd.2.2.2.2.2.2⟩)) gw hr (C.get gl (by simp;exact⟨Ne.symm sq.2.2.2.2.1,S.l1.2.2.2.2.1,Ne.symm sd.2.2.2.2.1⟩)) fun _ _=>rfl;rw[cP sH]at L3;exact hq _ A G3.length ((C.mono fun x hx=>by
    simp at hx;rcases hx with rfl |rfl |rfl
    · exact(La.mem A).mpr (by simp [mq])
    · exact(La.mem A).mpr (by simp)
    · exact(La.mem A).mpr (by simp [md])).trans (Chg.add _ _)) (La.iJ _ _) (L3.new (Chg.add _ _)) (by omega) (fun w=>by have:=L.lt' w;omega) (aM _ _)
end
section
variable{G G':Hh}{Q:D->Hh->Prop}{E:Nat->Hh->Prop}{A:La}{z:Sy}
def LAt.kpr(L:LAt G A z){Qu:List Kr}{rx:List Lx}(c:Chg S G G')(hS:∀x∈S,x=A.pr\/x=A.up\/x=A.lt)(gp:G'[A.pr]? =some (.lst (Qu.map fun k=>pD k.pair)))(gu:G'[A.up]? =some (.lst (Qu.map fun k=>.bl k.up)))(hr:Ji row' rx)(gl:G'[A.lt]? =some (.lst (rx.map lD))):LAt G' A (au z ⟨Qu,z.af.hs,row'⟩):=by
 have S':=La.sep L.nd;have ns:∀x,x≠A.pr->x≠A.up->x≠A.lt->x∉S:=fun x a1 a2 a3 m=>by
  rcases hS x m with w |w |w
  · exact a1 w
  · exact a2 w
  · exact a3 w
 refine⟨c.get L.o (ns _ (Ne.symm S'.l2.1) (Ne.symm S'.l3.1) (Ne.symm S'.l1.1)),gp,gu,c.get L.hd (ns _ (Ne.symm S'.l2.2.2.1) (Ne.symm S'.l3.2.1) (Ne.symm S'.l1.2.2.2.1)),⟨rx,hr,gl⟩,c.get L.wk (ns _ (Ne.symm S'.l2.2.2.2.1) (Ne.symm S'.l3.2.2.1) (Ne.symm S'.l1.2.2.2.2.1)),c.get L.st (ns _ (Ne.symm S'.l2.2.2.2.2) (Ne.symm S'.l3.2.2.2) (Ne.symm S'.l1.2.2.2.2.2)),L.dl,L.ql,fun i d q h a1 a2 a3=>?_,L.nd⟩;obtain⟨b1,hx,b2,b3⟩:=L.hs i d q h a1 a2 a3;have s1:=S'.dq d (.inl (qD_ a1));have s2:=S'.dq q (.inr (qD_ a2));exact⟨c.get b1 (ns _ s1.2.1 s1.2.2.1 s1.2.2.2.2.1),hx,b2,c.get b3 (ns _ s2.2.1 s2.2.2.1 s2.2.2.2.2.1)⟩
def oK{α:Type}{f:α->D}{l:List α}{i:Nat}{a b:α}(h:l[i]? =some a)(e:f b=f a):(l.set i b).map f=l.map f:=by
 apply List.ext_getElem?;intro j;rw[qQ_,qQ_,qJ_];split
 · rename_i w;subst w;rw[if_pos (qB_.mp h).1,h];show some (f b)=some (f a);rw[e]
 · rfl
def tK{x:Lx}(et:t=(z.aP:Int))(X:XR x)(L:LAt G A z)(W:WF z.af)(N:LNd z.last)(P:PI z)(ok:EOK z.af.ks.length z.af.hs x.1)(hz:z.af.row.length<=100000)
 (hq:∀G' A' lr,Chg A.foot G G'->A.to A' G.length->LAt G' A' (endsF z (bX z.af x.1))->G.length<=lr->lr∉A'.foot->G'[lr]? =some (.lst (cp z (bX z.af x.1)))->Q (.ref lr) G'):M3.run (fu [.ref A.h,lD x,.int t]) G Q E:=by
 have S:=La.sep L.nd;obtain⟨⟨b,l⟩,dx⟩:=x;obtain⟨h,hi,lk,_,lp⟩:=ok;dsimp only at hi lk lp hq;cases b with
 |true=>walk_at "f";unfold mf lD;lia;refine df ?_;lia;refine F5 (x:=((true,l),dx)) et rfl X L (W.hk _ h hi) W.ksz N P hi lk (fun w=>(lp w).2 rfl) hz fun G1 A1 lr a1 a2 a3 a4 a5 a6=>?_;lia;exact hq G1 A1 lr a1 a2 a3 a4 a5 a6
 |false=>
  have ex:dx=opD l.pair:=X.1 rfl;subst ex;obtain⟨rx,hr,gl⟩:=L.lt;have Fb:rx.length=z.af.row.length:=by rw[<-hr.1,qM_]
  have hk:z.af.ks[l.kpr]? =some z.af.ks[l.kpr]:=qA_ lk;generalize z.af.ks[l.kpr]=k at hk;have eb:bX z.af (false,l)=({z.af with ks:=z.af.ks.set l.kpr (bp k l).1,row:=z.af.row++(match (bp k l).2 with
   |none=>[]
   |some x=>[(true,x)])},[]):=by
   unfold bX;dsimp only;rw[hk] <;> rfl
  have ix:ixN (z.af.ks.map fun k=>pD k.pair).length (l.kpr:Int)=some l.kpr:=nU (by rw[qM_];exact lk);have fin:∀(k':Kr) (l':Lt) (G1:Hh),bp k l=(k',some l')->l'.hand=l.hand->l'.kpr=l.kpr->l'.num=l.num->k'.up=k.up->(∀r,l'.pair=some r->k'.pair=r)->Chg [A.pr] G G1->G1.length=G.length->G1[A.pr]? =some (.lst ((z.af.ks.set l.kpr k').map fun k=>pD k.pair))->
   ∀G2,Chg [A.lt] G1 G2->G2.length=G1.length->G2[A.lt]? =some (.lst (rx.map lD++[.tup [.bl false,.int (l.hand:Int),.int (l.kpr:Int),.int l.num,pD k'.pair]]))->Q (.ref G2.length) (G2++[.lst []]):=by
   intro k' l' G1 ea e1 e2 e3 e4 e5 c1 l1 g1 G2 c2 l2 g2;rw[ea]at eb;dsimp only at eb;rw[eb]at hq;have C:Chg [A.pr,A.lt] G G2:=(c1.mono (by simp)).trans (c2.mono (by simp));have L2:LAt G2 A (au z ⟨z.af.ks.set l.kpr k',z.af.hs,z.af.row++[(true,l')]⟩):=by
    refine L.kpr (S:=[A.pr,A.lt]) (rx:=rx++[((true,l'),pD k'.pair)]) C (by simp) (c2.get g1 (n1 (Ne.symm S.l1.2.1))) ?_ ⟨?_,?_⟩ ?_
    · rw[oK (f:=fun k:Kr=>D.bl k.up) (b:=k') hk (by show D.bl _=D.bl _;rw[e4])];exact C.get L.up (by simp;exact⟨Ne.symm S.l2.2.1,Ne.symm S.l1.2.2.1⟩)
    · rw[qT_,hr.1];rfl
    · intro y hy;rcases qG_.mp hy with w |w
      · exact hr.2 y w
      · simp at w;subst w;exact⟨(fun w=>by cases w),fun _=>⟨k'.pair,rfl,e5⟩⟩
    · rw[g2,qT_];show _=some (O.lst (_++[lD ((true,l'),pD k'.pair)]));unfold lD;dsimp only;rw[e1,e2,e3];rfl
   exact hq _ A G2.length ((C.mono fun x hx=>(La.mem A).mpr (by simp at hx;rcases hx with rfl |rfl <;> simp)).trans (Chg.add _ _)) (La.iJ _ _) (L2.new (Chg.add _ _)) (by omega) (fun w=>by have:=L.lt' w;omega) (aM _ _)
  walk_at "f";unfold mf lD;lia;refine dC ?_;lia;refine aG L.o rfl tF ?_;lia;refine bL L.up (bD hk) ?_;lia;cases ku:k.up with
  |false=>
   have ea:bp k l=(k,none):=by unfold bp;rw[ku];rfl
   have e:bX z.af (false,l)=(z.af,[]):=by rw[eb,ea];dsimp only;rw[cP hk,qY_]
   rw[e]at hq;refine dC ?_;lia;exact hq _ A G.length (Chg.add _ _) (La.iJ _ _) (L.new (Chg.add _ _)) (qO_ _) (fun w=>by have:=L.lt' w;omega) (aM _ _)
  |true=>
   refine df ?_;cases lpp:l.pair with
   |none=>
    have ea:bp k l=(k,some {l with pair:=some k.pair}):=by unfold bp;rw[ku,lpp];rfl
    unfold opD;lia;have e0:(!decide (D.non= .non))=false:=rfl;rw[e0];lia;refine aG L.o rfl cu ?_;refine fM gl ?_;lia;refine aG L.o rfl jo ?_;lia;refine bL L.pr (bD hk) ?_;lia;refine dm gl (by rw[qM_];unfold aw;omega) fun G2 c2 l2 g2=>?_;lia;exact fin k _ G ea rfl rfl rfl rfl (fun r w=>by cases w;rfl) (Chg.refl _ _) rfl (by rw[cP hk];exact L.pr) G2 c2 l2 g2
   |some p=>
    have ea:bp k l=(qe k p,some {l with pair:=none}):=by unfold bp;rw[ku,lpp];rfl
    unfold opD;lia;have e0:(!decide (pD p= .non))=true:=rfl;rw[e0];refine df ?_
    conv=>enter [1];unfold pD
    lia;refine aG L.o rfl jo ?_
    lia;refine bL L.pr (bD hk) ?_
    conv=>enter [1];unfold pD
    lia;refine w_ite (fun c=>?_) fun c=>?_
    · have ek:qe k p={k with pair:=p}:=by unfold qe;rw[if_pos];exact c
      rw[ek]at ea;lia;refine aG L.o rfl jo ?_;lia;refine qK L.pr ix fun G1 c1 l1 g1=>?_;have o1:=c1.get L.o (n1 (Ne.symm S.l2.1));have IK:=c1.get gl (n1 S.l1.2.1);have UD:G1[A.pr]? =some (.lst ((z.af.ks.set l.kpr {k with pair:=p}).map fun k=>pD k.pair)):=(by rw[g1,List.map_set]);lia;refine aG o1 rfl cu ?_;refine fM IK ?_;lia;refine aG o1 rfl jo ?_;lia;refine bL UD (bD (qU_ lk)) ?_;lia;refine dm IK (by rw[qM_];unfold aw;omega) fun G2 c2 l2 g2=>?_;lia;exact fin {k with pair:=p} _ G1 ea rfl rfl rfl rfl (fun r w=>by cases w) c1 l1 UD G2 c2 l2 g2
    · have ek:qe k p=k:=by
       unfold qe;rw[if_neg];intro w;have:gtS p.1 k.pair.1=false:=c;rw[this]at w;cases w
      rw[ek]at ea;lia;refine aG L.o rfl cu ?_;refine fM gl ?_;lia;refine aG L.o rfl jo ?_;lia;refine bL L.pr (bD hk) ?_;lia;refine dm gl (by rw[qM_];unfold aw;omega) fun G2 c2 l2 g2=>?_;lia;exact fin k _ G ea rfl rfl rfl rfl (fun r w=>by cases w) (Chg.refl _ _) rfl (by rw[cP hk];exact L.pr) G2 c2 l2 g2
end
def yJ(y:Sy)(e:Nat×Pr)(b:Hl):au (hJ y e) b=hJ (au y b) e:=by
 unfold hJ iQ au;dsimp only;cases y.ao[lastOf y.last e.1]? <;> rfl
theorem pN:∀(es:List (Nat×Pr)) (y:Sy) (b:Hl),au (du y es) b=du (au y b) es
 | [],_,_=>rfl
 |e :: r,y,b=>by
  show au (du (hJ y e) r) b=du (hJ (au y b) e) r;rw[pN r,yJ]
def tX(z:Sy)(a b:Hl×List (Nat×Pr)):endsF (endsF z a) b=endsF z (b.1,a.2++b.2):=by
 unfold endsF;rw[pN];show du (du (au z b.1) a.2) b.2=_;unfold du;rw[List.foldl_append]
def gi(z:Sy)(a:Hl×List (Nat×Pr)):(endsF z a).last=z.last/\(endsF z a).af=a.1/\(endsF z a).aP=z.aP:=by
 obtain⟨h1,h2,h3,_⟩:=iF a.2 (au z a.1);exact⟨h1,h2,h3⟩
def DS{a b:Sy}(h:a.last=b.last):seD a=seD b:=by
 funext e;unfold seD;rw[h]
def CL(ps:List Pr)(own:Int):own<=mO ps own:=by
 unfold mO;cases q:turns ps++[own]with
 |nil=>simp at q
 |cons m r=>exact gL r m own (by rw[<-q];simp)
def v8(h:Hd)(ps:List Pr):(bf h ps).1.val=h.val/\(0<=h.own->0<=(bf h ps).1.own):=by
 unfold bf;cases q:h.val with
 |none=>exact⟨q,id⟩
 |some v=>refine⟨rfl,fun o=>?_⟩;have:=CL ps h.own;show 0<=mO ps h.own+1;omega
def zb(h:Hd)(l:Lt):(aZ h l).1.val=h.val/\(0<=h.own->0<=(aZ h l).1.own)/\((aZ h l).1.atw=true->h.atw=true/\(aZ h l).2.2=none)/\((aZ h l).2.2.isSome=true->h.atw=true):=by
 by_cases c:h.atw=true/\l.num=h.rnd
 · rw[zS c.1 c.2];split
   · exact⟨rfl,id,fun _=>⟨c.1,rfl⟩,fun _=>c.1⟩
   · cases h.pair with
     |none=>have:=v8 (qB h l) (vals (qB h l).av);exact⟨this.1,this.2,fun _=>⟨c.1,rfl⟩,fun _=>c.1⟩
     |some p=>exact⟨rfl,id,(fun w=>by cases w),fun _=>c.1⟩
 · rw[tL]
   · exact⟨rfl,id,fun w=>⟨w,rfl⟩,fun w=>by cases w⟩
   · by_cases w:h.atw=true
     · exact .inr fun z=>c ⟨w,z⟩
     · exact .inl (by simpa using w)
def PI.Dc{z:Sy}(P:PI z)(N:LNd z.last)(e:Bool×Lt):PI (endsF z (bX z.af e)):=by
 obtain⟨b,l⟩:=e;have same:∀k':List Kr,∀row',PI (endsF z (⟨k',z.af.hs,row'⟩,[])):=fun k' row'=>⟨P.w,P.o⟩;cases b with
 |false=>
  unfold bX;dsimp only;cases z.af.ks[l.kpr]? with
  |none=>exact same _ _
  |some k=>exact same _ _
 |true=>
  unfold bX;dsimp only;cases hi:z.af.hs[l.hand]? with
  |none=>exact same _ _
  |some h=>
   dsimp only;obtain⟨f1,f2,f3,f4⟩:=zb h l;generalize z.af.row++(aZ h l).2.1.map _=row';generalize aZ h l=r at f1 f2 f3 f4;obtain⟨h',ls,o⟩:=r;dsimp only at f1 f2 f3 f4 ⊢;have il:l.hand < z.af.hs.length:=(qB_.mp hi).1;have ho:∀(i:Nat) g,(z.af.hs.set l.hand h')[i]? =some g->0<=g.own:=fun i g hg=>by
    rw[qJ_]at hg;split at hg
    · cases hg;exact f2 (P.o _ h hi)
    · exact P.o i g hg
   cases o with
   |none=>
    refine⟨fun i g hg ha=>?_,ho⟩;replace hg:(z.af.hs.set l.hand h')[i]? =some g:=hg;rw[qJ_]at hg;split at hg
    · rename_i w;subst w;cases hg;obtain⟨p,w,a1,a2,a3,a4⟩:=P.w _ h hi (f3 ha).1;exact⟨p,w,a1,a2,a3,by rw[a4,f1]⟩
    · exact P.w i g hg ha
   |some pr=>
    refine⟨fun i g hg ha=>?_,?_⟩
    · rw[(gi _ _).2.1]at hg;rw[(gi _ _).1];replace hg:(z.af.hs.set l.hand h')[i]? =some g:=hg;rw[qJ_]at hg;split at hg
      · rename_i w;subst w;cases hg;have:=(f3 ha).2;cases this
      · rename_i w;obtain⟨p,v,a1,a2,a3,a4⟩:=P.w i g hg ha;obtain⟨p0,v0,b1,b2,_,_⟩:=P.w _ h hi (f4 rfl);refine⟨p,v,a1,?_,a3,a4⟩;show (hJ _ _).ao[p]? =_;rw[DF,if_neg]
        · exact a2
        · show ¬p=lastOf z.last l.hand;rw[oI b1];intro q;subst q;exact w (congrArg (·.1) (N.p _ (qL b1) _ (qL a1) rfl))
    · rw[(gi _ _).2.1];exact ho
def WF.off{st:Hl}(W:WF st)(p:Nat):WF {st with row:=st.row.eraseIdx p}:=⟨W.hk,fun e he=>W.rw e (List.mem_of_mem_eraseIdx he),W.ksz,W.hsz⟩
section
variable{G:Hh}{Q:D->Hh->Prop}{E:Nat->Hh->Prop}{A:La}{z:Sy}
def MF{o a:E3}(h:M3.run (o σ) G (fun x G1=>M3.run (isL x) G1 (fun _ G2=>M3.run (a σ) G2 (fun y G3=>M3.run (oy x y) G3 Q E) E) E) E):M3.run (IS o a σ) G Q E:=aB (ak h fun x G1 h1=>aB (ak h1 fun _ G2 h2=>aB h2))
def JL{xs:List D}(hn:G[n]? =some (.lst xs))(hj:s9 G y xs=some j)(h:∀G',Chg [n] G G'->G'.length=G.length->G'[n]? =some (.lst (xs.eraseIdx j))->Q .non G'):M3.run (oy (.ref n) y) G Q E:=by
 refine aC (a:=D.non) (G':=G.set n (.lst (xs.eraseIdx j))) ?_ (h _ (Chg.set _ _ (by simp)) (by simp) (fy hn));unfold oy;dsimp only;rw[hn];dsimp only;rw[hj]
theorem El(fit:Lx->Bool)(hy:eqG G 8 (lD y) (lD y)=some true):∀(rx:List Lx) (hn:∀a∈rx,fit a=false->eqG G 8 (lD a) (lD y)=some false) (j:Nat),rx[j]? =some y->(∀a∈rx.take j,fit a=false)->s9 G (lD y) (rx.map lD)=some j
 | [],_,j,h,_=>by simp at h
 |a :: r,_,0,h,_=>by
  simp at h;subst h;show (match eqG G 8 (lD a) (lD a)with |some true=>some 0 |some false=>_ |none=>none)=_
  rw[hy]
 |a :: r,hn,j+1,h,ht=>by
  show (match eqG G 8 (lD a) (lD y)with |some true=>some 0 |some false=>(s9 G (lD y) (r.map lD)).map (·+1) |none=>none)=_
  rw[hn a qI_ (ht a (by simp)),El fit hy r (fun b hb=>hn b (qR_ _ hb)) j (by simpa using h) fun b hb=>ht b (by rw[List.take_succ_cons];exact qR_ _ hb)];rfl
def Iz:eqG G (k+3) (pD p) (pD p)=some true:=by
 unfold pD;simp [eqG,eqZ]
def MX(X:XR x):eqG G 8 (lD x) (lD x)=some true:=by
 have key:eqG G 7 x.2 x.2=some true:=by
  obtain⟨⟨b,l⟩,d⟩:=x;cases b with
  |true=>obtain⟨q,e,_⟩:=X.2 rfl;dsimp only at e;subst e;exact Iz
  |false=>
   have e:=X.1 rfl;dsimp only at e;subst e;cases l.pair with
   |none=>rfl
   |some q=>exact Iz
 unfold lD;generalize x.2=d at key;rw[eqG];simp only[eqZ];rw[key];simp [eqG]
def JN:∃b,eqG G (k+3) (pD p) (pD q)=some b:=by
 unfold pD;simp [eqG,eqZ]
def NH{x y:Lx}(X:XR x)(Y:XR y):∃b,eqG G 7 x.2 y.2=some b:=by
 have key:∀{x:Lx},XR x->x.2= .non\/∃q,x.2=pD q:=fun {x} X=>by
  obtain⟨⟨b,l⟩,d⟩:=x;cases b with
  |true=>obtain⟨q,e,_⟩:=X.2 rfl;exact .inr ⟨q,e⟩
  |false=>
   have e:=X.1 rfl;dsimp only at e;cases hl:l.pair with
   |none=>left;rw[e,hl];rfl
   |some q=>right;exact⟨q,by rw[e,hl];rfl⟩
 rcases key X with e |⟨p,e⟩ <;> rcases key Y with f |⟨q,f⟩ <;> rw[e,f]
 · exact⟨_,rfl⟩
 · exact⟨_,rfl⟩
 · exact⟨_,rfl⟩
 · exact JN
def Nl{x y:Lx}(X:XR x)(Y:XR y)(hx:kz i j x.1=false)(hy:kz i j y.1=true):eqG G 8 (lD x) (lD y)=some false:=by
 obtain⟨b,e⟩:=NH (G:=G) X Y;unfold kz at hx hy;simp only[Bool.and_eq_true,decide_eq_true_eq]at hy;unfold lD;rw[eqG];simp only[eqZ];rw[e,hy.1,hy.2];simp [eqG];intro _ h1 h2;rw[show x.1.2.hand=i by omega,show x.1.2.kpr=j by omega]at hx;simp at hx
end
theorem qT{α β:Type}(f:α->β):∀(l:List α) (j:Nat),(l.map f).eraseIdx j=(l.eraseIdx j).map f
 | [],_=>rfl
 |_ :: _,0=>rfl
 |a :: r,j+1=>by
  show f a :: (r.map f).eraseIdx j=f a :: (r.eraseIdx j).map f;rw[qT f r j]
structure Lq (sel:Hl->Option Nat) (G0:Hh) (A:La) (z:Sy) (le:Nat) (G:Hh) (A':La) (z':Sy) (acc:List (Nat×Pr)):Prop where
 L:LAt G A' z'
 W:WF z'.af
 P:PI z'
 N:z'.last=z.last
 dd:z'.aP=z.aP
 m:mea z'.af<=mea z.af
 l:G[le]? =some (.lst (acc.map (seD z)))
 r:endsF z' (cI sel z'.af)=endsF z (cI sel z.af)
 r2:acc++(cI sel z'.af).2=(cI sel z.af).2
 c:Chg A.foot G0 G
 to:A.to A' G0.length
 nf:le∉A'.foot
 ge:G0.length<=le
def K1:E3:=(eOr (eOp oEq (eOp oIx (ae 1) (eC (.int 0))) (eC (.str "sweep"))) (kF (eOp oEq (eOp oIx (ae 5) (eC (.int 1))) (eOp oIx (ae 1) (eC (.int 1)))) (eOp oEq (eOp oIx (ae 5) (eC (.int 2))) (eOp oIx (ae 1) (eC (.int 2))))))
section
variable{G:Hh}{Q:D->Hh->Prop}{E:Nat->Hh->Prop}{A:La}{z:Sy}
def La.Gz{A A':La}(t:A.to A' n):A'.h=A.h:=by obtain⟨q,rfl,_⟩:=t;rfl
def rO(sel:Hl->Option Nat)(hs:Sel sel)(fit:Bool×Lt->Bool)(OD:∀st,sel st=st.row.findIdx? fit)(et:t=(z.aP:Int))(L:LAt G A z)(W:WF z.af)(N:LNd z.last)(P:PI z)(hz:mea z.af<=50000)
 (hn:∀G (x y:Lx),XR x->XR y->fit x.1=false->fit y.1=true->eqG G 8 (lD x) (lD y)=some false)
 (hf:∀(x:Lx) (σ:St) G (Q:D->Hh->Prop) (E:Nat->Hh->Prop),σ[1]? =some (some (ba d))->σ[5]? =some (some (lD x))->Q (.bl (fit x.1)) G->M3.run (K1 σ) G Q E)
 (hq:∀G' A' le,Chg A.foot G G'->A.to A' G.length->LAt G' A' (endsF z (cI sel z.af))->G.length<=le->le∉A'.foot->G'[le]? =some (.lst (cp z (cI sel z.af)))->Q (.ref le) G'):M3.run (j5 [.ref A.h,ba d,.int t]) G Q E:=by
 have hlen:=lL hs (mea z.af) z.af W (qO_ _);walk_at "f";unfold m5;refine az (aY (cD fun G1 c1 l1 h1=>w_next ?_));walk_at "s";refine az (aY (w_c (w_next ?_)));walk_at "s";refine az (sG (m:=mea z.af+1) (fun σ G' m=>∃A' z' acc ag x5 x6,σ=[some (.ref A.h),some (ba d),some (.int t),some (.ref G.length),some (.bl ag),x5,x6]/\Lq sel G A z G.length G' A' z' acc/\(if ag=true then m=mea z'.af+1 else sel z'.af=none)) ?_ (by omega) ⟨A,z,[],true,none,none,rfl,⟨L.new c1,W,P,rfl,rfl,qO_ _,h1,rfl,rfl,c1.mono (by simp),La.iJ _ _,fun w=>by have:=L.lt' w;omega,qO_ _⟩,rfl⟩);rintro σ G' m ⟨A',z',acc,ag,x5,x6,rfl,I,hm⟩;have eh:A'.h=A.h:=La.Gz I.to;refine fD (w_var rfl (dP ?_));cases ag with
 |false=>refine(if_neg qC_).mpr ?_;have US:sel z'.af=none:=hm;have hr:=cF US;have r1:=I.r;have r2:=I.r2;rw[hr]at r1 r2;dsimp only at r1 r2;rw[qY_]at r2;refine w_next ?_;lia;have LL:=I.L;have e1:endsF z' (z'.af,[])=z':=rfl;rw[<-e1,r1]at LL;have ll:=I.l;rw[r2]at ll;exact hq G' A' G.length I.c I.to LL I.ge I.nf ll
 |true=>
  refine(if_pos rfl).mpr ?_;replace hm:m=mea z'.af+1:=hm;obtain⟨rx,hr,gl⟩:=I.L.lt;have S:=La.sep I.L.nd;refine az (aY (w_c (w_next ?_)));walk_at "s";have o':=I.L.o;rw[eh]at o';lia;refine aG o' rfl cu ?_;lia;refine xw gl fun G2 c2 l2 g2=>?_;refine eP g2 ?_;have Wz:∀{x:Nat},x∈A'.foot->x < G'.length:=fun h=>I.L.lt' h;have W4:=oP z'.af;have mm:=I.m;have I2:Lq sel G A z G.length G2 A' z' acc:=⟨I.L.new c2,I.W,I.P,I.N,I.dd,I.m,c2.get I.l (by simp),I.r,I.r2,I.c.trans (c2.mono (by simp)),I.to,I.nf,I.ge⟩;have WQ:G.length<=G'.length:=I.c.1;refine jI (f:=lD) (xs:=rx) (fun j σ G3=>G3[G'.length]? =some (.lst (rx.map lD))/\∃x5 x6,(G3=G2/\(∀x∈rx.take j,fit x.1=false)/\σ=[some (.ref A.h),some (ba d),some (.int t),some (.ref G.length),some (.bl false),x5,x6])\/(∃A3 z3 acc3,mea z3.af < mea z'.af/\Lq sel G A z G.length G3 A3 z3 acc3/\σ=[some (.ref A.h),some (ba d),some (.int t),some (.ref G.length),some (.bl true),x5,x6])) ?_ ?_ ?_ ⟨g2,_,_,.inl ⟨rfl,by simp,rfl⟩⟩
  · rintro j σ G3 ⟨g3,_⟩;exact qZ_ g3
  · rintro j x σ G3 hx ⟨g3,y5,y6,(⟨rfl,hP,rfl⟩ |⟨A3,z3,acc3,m3,I3,rfl⟩)⟩
    · have he:z'.af.row[j]? =some x.1:=by rw[<-hr.1,qQ_,hx];rfl
      have Xx:=hr.2 x (qD_ hx);refine aB (kB ?_);walk_at "s";refine az (aY ?_);refine hf x _ _ _ _ rfl rfl ?_;refine w_next ?_;walk_at "s";refine cJ (rz (fD (w_var rfl (dP ?_))));refine w_ite (fun c=>?_) fun c=>?_
      · refine gj (fD (w_var rfl (dP ?_)));refine oz ?_;have UI:sel z'.af=some j:=by
         rw[OD,List.findIdx?_eq_some_iff_getElem];have hj:j < z'.af.row.length:=(qB_.mp he).1;refine⟨hj,?_,fun k hk=>?_⟩
         · rw[(qB_.mp he).2];exact c
         · have VP:k < rx.length:=by have:=(qB_.mp hx).1;omega
           have e1:z'.af.row[k]? =some (rx[k]).1:=by rw[<-hr.1,qQ_,qA_ VP];rfl
           rw[(qB_.mp e1).2];simp [hP rx[k] (List.mem_take_iff_getElem.mpr ⟨k,by omega,rfl⟩)]
        have WO:G.length < G'.length:=ar I.l;have O5:=c2.get gl (by simp);have o2:=c2.get o' (by simp);have Um:G'.length∉A'.foot:=fun w=>by have:=Wz w;omega
        have mlt:A'.lt∈A'.foot:=(La.mem A').mpr (by simp);refine az (dE (MF ?_));lia;refine aG o2 rfl cu ?_;refine fM O5 ?_;lia;refine JL O5 (El (fun x=>fit x.1) (MX Xx) rx (fun a ha fa=>hn _ a x (hr.2 a ha) Xx fa c) j hx hP) fun G4 c4 l4 g4=>?_;rw[qT]at g4;have L4:LAt G4 A' (au z' ⟨z'.af.ks,z'.af.hs,z'.af.row.eraseIdx j⟩):=I2.L.kpr (S:=[A'.lt]) (rx:=rx.eraseIdx j) c4 (by simp) (c4.get I2.L.pr (n1 (Ne.symm S.l1.2.1))) (c4.get I2.L.up (n1 (Ne.symm S.l1.2.2.1))) ⟨by rw[<-qT,hr.1],fun y hy=>hr.2 y (List.mem_of_mem_eraseIdx hy)⟩ g4;have a4:=c4.get I2.l (n1 fun w=>I2.nf (w ▸ mlt));refine w_next ?_;refine az (dE (tR (w_var rfl (fM a4 (bh ?_)))));refine ai (w_var rfl (ai (w_var rfl (ai (w_var rfl (ax ?_))))));rw[<-eh];have Xa:=List.length_eraseIdx_le z'.af.row j;refine tK (A:=A') (z:=au z' ⟨z'.af.ks,z'.af.hs,z'.af.row.eraseIdx j⟩) (by rw[et,<-I.dd];rfl) Xx L4 (I.W.off j) (by show LNd z'.last;rw[I.N];exact N) ⟨I.P.w,I.P.o⟩ (I.W.rw x.1 (qD_ he)) (by show (z'.af.row.eraseIdx j).length<=_;omega) fun G5 A5 lr c5 t5 L5 b1 b2 b3=>?_;have cb:=km (s:=false) I.W he;have eb:bX (au z' ⟨z'.af.ks,z'.af.hs,z'.af.row.eraseIdx j⟩).af x.1=aE z'.af j false:=cb.symm;rw[eb]at L5 b3;have P5:PI (endsF (au z' ⟨z'.af.ks,z'.af.hs,z'.af.row.eraseIdx j⟩) (bX (au z' ⟨z'.af.ks,z'.af.hs,z'.af.row.eraseIdx j⟩).af x.1)):=PI.Dc (z:=au z' ⟨z'.af.ks,z'.af.hs,z'.af.row.eraseIdx j⟩) ⟨I.P.w,I.P.o⟩ (by show LNd z'.last;rw[I.N];exact N) x.1;rw[eb]at P5;have a5:=c5.get a4 I2.nf;have less:=bF I.W (hs _ j UI);have ce:=gW z'.af j false;have rs:=gX hs I.W UI;have al:acc.length<=50000:=by have:=congrArg List.length I.r2;rw[qN_]at this;omega
        refine gk a5 b3 ?_ fun G6 c6 l6 g6=>?_
        · unfold cp;rw[qM_,qM_];unfold aw;omega
        have e6:acc.map (seD z)++cp (au z' ⟨z'.af.ks,z'.af.hs,z'.af.row.eraseIdx j⟩) (aE z'.af j false)=(acc++(aE z'.af j false).2).map (seD z):=by unfold cp;rw[qT_,DS (a:=au z' ⟨z'.af.ks,z'.af.hs,z'.af.row.eraseIdx j⟩) (b:=z) I.N]
        rw[e6]at g6;have Tz:G.length∉A5.foot:=fun w=>by
         rcases La.lY t5 w with w |w
         · exact I2.nf w
         · omega
        have L6:LAt G6 A5 (endsF z' (aE z'.af j false)):=L5.frame c6 fun x hx w=>by simp at hx;subst hx;exact Tz w
        have el:=gi z' (aE z'.af j false);refine w_next ?_;refine aY (w_c ?_);walk_at "s";refine⟨c6.get (c5.get (c4.get g2 (n1 fun w=>Um (w ▸ mlt))) Um) (by simp;omega),_,_,.inr ⟨A5,endsF z' (aE z'.af j false),acc++(aE z'.af j false).2,?_,⟨L6,?_,P5,?_,?_,?_,g6,?_,?_,?_,?_,Tz,I.ge⟩,by rw[eh]⟩⟩
        · rw[el.2.1];omega
        · rw[el.2.1];exact gM I.W j false
        · rw[el.1];exact I.N
        · rw[el.2.2];exact I.dd
        · rw[el.2.1];omega
        · rw[el.2.1,tX,<-I.r,rs]
        · rw[el.2.1,<-I.r2,rs,List.append_assoc]
        · exact((I2.c.trans' c4 fun n hn=>by simp at hn;subst hn;exact La.lY I.to mlt).trans' c5 fun n hn=>La.lY I.to hn).trans' c6 fun n hn=>by simp at hn;subst hn;exact .inr (qO_ _)
        · exact La.xN I.to t5 (by omega)
      · lia;refine⟨g3,_,_,.inl ⟨rfl,fun y hy=>?_,rfl⟩⟩
        rw[take_succ hx]at hy;rcases qG_.mp hy with w |w
        · exact hP y w
        · simp at w;subst w;exact c
    · refine aB (kB ?_);walk_at "s";refine az (aY ?_);refine hf x _ _ _ _ rfl rfl ?_;refine w_next ?_;walk_at "s";refine cJ (rz (fD (w_var rfl (dP ?_))));refine w_ite (fun c=>?_) fun c=>?_
      · lia;exact⟨g3,_,_,.inr ⟨A3,z3,acc3,m3,I3,rfl⟩⟩
      · lia;exact⟨g3,_,_,.inr ⟨A3,z3,acc3,m3,I3,rfl⟩⟩
  · rintro σ G3 ⟨g3,y5,y6,(⟨rfl,hP,rfl⟩ |⟨A3,z3,acc3,m3,I3,rfl⟩)⟩
    · refine⟨0,by omega,A',z',acc,false,y5,y6,rfl,I2,?_⟩;rw[if_neg qC_,OD,List.findIdx?_eq_none_iff];intro e he;rw[<-hr.1]at he;obtain⟨x,hx,rfl⟩:=qH_.mp he;rw[List.take_length]at hP;exact hP x hx
    · exact⟨mea z3.af+1,by omega,A3,z3,acc3,true,y5,y6,rfl,I3,rfl⟩
end
def lW{e:Nat×Nat}(h:e∈putL l k p):e=(k,p)\/(e∈l/\e.1≠k):=by
 unfold putL at h;split at h
 · obtain⟨x,hx,ex⟩:=qH_.mp h;split at ex
   · rename_i z;subst ex;rw[z];exact .inl rfl
   · rename_i z;subst ex;exact .inr ⟨hx,z⟩
 · rename_i c;rcases qG_.mp h with z |z
   · exact .inr ⟨z,fun w=>c (List.any_eq_true.mpr ⟨e,z,qZ_ w⟩)⟩
   · simp at z;rw[z];exact .inl rfl
def xk(l:List (Nat×Nat))(k p:Nat):(k,p)∈putL l k p:=by
 unfold putL;split
 · rename_i c;obtain⟨x,hx,ex⟩:=List.any_eq_true.mp c;have:=of_decide_eq_true ex;exact qH_.mpr ⟨x,hx,by rw[if_pos this,this]⟩
 · simp
def AB(l:List (Nat×Nat))(k p:Nat):plc (putL l k p) k=some p:=by
 cases q:plc (putL l k p) k with
 |none=>
  unfold plc at q;cases q2:(putL l k p).find? fun e=>decide (e.1=k)with
  |none=>exact absurd (List.find?_eq_none.mp q2 _ (xk l k p)) (by simp)
  |some e=>rw[q2]at q;cases q
 |some n=>
  rcases lW (qL q)with w |w
  · cases w;rfl
  · exact absurd rfl w.2
def zW(h:j≠k):plc (putL l k p) j=plc l j:=by
 unfold plc putL;split
 · rename_i c0;congr 1;clear c0
   induction l with
   |nil=>rfl
   |cons e r ih=>
    rw[List.map_cons,List.find?_cons,List.find?_cons];by_cases c:e.1=k
    · rw[if_pos c];have:decide (e.1=j)=false:=qa_ fun w=>h (w ▸ c);dsimp only;rw[this];exact ih
    · rw[if_neg c];cases decide (e.1=j)with
      |true=>rfl
      |false=>exact ih
 · rw[List.find?_append];have:[(k,p)].find? (fun e=>decide (e.1=j))=none:=(by simp [Ne.symm h]);rw[this,Option.or_none]
def LNd.put{l:List (Nat×Nat)}{k n:Nat}(N:LNd l)(h:∀e∈l,e.2 < n):LNd (putL l k n):=by
 constructor
 · intro a ha b hb e;rcases lW ha with w |w <;> rcases lW hb with v |v
   · rw[w,v]
   · rw[w]at e;exact absurd e.symm v.2
   · rw[v]at e;exact absurd e w.2
   · exact N.k a w.1 b v.1 e
 · intro a ha b hb e;rcases lW ha with w |w <;> rcases lW hb with v |v
   · rw[w,v]
   · rw[w]at e;have:=h b v.1;dsimp only at e;omega
   · rw[v]at e;have:=h a w.1;dsimp only at e;omega
   · exact N.p a w.1 b v.1 e
def SI(z:Sy):Prop:=∀(q:Nat) w,z.ao[q]? =some w->gC z.af.hs z.last q w.bY=w.bY
def mF{hs:List Hd}(N:LNd last){e:Nat×Nat}(he:e∈last)(s:Option (Int×Int)):gC hs last e.2 s=match (hs[e.1]?).bind (·.pair)with
 |some p=>some p.1
 |none=>s:=by
 unfold gC;rw[Cq N (i:=e.1) (p:=e.2) he] <;> rfl
def t4(h:∀e∈last,e.2≠q)(s:Option (Int×Int)):gC hs last q s=s:=by
 unfold gC;cases qf:last.find? fun e=>decide (e.2=q)with
 |none=>rfl
 |some e=>exact absurd (v9 qf) (h e (List.mem_of_find?_eq_some qf))
def DB{z:Sy}{j:Nat}{h':Hd}{w0:Wk}(I:SI z)(N:LNd z.last)(la:∀e∈z.last,e.2 < z.ao.length)(hj:j < z.af.hs.length)(hp:h'.pair=none)(hw:w0.bY=none):stL (z.af.hs.set j h') (putL z.last j z.ao.length) (z.ao++[w0])=stL z.af.hs z.last z.ao++[.non]:=by
 have N':=N.put (k:=j) la;unfold stL;rw[List.mapIdx_append];congr 1
 · apply List.ext_getElem?;intro q;rw[List.getElem?_mapIdx,List.getElem?_mapIdx];cases hq:z.ao[q]? with
   |none=>rfl
   |some w=>
    show some (stD (gC _ _ q w.bY))=some (stD (gC _ _ q w.bY));congr 2;rw[I q w hq];have ql:=(qB_.mp hq).1;by_cases c:∃e∈putL z.last j z.ao.length,e.2=q
    · obtain⟨e,he,rfl⟩:=c;rw[mF N' he];rcases lW he with v |v
      · rw[v]at ql;dsimp only at ql;omega
      · rw[qV_ (Ne.symm v.2),<-mF N v.1];exact I e.2 w hq
    · exact t4 (fun e he w=>c ⟨e,he,w⟩) _
 · show [stD (gC _ _ (0+z.ao.length) w0.bY)]=[.non];rw[Nat.zero_add,hw];have:=mF (hs:=z.af.hs.set j h') N' (xk z.last j z.ao.length) none;dsimp only at this;rw[this,qU_ hj];show [stD (match h'.pair with |some p=>some p.1 |none=>none)]=_
   rw[hp];rfl
section
variable{G:Hh}{Q:D->Hh->Prop}{E:Nat->Hh->Prop}{A:La}{z:Sy}
def KG{a b:List D}(ha:a≠ [])(hl:a.length+b.length<=aw)(h:Q (.tup (a++b)) G):M3.run (eM (.tup a) (.tup b)) G Q E:=by
 refine aC (a:=D.tup (a++b)) (G':=G) ?_ h;show (if a≠ []/\a.length+b.length<=aw then ret (D.tup (a++b))else M3.fail) G=_;rw[if_pos ⟨ha,hl⟩];rfl
def pM{ts:List D}{rd:Bool}{v:Option Int}{j:Nat}{h:Hd}{t:Int}(t0:atI ts 0=some (.str (word rd)))(t1:atI ts 1=some (.int (j:Int)))(t2:atI (ts++[.non]) 2=some (oD v))(tn:ts≠ [])(tl:ts.length<=3)(er:rd=decide (v=none))(et:t=(z.aP:Int))
 (L:LAt G A z) (W:WF z.af) (N:LNd z.last) (I:SI z) (la:∀e∈z.last,e.2 < z.ao.length) (hi:z.af.hs[j]? =some h) (hz:z.af.row.length<=100000) (hw:z.ao.length<=100000)
 (hb:h.atw=true->Q (.str "busy") G) (hq:h.atw=false->∀G' A',Chg A.foot G G'->A.to A' G.length->LAt G' A' (kR (au z (eJ z.af j h v)) j rd v)->Q (.int (z.ao.length:Int)) G'):M3.run (eT [.ref A.h,.tup ts,.int t]) G Q E:=by
 have S:=La.sep L.nd;obtain⟨d,q,hd,sH,md,mq,gd,hx,hh,gq⟩:=L.hand hi;have sd:=S.dq d (.inl md);obtain⟨rx,hr,gl⟩:=L.lt;have il:j < z.af.hs.length:=(qB_.mp hi).1;unfold iN at gd;walk_at "f";unfold ig;lia;refine aG L.o rfl jy ?_;lia;refine aS t1 ?_;refine bL L.hd (bD hd) ?_;refine w_next ?_;walk_at "s";refine az (cJ (ak (Q:=fun c G1=>c=true/\G1=G) ?_ ?_))
 · lia;refine aS t0 ?_
   lia;refine w_eq vD ?_
   lia;cases rd with
   |false=>
    have e1:decide (word false="write")=true:=by decide +kernel
    rw[e1];lia;exact⟨rfl,rfl⟩
   |true=>
    have e1:decide (word true="write")=false:=by decide +kernel
    rw[e1];lia;refine aS t0 ?_;lia;refine w_eq vD ?_;have e2:decide (word true="read")=true:=by decide +kernel
    rw[e2];lia;exact⟨rfl,rfl⟩
 rintro c G1 ⟨rfl,rfl⟩;refine df ?_;lia;refine aG gd rfl ow ?_;lia;cases ha:h.atw with
 |true=>
  have e0:(!decide (wdD h= .non))=true:=by unfold wdD;rw[ha];rfl
  rw[e0];refine df ?_;lia;exact hb ha
 |false=>
  have e0:(!decide (wdD h= .non))=false:=by unfold wdD;rw[ha];rfl
  rw[e0];refine dC ?_;lia;refine aS t0 ?_;lia;refine cq gd rfl ?_ fun G2 c2 l2 g2=>?_
  · unfold bU plK;cases plc z.last j <;> exact qP_ rfl
  rw[vw]at g2;lia;refine cq g2 rfl ?_ fun G3 c3 l3 g3=>?_
  · unfold bU plK;cases plc z.last j <;> exact qP_ rfl
  rw[zV]at g3;refine w_next ?_;refine az (ph (jm fun G4 c4 l4 g4=>?_));have VL:=c4.get g3 (by simp);lia;refine cq VL rfl ?_ fun G5 c5 l5 g5=>?_
  · unfold bU plK;cases plc z.last j <;> exact qP_ rfl
  rw[wR]at g5;lia;refine aG g5 rfl qN ?_;lia;refine cq g5 rfl ?_ fun G6 c6 l6 g6=>?_
  · unfold bU plK;cases plc z.last j <;> exact qP_ rfl
  rw[zZ]at g6;have C6:Chg [d] G1 G6:=(c2.trans c3).trans ((c4.mono (by simp)).trans (c5.trans c6));have o6:=C6.get L.o (n1 (Ne.symm sd.1));have w6:=C6.get L.wk (n1 (Ne.symm sd.2.2.2.2.2.1));have s6:=C6.get L.st (n1 (Ne.symm sd.2.2.2.2.2.2));lia;refine aG o6 rfl jr ?_;refine cX w6 ?_;lia;refine cq g6 rfl ?_ fun G7 c7 l7 g7=>?_
  · unfold bU plK;cases plc z.last j <;> exact qP_ rfl
  rw[EA,qM_]at g7;have o7:=c7.get o6 (n1 (Ne.symm sd.1));have w7:=c7.get w6 (n1 (Ne.symm sd.2.2.2.2.2.1));have s7:=c7.get s6 (n1 (Ne.symm sd.2.2.2.2.2.2));lia;refine aG o7 rfl jr ?_;refine fM w7 ?_;lia;refine aS t1 ?_;lia;refine aS t0 ?_;lia;refine KG tn (by simp [aw];omega) ?_;lia;refine aS t2 ?_;lia;refine dm w7 (by rw[qM_];unfold aw;omega) fun G8 c8 l8 g8=>?_;have o8:=c8.get o7 (n1 (Ne.symm S.l4.1));have s8:=c8.get s7 (n1 (Ne.symm S.l4.2.2));have VG:=c8.get g7 (n1 sd.2.2.2.2.2.1);lia;refine aG o8 rfl oS ?_;refine fM s8 ?_;lia;refine dm s8 (by unfold stL;rw[List.length_mapIdx];unfold aw;omega) fun G9 c9 l9 g9=>?_;have Tc:=c9.get VG (n1 sd.2.2.2.2.2.2);have C:Chg [d,A.wk,A.st] G1 G9:=(C6.mono (by simp)).trans ((c7.mono (by simp)).trans ((c8.mono (by simp)).trans (c9.mono (by simp))));have ld:=L.lt' ((La.mem A).mpr (.inr (.inr (.inr (.inr (.inr (.inr (.inr (.inl md)))))))));have n3:G3.length≠d:=by omega
  have Wd:G9[G3.length]? =some (.dK []):=c9.get (c8.get (c7.get (c6.get (c5.get g4 (n1 n3)) (n1 n3)) (n1 n3)) (by simp;intro w;have:=L.lt' ((La.mem A).mpr (.inr (.inr (.inr (.inr (.inr (.inl rfl)))))));omega)) (by simp;intro w;have:=L.lt' ((La.mem A).mpr (.inr (.inr (.inr (.inr (.inr (.inr (.inl rfl))))))));omega);have L9:=L.upd (S:=[d,A.wk,A.st]) (h':=bz h v) (last':=putL z.last j z.ao.length) (ws':=z.ao++[⟨j,rd,v,z.aP,none,none⟩]) (row':=z.af.row) (hx:=[]) (q':=G3.length) (rx:=rx) hi hd sH C (by simp) ?_ Wd ⟨rfl,by simp⟩ (.inr fun w=>by have:=L.lt' w;omega) ?_ ?_ hr (C.get gl (by simp;exact⟨Ne.symm sd.2.2.2.2.1,S.l1.2.2.2.2.1,S.l1.2.2.2.2.2⟩)) fun i TQ=>zW TQ;rotate_left
  · unfold iN;rw[AB,Tc];unfold bz roundF wdD;dsimp only;rw[if_pos rfl,<-er];rfl
  · rw[DB I N la il rfl rfl];exact g9
  · rw[c9.get g8 (n1 S.l4.2.2),qT_];show _=some (O.lst (_++[fS _]));unfold fS;dsimp only;rw[et];rfl
  lia;refine aS t1 ?_
  lia;refine yY (A:={A with qs:=A.qs.set j G3.length}) (z:=⟨{z.af with hs:=z.af.hs.set j (bz h v),row:=z.af.row},z.ao++[⟨j,rd,v,z.aP,none,none⟩],putL z.last j z.ao.length,z.aP⟩) (h:=bz h v) rfl L9 (W.hk _ h hi).1 (W.hk _ h hi).2.1 W.ksz (qU_ il) hz fun Ga ca WH=>?_
  lia;refine aG (ca.get Tc (n1 sd.2.2.2.2.1)) rfl ia ?_
  lia;refine hq ha Ga _ ?_ ⟨_,rfl,fun x hx=>?_⟩ WH
  · exact(C.mono (fun x hx=>by
     simp at hx;rcases hx with rfl |rfl |rfl
     · exact(La.mem A).mpr (by simp [md])
     · exact(La.mem A).mpr (by simp)
     · exact(La.mem A).mpr (by simp))).trans (ca.mono fun x hx=>by
     simp at hx;subst hx
     exact(La.mem A).mpr (by simp))
  · rcases List.mem_or_eq_of_mem_set hx with w |w
    · exact .inl ((La.mem A).mpr (by simp [w]))
    · right;subst w;omega
def dJ(e:decide (a=b)=c)(h:Q (.bl c) G):M3.run (oEq (.str a) (.str b)) G Q E:=w_eq (b:=c) (by rw[<-e];rfl) h
def IA(e:decide (a=b)=c)(h:Q (.bl (!c)) G):M3.run (oNe (.str a) (.str b)) G Q E:=kE (b:=c) (by rw[<-e];rfl) h
def FL{xs:List D}(h1:G[i]? =some (.lst xs))(h2:G[j]? =some (.lst []))(h:Q (.bl xs.isEmpty) G):M3.run (oEq (.ref i) (.ref j)) G Q E:=by
 refine w_eq (b:=xs.isEmpty) ?_ h;show (match M3.listOf G i,M3.listOf G j with
  |some a,some b=>if a.length=b.length then eqZ (eqG G 7) a b else some false
  |_,_=>none)=_
 have e1:M3.listOf G i=some xs:=by unfold M3.listOf;rw[h1]
 have e2:M3.listOf G j=some []:=by unfold M3.listOf;rw[h2]
 rw[e1,e2];cases xs with
 |nil=>rfl
 |cons a r=>rfl
def AnL(A:La)(n:Nat)(G:Hh)(a:An)(v:D):Prop:=match a with
 | .one d=>v=d
 | .lst ds=>∃l,v= .ref l/\n<=l/\l∉A.foot/\G[l]? =some (.lst ds)
def wU{j:Nat}{h:Hd}{t:Int}(L:LAt G A z)(W:WF z.af)(hi:z.af.hs[j]? =some h)(hz:z.af.row.length<=100000)
 (hb:h.atw=false->Q (.str "idle") G) (hq:h.atw=true->∀G',Chg A.foot G G'->LAt G' A (au z {z.af with row:=newRow z.af h})->Q (.int ((aR h).length:Int)) G'):M3.run (eT [.ref A.h,.tup [.str "again",.int (j:Int)],.int t]) G Q E:=by
 have S:=La.sep L.nd;obtain⟨d,q,hd,sH,md,mq,gd,hx,hh,gq⟩:=L.hand hi;unfold iN at gd;walk_at "f";unfold ig;lia;refine aG L.o rfl jy ?_;lia;refine bL L.hd (bD hd) ?_;lia;refine dJ (c:=false) (by decide +kernel) ?_;lia;refine dJ (c:=false) (by decide +kernel) ?_;lia;refine aG gd rfl ow ?_;lia;cases ha:h.atw with
 |false=>
  have e0:decide (wdD h= .non)=true:=by unfold wdD;rw[ha];rfl
  rw[e0];refine df ?_;lia;exact hb ha
 |true=>
  have e0:decide (wdD h= .non)=false:=by unfold wdD;rw[ha];rfl
  rw[e0];refine dC ?_;lia;refine dJ (c:=true) (by decide +kernel) ?_;lia;refine yY rfl L (W.hk _ h hi).1 (W.hk _ h hi).2.1 W.ksz hi hz fun G' c' L'=>?_;lia;exact hq ha G' (c'.mono fun x hx=>by simp at hx;subst hx;exact(La.mem A).mpr (by simp)) L'
def zl{h:Hd}(L:LAt G A z)(P:PI z)(hi:z.af.hs[j]? =some h)
 (hb:h.atw=false->Q (.str "idle") G) (hq:h.atw=true->∀G',Chg A.foot G G'->LAt G' A (au z {z.af with hs:=z.af.hs.set j {h with atw:=false}})->Q (.int (lastOf z.last j:Int)) G'):M3.run (eT [.ref A.h,.tup [.str "quit",.int (j:Int)],.int t]) G Q E:=by
 have S:=La.sep L.nd;obtain⟨d,q,hd,sH,md,mq,gd,hx,hh,gq⟩:=L.hand hi;have sd:=S.dq d (.inl md);have Ow:q≠d:=fun w=>S.x d md q mq w.symm;obtain⟨rx,hr,gl⟩:=L.lt;unfold iN at gd;walk_at "f";unfold ig;lia;refine aG L.o rfl jy ?_;lia;refine bL L.hd (bD hd) ?_;lia;refine dJ (c:=false) (by decide +kernel) ?_;lia;refine dJ (c:=false) (by decide +kernel) ?_;lia;refine aG gd rfl ow ?_;lia;cases ha:h.atw with
 |false=>
  have e0:decide (wdD h= .non)=true:=by unfold wdD;rw[ha];rfl
  rw[e0];refine df ?_;lia;exact hb ha
 |true=>
  have e0:decide (wdD h= .non)=false:=by unfold wdD;rw[ha];rfl
  rw[e0];refine dC ?_;obtain⟨p,w,pl,hw,_,_⟩:=P.w _ h hi ha;rw[pl]at gd;lia;refine dJ (c:=false) (by decide +kernel) ?_;lia;refine cq gd rfl (show _ < aw from qP_ rfl) fun G1 c1 l1 g1=>?_;rw[vw]at g1;lia;refine aG g1 rfl ia ?_;lia;have L1:=L.upd (S:=[d]) (h':={h with atw:=false}) (last':=z.last) (ws':=z.ao) (row':=z.af.row) (rx:=rx) (q':=q) hi hd sH c1 (by simp) (by unfold iN;rw[pl];exact g1) (c1.get gq (n1 Ow)) hh (.inl rfl) (by rw[we (h':={h with atw:=false}) hi rfl];exact c1.get L.st (n1 (Ne.symm sd.2.2.2.2.2.2))) (c1.get L.wk (n1 (Ne.symm sd.2.2.2.2.2.1))) hr (c1.get gl (n1 (Ne.symm sd.2.2.2.2.1))) fun _ _=>rfl;rw[cP sH]at L1;have:=hq ha G1 (c1.mono fun x hx=>by simp at hx;subst hx;exact(La.mem A).mpr (by simp [md])) L1;rw[oI pl]at this;exact this
def l0(t0:atI ts 0=some (.str nm))(n:decide (nm="sweep")=false/\decide (nm="pass")=false/\decide (nm="stop")=false/\decide (nm="wake")=false/\decide (nm="carry")=false)(h:M3.run (eT [.ref A.h,.tup ts,.int t]) G Q E):M3.run (bR [.ref A.h,.tup ts,.int t]) G Q E:=by
 obtain⟨n1,n2,n3,n4,n5⟩:=n;walk_at "f";unfold cZ;lia;refine aS t0 ?_;lia;refine dJ n1 ?_;lia;refine aS t0 ?_;lia;refine dJ n2 ?_;lia;refine aS t0 ?_;lia;refine dJ n3 ?_;lia;refine aS t0 ?_;lia;refine dJ n4 ?_;lia;refine aS t0 ?_;lia;refine IA n5 ?_;lia;refine ak h fun d G' q=>?_;lia;exact q
def rZ{nm:Str}{j:Nat}{k:Kr}{b:Bool}{t:Int}(n1:decide (nm="sweep")=false)(n2:decide (nm="pass")=false)(n3:decide (nm="stop")= !b)(n4:decide (nm="wake")=b)(L:LAt G A z)(hk:z.af.ks[j]? =some k)
 (hq:∀G',Chg A.foot G G'->LAt G' A (au z {z.af with ks:=z.af.ks.set j {k with up:=b}})->Q (.bl (!(k.up==b))) G'):M3.run (bR [.ref A.h,.tup [.str nm,.int (j:Int)],.int t]) G Q E:=by
 have S:=La.sep L.nd;obtain⟨rx,hr,gl⟩:=L.lt;have lk:=(qB_.mp hk).1;walk_at "f";unfold cZ;lia;refine dJ n1 ?_;lia;refine dJ n2 ?_;refine gK ?_;refine dC ?_;refine kU (w_next ?_);refine az (cJ (ak (Q:=fun c G1=>c=true/\G1=G) ?_ ?_))
 · lia;refine dJ n3 ?_
   lia;cases b with
   |false=>lia;exact⟨rfl,rfl⟩
   |true=>refine dC ?_;lia;refine dJ n4 ?_;lia;exact⟨rfl,rfl⟩
 rintro c G1 ⟨rfl,rfl⟩;refine df ?_;lia;refine aG L.o rfl tF ?_;lia;refine bL L.up (bD hk) ?_;lia;refine dJ n4 ?_;lia;refine aG L.o rfl tF ?_;lia;refine qK L.up (nU (by rw[qM_];exact lk)) fun G2 c2 l2 g2=>?_;have Td:G2[A.up]? =some (.lst ((z.af.ks.set j {k with up:=b}).map fun k=>.bl k.up)):=by rw[g2,List.map_set]
 lia;refine aG (c2.get L.o (KS.n1 (Ne.symm S.l3.1))) rfl tF ?_
 lia;refine bL Td (bD (qU_ lk)) ?_
 refine kE Ij ?_;lia;refine hq G2 (c2.mono fun x hx=>by simp at hx;subst hx;exact(La.mem A).mpr (by simp)) ?_;refine L.kpr (S:=[A.up]) (rx:=rx) c2 (by simp) ?_ Td hr (c2.get gl (KS.n1 S.l1.2.2.1));rw[oK (f:=fun k:Kr=>pD k.pair) (b:={k with up:=b}) hk rfl];exact c2.get L.pr (KS.n1 S.l2.2.1)
def wy(et:t=(z.aP:Int))(L:LAt G A z)(W:WF z.af)(N:LNd z.last)(P:PI z)(hz:z.af.row.length<=100000)
 (hb:z.af.row=[]->∀G',Chg [] G G'->Q (.str "no letter") G') (hq:z.af.row≠ []->∀G' A',Chg A.foot G G'->A.to A' G.length->LAt G' A' (endsF z (aE z.af (qo z n) s))->Q (nB (cp z (aE z.af (qo z n) s))) G'):M3.run (bR [.ref A.h,ba (.ca n s),.int t]) G Q E:=by
 have S:=La.sep L.nd;obtain⟨rx,hr,gl⟩:=L.lt;have Fb:rx.length=z.af.row.length:=by rw[<-hr.1,qM_]
 have mlt:A.lt∈A.foot:=(La.mem A).mpr (by simp);unfold ba;walk_at "f";unfold cZ;lia;refine dJ (c:=false) (by decide +kernel) ?_;lia;refine dJ (c:=false) (by decide +kernel) ?_;lia;refine dJ (c:=false) (by decide +kernel) ?_;lia;refine dJ (c:=false) (by decide +kernel) ?_;lia;refine IA (c:=true) (by decide +kernel) ?_;refine gK (iD ?_);refine kU (w_next ?_);refine az (cJ (mP (aQ (aQ (w_var rfl (w_c (aG L.o rfl cu (cD fun G1 c1 l1 g1=>?_))))))));have IK:=c1.get gl (by simp);have L1:=L.new c1;refine FL IK g1 ?_;refine gK ?_;cases hrw:z.af.row with
 |nil=>
  have e:rx=[]:=by cases rx with |nil=>rfl |cons _ _=>rw[hrw]at Fb;simp at Fb
  rw[e];refine df ?_;lia;exact hb hrw G1 c1
 |cons e0 r0=>
  have ne:z.af.row≠ []:=by rw[hrw];simp
  have lp:0 < z.af.row.length:=by rw[hrw];simp
  have ee:(rx.map lD).isEmpty=false:=by
   cases rx with
   |nil=>simp at Fb;omega
   |cons _ _=>rfl
  rw[ee];refine dC ?_;have h0:0<=n % (z.af.row.length:Int):=Int.emod_nonneg _ (by omega);have h1:n % (z.af.row.length:Int) < z.af.row.length:=Int.emod_lt_of_pos _ (by omega);have ep:n % (z.af.row.length:Int)=(qo z n:Int):=by unfold qo;omega
  have hp:qo z n < z.af.row.length:=by omega
  replace hq:=hq ne;generalize qo z n=p at ep hp hq;have hx:rx[p]? =some (rx[p]'(by omega)):=qA_ _;generalize rx[p]'(by omega)=x at hx;have he:z.af.row[p]? =some x.1:=by rw[<-hr.1,qQ_,hx];rfl
  have Xx:=hr.2 x (qD_ hx);have ok:=W.rw x.1 (qD_ he);have cb:=km (s:=s) W he;lia;refine aG L1.o rfl cu ?_;refine cX IK ?_;rw[qM_,Fb];refine nE (by omega) ?_;rw[ep];lia;refine aG L1.o rfl cu ?_;lia;refine bL IK (bD hx) ?_;have fin:∀G2,Chg A.foot G G2->G.length<=G2.length->LAt G2 A (au z ⟨z.af.ks,z.af.hs,bI z.af p s⟩)->M3.run (fu [.ref A.h,lD x,.int t]) G2 (fun v G3=>∃lr A3,v= .ref lr/\Chg A.foot G G3/\A.to A3 G.length/\LAt G3 A3 (endsF z (aE z.af p s))/\G3[lr]? =some (.lst (cp z (aE z.af p s)))) E:=by
   intro G2 c2 l2 L2;have ol:(bI z.af p s).length<=z.af.row.length:=by
    unfold bI;split
    · exact qO_ _
    · exact List.length_eraseIdx_le _ _
   have W2:WF ⟨z.af.ks,z.af.hs,bI z.af p s⟩:=by
    unfold bI;split
    · exact W
    · exact W.off p
   refine tK (A:=A) (z:=au z ⟨z.af.ks,z.af.hs,bI z.af p s⟩) et Xx L2 W2 N ⟨P.w,P.o⟩ ok (by show (bI z.af p s).length<=_;omega) fun G3 A3 lr c3 t3 L3 b1 b2 b3=>?_;have eb:bX (au z ⟨z.af.ks,z.af.hs,bI z.af p s⟩).af x.1=aE z.af p s:=cb.symm;rw[eb]at L3 b3;refine⟨lr,A3,rfl,c2.trans c3,?_,L3,b3⟩;obtain⟨qs,e1,e2⟩:=t3;exact⟨qs,e1,fun x hx=>(e2 x hx).elim .inl fun w=>.inr (by omega)⟩
  have last:∀G2,Chg A.foot G G2->G.length<=G2.length->LAt G2 A (au z ⟨z.af.ks,z.af.hs,bI z.af p s⟩)->∀σ,σ[0]? =some (some (.ref A.h))->σ[5]? =some (some (lD x))->σ[2]? =some (some (.int t))->M3.run (aA (eOp oIx (eOp eM (aq fu (aa (ae 0) (aa (ae 5) (aa (ae 2) ah)))) (bW (aa (eC .non) ah))) (eC (.int 0))) σ) G2 (fun p G1=>M3.run (fK p) G1 Q E) E:=by
   intro G2 c2 l2 L2 σ s0 s5 s2;refine bB (aQ (aQ (bh (ai (w_var s0 (ai (w_var s5 (ai (w_var s2 (ax ?_))))))))));refine ak (fin G2 c2 l2 L2) ?_;rintro v G3 ⟨lr,A3,rfl,c3,t3,L3,g3⟩;refine hV (ai (w_c (ax ⟨qP_ rfl,fun G4 c4 l4 g4=>?_⟩)));have ce:=gW z.af p s;have ed:(cp z (aE z.af p s)).length<=1:=by unfold cp;rw[qM_];exact ce
   refine vj (c4.get g3 (by simp)) g4 (by simp [aw];omega) fun G5 c5 l5 g5=>?_;refine w_c ?_;refine bL (d:=nB (cp z (aE z.af p s))) g5 ?_ ?_
   · cases cp z (aE z.af p s)with
     |nil=>rfl
     |cons a r=>show (ixN (a :: r++[D.non]).length ((0:Nat):Int)).bind _=_;rw[nU (by simp)];rfl
   · lia;exact hq G5 A3 (c3.trans ((c4.trans c5).mono (by simp))) t3 ((L3.new c4).new c5)
  have Mj:Chg A.foot G G1:=c1.mono (by simp);lia;cases s with
  |true=>refine dC ?_;refine kU (w_next ?_);exact last G1 Mj Mj.1 L1 _ rfl rfl rfl
  |false=>refine df ?_;lia;refine aG L1.o rfl cu ?_;refine fM IK ?_;lia;refine uk IK (k:=p) (y:=lD x) (by rw[qQ_,hx];rfl) (by rw[qM_];omega) fun G2 c2 l2 g2=>?_;rw[qT]at g2;refine w_next ?_;have L2:LAt G2 A (au z ⟨z.af.ks,z.af.hs,z.af.row.eraseIdx p⟩):=L1.kpr (S:=[A.lt]) (rx:=rx.eraseIdx p) c2 (by simp) (c2.get L1.pr (n1 (Ne.symm S.l1.2.1))) (c2.get L1.up (n1 (Ne.symm S.l1.2.2.1))) ⟨by rw[<-qT,hr.1],fun y hy=>hr.2 y (List.mem_of_mem_eraseIdx hy)⟩ g2;have N6:Chg A.foot G G2:=Mj.trans (c2.mono fun x hx=>by simp at hx;subst hx;exact mlt);exact last G2 N6 N6.1 L2 _ rfl rfl rfl
def ya(et:t=(z.aP:Int))(L:LAt G A z)(W:WF z.af)(N:LNd z.last)(P:PI z)(hz:mea z.af<=50000)
 (hq:∀G' A' le,Chg A.foot G G'->A.to A' G.length->LAt G' A' (endsF z (cI bZ z.af))->G.length<=le->le∉A'.foot->G'[le]? =some (.lst (cp z (cI bZ z.af)))->Q (.ref le) G'):M3.run (bR [.ref A.h,ba .sw,.int t]) G Q E:=by
 walk_at "f";unfold cZ ba;lia;refine dJ (c:=true) (by decide +kernel) ?_;lia;refine rO (d:= .sw) bZ cO (fun _=>true) (fun st=>?_) et L W N P hz (fun _ _ _ _ _ w=>by cases w) (fun x σ G Q E s1 s5 h=>?_) fun G' A' le a b c d e f=>?_
 · unfold bZ;cases st.row with
   |nil=>rfl
   |cons a r=>rw[if_neg (by simp)];rfl
 · unfold K1;refine D1 (aQ (aQ (w_var s1 (w_c ?_))));unfold ba;lia;refine dJ (c:=true) (by decide +kernel) ?_;lia;exact h
 · lia;exact hq G' A' le a b c d e f
def zB(et:t=(z.aP:Int))(L:LAt G A z)(W:WF z.af)(N:LNd z.last)(P:PI z)(hz:mea z.af<=50000)
 (hq:∀G' A' le,Chg A.foot G G'->A.to A' G.length->LAt G' A' (endsF z (cI (bJ i j) z.af))->G.length<=le->le∉A'.foot->G'[le]? =some (.lst (cp z (cI (bJ i j) z.af)))->Q (.ref le) G'):M3.run (bR [.ref A.h,ba (.pa i j),.int t]) G Q E:=by
 walk_at "f";unfold cZ ba;lia;refine dJ (c:=false) (by decide +kernel) ?_;lia;refine dJ (c:=true) (by decide +kernel) ?_;lia;refine rO (d:= .pa i j) (bJ i j) (cY i j) (kz i j) (fun st=>rfl) et L W N P hz (fun _ _ _ X Y a b=>Nl X Y a b) (fun x σ G Q E s1 s5 h=>?_) fun G' A' le a b c d e f=>?_
 · unfold K1;refine D1 (aQ (aQ (w_var s1 (w_c ?_))));unfold ba;lia;refine dJ (c:=false) (by decide +kernel) ?_;refine gK (dC ?_);refine zf (aQ (aQ (w_var s5 (w_c ?_))));unfold lD at s5 ⊢;refine aS rfl ?_;refine aQ (w_var s1 (w_c (aS rfl ?_)));refine w_eq eq_int ?_;refine gK ?_;have e:kz i j x.1=(decide ((x.1.2.hand:Int)=(i:Int))&&decide ((x.1.2.kpr:Int)=(j:Int))):=by
    unfold kz;congr 1 <;> exact decide_eq_decide.mpr ⟨fun w=>by omega,fun w=>by omega⟩
   rw[e]at h;refine w_ite (fun c=>?_) fun c=>?_
   · rw[c,Bool.true_and]at h;refine aQ (aQ (w_var s5 (w_c (aS rfl ?_))));refine aQ (w_var s1 (w_c (aS rfl ?_)));exact w_eq eq_int h
   · rw[c,Bool.false_and]at h;exact jA h
 · lia;exact hq G' A' le a b c d e f
def vx(hd:DIn z.af.ks.length z.af.hs.length d)(et:t=(z.aP:Int))(L:LAt G A z)(I:Iv z)(hz:z.aP<=1000)(N:LNd z.last)(P:PI z)(Si:SI z)
 (hq:∀G' A' v,Chg A.foot G G'->A.to A' G.length->LAt G' A' (bc z d).1->AnL A' G.length G' (bc z d).2 v->Q v G'):M3.run (bR [.ref A.h,ba d,.int t]) G Q E:=by
 have W:=I.W.W;have im:=I.m;have iw:=I.w;have hm:mea z.af<=50000:=by omega
 have Hz:z.af.row.length<=100000:=by have:=oP z.af;omega
 have la:∀e∈z.last,e.2 < z.ao.length:=fun e he=>(I.W.la e he).2;have R0:A.to A G.length:=La.iJ _ _;have C0:Chg A.foot G G:=Chg.refl _ _;have hand:∀i:Int,0<=i/\i < (z.af.hs.length:Int)->∃(j:Nat) (h:Hd),i=(j:Int)/\j < z.af.hs.length/\z.af.hs[j]? =some h:=fun i hi=>by
  have:i.toNat < z.af.hs.length:=by omega
  exact⟨i.toNat,_,by omega,this,qA_ this⟩
 have kpr:∀i:Int,0<=i/\i < (z.af.ks.length:Int)->∃(j:Nat) (h:Kr),i=(j:Int)/\j < z.af.ks.length/\z.af.ks[j]? =some h:=fun i hi=>by
  have:i.toNat < z.af.ks.length:=by omega
  exact⟨i.toNat,_,by omega,this,qA_ this⟩
 cases d with
 |wr i v=>
  obtain⟨j,h,rfl,hj,hi⟩:=hand i hd;have er:bc z (.wr j v)=if h.atw then (z,.one (.str (wordOf 1004)))else (kR (au z (eJ z.af j h (some v))) j false (some v),.one (.int (z.ao.length:Int))):=by unfold bc doneF cz;dsimp only;rw[dk rfl hj];dsimp only;rw[hi];dsimp only;cases h.atw <;> rfl
  refine l0 (nm:="write") rfl (by decide +kernel) ?_;refine pM (rd:=false) (v:=some v) (j:=j) rfl rfl rfl (by simp) (by simp) rfl et L W N Si la hi Hz (by omega) (fun ha=>?_) fun ha G' A' c t L'=>?_
  · rw[er,if_pos ha]at hq;exact hq G A _ C0 R0 L rfl
  · rw[er,if_neg (by rw[ha];exact qC_)]at hq;exact hq G' A' _ c t L' rfl
 |rd i=>
  obtain⟨j,h,rfl,hj,hi⟩:=hand i hd;have er:bc z (.rd j)=if h.atw then (z,.one (.str (wordOf 1004)))else (kR (au z (eJ z.af j h none)) j true none,.one (.int (z.ao.length:Int))):=by unfold bc doneF cz;dsimp only;rw[dk rfl hj];dsimp only;rw[hi];dsimp only;cases h.atw <;> rfl
  refine l0 (nm:="read") rfl (by decide +kernel) ?_;refine pM (rd:=true) (v:=none) (j:=j) rfl rfl rfl (by simp) (by simp) rfl et L W N Si la hi Hz (by omega) (fun ha=>?_) fun ha G' A' c t L'=>?_
  · rw[er,if_pos ha]at hq;exact hq G A _ C0 R0 L rfl
  · rw[er,if_neg (by rw[ha];exact qC_)]at hq;exact hq G' A' _ c t L' rfl
 |ca n s=>
  refine wy et L W N P Hz (fun hr G' c=>?_) fun hr G' A' c t L'=>?_
  · have er:bc z (.ca n s)=(z,.one (.str (wordOf 1003))):=by
     unfold bc doneF;dsimp only;rw[if_pos hr]
    rw[er]at hq;exact hq G' A _ (c.mono (by simp)) R0 (L.new c) rfl
  · have er:bc z (.ca n s)=(endsF z (aE z.af (qo z n) s),.one (nB (cp z (aE z.af (qo z n) s)))):=by
     unfold bc doneF;dsimp only;rw[if_neg hr]
    rw[er]at hq;exact hq G' A' _ c t L' rfl
 |pa i k=>
  obtain⟨j,h,rfl,hj,hi⟩:=hand i hd.1;obtain⟨l,g,rfl,hl,hg⟩:=kpr k hd.2;have er:bc z (.pa j l)=(endsF z (cI (bJ j l) z.af),.lst (cp z (cI (bJ j l) z.af))):=by unfold bc doneF;dsimp only;rw[dk rfl hj,dk rfl hl]
  rw[er]at hq;exact zB et L W N P hm fun G' A' le a b c d e f=>hq G' A' _ a b c ⟨le,rfl,d,e,f⟩
 |sw=>exact ya et L W N P hm fun G' A' le a b c d e f=>hq G' A' _ a b c ⟨le,rfl,d,e,f⟩
 |ag i=>
  obtain⟨j,h,rfl,hj,hi⟩:=hand i hd;have er:bc z (.ag j)=if h.atw then (au z {z.af with row:=newRow z.af h},.one (.int ((aR h).length:Int)))else (z,.one (.str (wordOf 1005))):=by unfold bc doneF iu;dsimp only;rw[dk rfl hj];dsimp only;rw[hi];dsimp only;cases h.atw <;> rfl
  refine l0 (nm:="again") rfl (by decide +kernel) ?_;refine wU (j:=j) L W hi Hz (fun ha=>?_) fun ha G' c L'=>?_
  · rw[er,if_neg (by rw[ha];exact qC_)]at hq;exact hq G A _ C0 R0 L rfl
  · rw[er,if_pos ha]at hq;exact hq G' A _ c R0 L' rfl
 |qu i=>
  obtain⟨j,h,rfl,hj,hi⟩:=hand i hd;have er:bc z (.qu j)=if h.atw then (au z {z.af with hs:=z.af.hs.set j {h with atw:=false}},.one (.int (lastOf z.last j:Int)))else (z,.one (.str (wordOf 1005))):=by unfold bc doneF iu;dsimp only;rw[dk rfl hj];dsimp only;rw[hi];dsimp only;cases h.atw <;> rfl
  refine l0 (nm:="quit") rfl (by decide +kernel) ?_;refine zl (j:=j) L P hi (fun ha=>?_) fun ha G' c L'=>?_
  · rw[er,if_neg (by rw[ha];exact qC_)]at hq;exact hq G A _ C0 R0 L rfl
  · rw[er,if_pos ha]at hq;exact hq G' A _ c R0 L' rfl
 |st i=>
  obtain⟨j,k,rfl,hj,hk⟩:=kpr i hd;have er:bc z (.st j)=(au z {z.af with ks:=z.af.ks.set j {k with up:=false}},.one (.bl k.up)):=by unfold bc doneF pH;dsimp only;rw[dk rfl hj];dsimp only;rw[hk]
  rw[er]at hq;refine rZ (nm:="stop") (b:=false) (by decide +kernel) (by decide +kernel) (by decide +kernel) (by decide +kernel) L hk fun G' c L'=>?_;refine hq G' A _ c R0 L' ?_;show D.bl _=D.bl _;cases k.up <;> rfl
 |wa i=>
  obtain⟨j,k,rfl,hj,hk⟩:=kpr i hd;have er:bc z (.wa j)=(au z {z.af with ks:=z.af.ks.set j {k with up:=true}},.one (.bl (!k.up))):=by unfold bc doneF pH;dsimp only;rw[dk rfl hj];dsimp only;rw[hk]
  rw[er]at hq;refine rZ (nm:="wake") (b:=true) (by decide +kernel) (by decide +kernel) (by decide +kernel) (by decide +kernel) L hk fun G' c L'=>?_;refine hq G' A _ c R0 L' ?_;show D.bl _=D.bl _;cases k.up <;> rfl
end
def PI.run{sel:Hl->Option Nat}(hs:Sel sel):∀(n:Nat) (z:Sy),WF z.af->mea z.af<=n->PI z->LNd z.last->PI (endsF z (cI sel z.af)):=by
 intro n
 induction n with
 |zero=>
  intro z W h P N;cases q:sel z.af with
  |none=>rw[cF q];exact P
  |some p=>have:=bF W (hs z.af p q);omega
 |succ n ih=>
  intro z W h P N;cases q:sel z.af with
  |none=>rw[cF q];exact P
  |some p=>
   have h1:=bF W (hs z.af p q);have he:z.af.row[p]? =some (z.af.row[p]'(hs _ p q)):=qA_ _;have cb:=km (s:=false) W he;have P1:PI (endsF z (aE z.af p false)):=by rw[cb];exact PI.Dc (z:=au z {z.af with row:=bI z.af p false}) ⟨P.w,P.o⟩ N _
   have el:=gi z (aE z.af p false);have:=ih (endsF z (aE z.af p false)) (by rw[el.2.1];exact gM W p false) (by rw[el.2.1];omega) P1 (by rw[el.1];exact N);rw[el.2.1,tX]at this;rw[gX hs W q];exact this
def PI.begin{z:Sy}(P:PI z)(hi:z.af.hs[j]? =some h)(rd:Bool)(v:Option Int):PI (kR (au z (eJ z.af j h v)) j rd v):=by
 have il:=(qB_.mp hi).1;refine⟨fun i g hg ha=>?_,fun i g hg=>?_⟩
 · replace hg:(z.af.hs.set j (bz h v))[i]? =some g:=hg;show ∃p w,plc (putL z.last j z.ao.length) i=some p/\(z.ao++[⟨j,rd,v,z.aP,none,none⟩])[p]? =some w/\w.hand=i/\w.val=g.val;rw[qJ_]at hg;split at hg
   · rename_i w;subst w;cases hg;exact⟨z.ao.length,⟨j,rd,v,z.aP,none,none⟩,AB _ _ _,by simp,rfl,rfl⟩
   · rename_i w;obtain⟨p,wk,a1,a2,a3,a4⟩:=P.w i g hg ha;refine⟨p,wk,by rw[zW (Ne.symm w)];exact a1,?_,a3,a4⟩;rw[qK_ (qB_.mp a2).1];exact a2
 · replace hg:(z.af.hs.set j (bz h v))[i]? =some g:=hg;rw[qJ_]at hg;split at hg
   · cases hg;exact P.o j h hi
   · exact P.o i g hg
inductive Ref (z:Sy):Sy×An->Prop
 |no (c:Nat):Ref z (z,.one (.str (wordOf c)))
 |be {j:Nat} {h:Hd} (hi:z.af.hs[j]? =some h) (rd:Bool) (v:Option Int):Ref z (kR (au z (eJ z.af j h v)) j rd v,.one (.int (z.ao.length:Int)))
 |co (p:Nat) (s:Bool):Ref z (endsF z (aE z.af p s),.one (nB (cp z (aE z.af p s))))
 |ru (sel:Hl->Option Nat) (hs:Sel sel):Ref z (endsF z (cI sel z.af),.lst (cp z (cI sel z.af)))
 |qu {j:Nat} {h:Hd} (hi:z.af.hs[j]? =some h) (i:Int):Ref z (au z {z.af with hs:=z.af.hs.set j {h with atw:=false}},.one (.int i))
 |el (ks:List Kr) (row:List (Bool×Lt)) (x:D) (hx:(∃i,x= .int i)\/∃b,x= .bl b):Ref z (au z ⟨ks,z.af.hs,row⟩,.one x)
def vQ(z:Sy)(d:dM):Ref z (bc z d):=by
 have n:=fun c=>Ref.no (z:=z) c;have begun:∀i rd v,Ref z (match cz z i rd v with | .no c=>(z,An.one (.str (wordOf c))) | .ok z a=>(z,a)):=fun i rd v=>by
  unfold cz;cases inB i z.af.hs.length with
  |none=>exact n _
  |some p=>
   dsimp only;cases hi:z.af.hs[p]? with
   |none=>exact n _
   |some h=>dsimp only;cases h.atw with
    |true=>exact n _
    |false=>exact .be hi rd v
 have handed:∀i f,(∀j h,z.af.hs[j]? =some h->∃y a,f j h= .ok y a/\Ref z (y,a))->Ref z (match iu z i f with | .no c=>(z,An.one (.str (wordOf c))) | .ok z a=>(z,a)):=fun i f hf=>by
  unfold iu;cases inB i z.af.hs.length with
  |none=>exact n _
  |some p=>
   dsimp only;cases hi:z.af.hs[p]? with
   |none=>exact n _
   |some h=>dsimp only;cases h.atw with
    |false=>exact n _
    |true=>obtain⟨y,a,e,r⟩:=hf p h hi;rw[if_pos rfl,e];exact r
 have kept:∀i b (f:Kr->Bool),Ref z (match pH z i (fun j k=>.ok (au z {z.af with ks:=z.af.ks.set j {k with up:=b}}) (.one (.bl (f k))))with | .no c=>(z,An.one (.str (wordOf c))) | .ok z a=>(z,a)):=fun i b f=>by
  unfold pH;cases inB i z.af.ks.length with
  |none=>exact n _
  |some p=>
   dsimp only;cases z.af.ks[p]? with
   |none=>exact n _
   |some k=>exact .el _ _ _ (.inr ⟨_,rfl⟩)
 unfold bc;cases d with
 |wr i v=>exact begun i false (some v)
 |rd i=>exact begun i true none
 |ca m s=>
  unfold doneF;dsimp only;by_cases hr:z.af.row=[]
  · rw[if_pos hr];exact n _
  · rw[if_neg hr];exact .co _ _
 |pa i j=>
  unfold doneF;dsimp only;cases inB i z.af.hs.length with
  |none=>exact n _
  |some p=>cases inB j z.af.ks.length with
   |none=>exact n _
   |some k=>exact .ru _ (cY p k)
 |sw=>exact .ru _ cO
 |ag i=>exact handed i _ fun j h hi=>⟨_,_,rfl,.el _ _ _ (.inl ⟨_,rfl⟩)⟩
 |qu i=>exact handed i _ fun j h hi=>⟨_,_,rfl,.qu hi _⟩
 |st i=>exact kept i false fun k=>k.up
 |wa i=>exact kept i true fun k=>!k.up
def PI.ref{z:Sy}(P:PI z)(W:WF z.af)(N:LNd z.last)(d:dM):PI (bc z d).1:=by
 have r:=vQ z d;generalize bc z d=q at r;cases r with
 |no c=>exact P
 |be hi rd v=>exact P.begin hi rd v
 |co p s=>
  show PI (endsF z (aE z.af p s));cases he:z.af.row[p]? with
  |none=>
   have e:aE z.af p s=(z.af,[]):=by unfold aE;rw[he]
   rw[e];exact P
  |some e=>rw[km W he];exact PI.Dc (z:=au z {z.af with row:=bI z.af p s}) ⟨P.w,P.o⟩ N _
 |ru sel hs=>exact PI.run hs _ z W (qO_ _) P N
 |@qu p h hi i=>
  have il:=(qB_.mp hi).1;refine⟨fun i g hg ha=>?_,fun i g hg=>?_⟩
  · replace hg:(z.af.hs.set p {h with atw:=false})[i]? =some g:=hg;rw[qJ_]at hg;split at hg
    · cases hg;cases ha
    · exact P.w i g hg ha
  · replace hg:(z.af.hs.set p {h with atw:=false})[i]? =some g:=hg;rw[qJ_]at hg;split at hg
    · cases hg;exact P.o p h hi
    · exact P.o i g hg
 |el ks row x hx=>exact⟨P.w,P.o⟩
theorem B6{hs:List Hd}:∀{l:List (Nat×Nat)},(∀e∈l,e.2≠q)->asg hs l q=none
 | [],_=>rfl
 |a :: r,h=>by
  show (match asg hs r q with |some s=>some s |none=>if a.2=q then ((hs[a.1]?).bind (fun h:Hd=>h.pair)).map (fun p:Pr=>p.1)else none)=none
  rw[B6 fun e he=>h e (qR_ _ he),if_neg (h a qI_)]
theorem Io{hs:List Hd}:∀{l:List (Nat×Nat)} {e:Nat×Nat},(∀a∈l,∀b∈l,a.2=b.2->a=b)->e∈l->asg hs l e.2=((hs[e.1]?).bind (fun h:Hd=>h.pair)).map (fun p:Pr=>p.1)
 | [],_,_,h=>by cases h
 |a :: r,e,N,h=>by
  show (match asg hs r e.2 with |some s=>some s |none=>if a.2=e.2 then ((hs[a.1]?).bind (fun h:Hd=>h.pair)).map (fun p:Pr=>p.1)else none)=_
  by_cases c:e∈r
  · rw[Io (fun x hx y hy=>N x (qR_ _ hx) y (qR_ _ hy)) c];cases q:((hs[e.1]?).bind (fun h:Hd=>h.pair)).map (fun p:Pr=>p.1)with
    |some s=>rfl
    |none=>
     dsimp only;by_cases w:a.2=e.2
     · rw[if_pos w,N a qI_ e h w,q]
     · rw[if_neg w]
  · have ea:e=a:=by
     rcases qS_.mp h with w |w
     · exact w
     · exact absurd w c
    subst ea;rw[B6 fun b hb w=>c (by rw[<-N b (qR_ _ hb) e h w];exact hb),if_pos rfl]
def stW(z:Sy)(q:Nat)(w:Wk):Wk:={w with bY:=gC z.af.hs z.last q w.bY}
def sj{z:Sy}(N:LNd z.last)(q:Nat):(j6 z).ao[q]? =(z.ao[q]?).map (stW z q):=by
 unfold j6;rw[uo];congr 1;funext w;unfold stW;by_cases c:∃e∈z.last,e.2=q
 · obtain⟨e,he,rfl⟩:=c;rw[Io N.p he,mF N he];cases (z.af.hs[e.1]?).bind (·.pair) <;> rfl
 · have c':∀e∈z.last,e.2≠q:=fun e he w=>c ⟨e,he,w⟩;rw[B6 c',t4 c'];rfl
def uw(hs:List Hd)(last:List (Nat×Nat))(q:Nat)(s:Option (Int×Int)):gC hs last q (gC hs last q s)=gC hs last q s:=by
 unfold gC;cases last.find? fun e=>decide (e.2=q)with
 |none=>rfl
 |some e=>dsimp only;cases (hs[e.1]?).bind (·.pair) <;> rfl
structure DI (z:Sy):Prop where
 I:Iv z
 N:LNd z.last
 P:PI z
 S:SI z
def Ab{z:Sy}(I:Iv z)(N:LNd z.last)(d:dM):LNd (bc z d).1.last:=by
 have r:=vQ z d;generalize bc z d=q at r;cases r with
 |be hi rd v=>exact N.put fun e he=>(I.W.la e he).2
 |co p s=>show LNd (endsF z _).last;rw[(gi _ _).1];exact N
 |ru sel hs=>show LNd (endsF z _).last;rw[(gi _ _).1];exact N
 |_=>exact N
def DI.KD(D:DI z)(d:dM):DI (cQ z d).1:=by
 have P1:=D.P.ref D.I.W.W D.N d;have N1:=Ab D.I D.N d;have I1:=AF D.I d;obtain⟨q1,q2,q3,q4⟩:=gG (bc z d).1.last (bc z d).1;have el:(cQ z d).1.last=(bc z d).1.last:=q1;have eh:(cQ z d).1.af=(bc z d).1.af:=q2;have ew:∀q:Nat,(cQ z d).1.ao[q]? =((bc z d).1.ao[q]?).map (stW (bc z d).1 q):=sj N1;refine⟨I1,by rw[el];exact N1,⟨fun i h hi ha=>?_,fun i h hi=>?_⟩,fun q w hw=>?_⟩
 · rw[eh]at hi;obtain⟨p,w,a1,a2,a3,a4⟩:=P1.w i h hi ha;exact⟨p,stW (bc z d).1 p w,by rw[el];exact a1,by rw[ew,a2];rfl,a3,a4⟩
 · rw[eh]at hi;exact P1.o i h hi
 · rw[ew]at hw;rw[el,eh];cases hq:(bc z d).1.ao[q]? with
   |none=>rw[hq]at hw;cases hw
   |some v=>rw[hq]at hw;cases hw;exact uw _ _ _ _
def LAt.KD(D:DI z)(L:LAt G A (bc z d).1):LAt G A (cQ z d).1:=by
 have N1:=Ab D.I D.N d;obtain⟨q1,q2,q3,q4⟩:=gG (bc z d).1.last (bc z d).1;have el:(cQ z d).1.last=(bc z d).1.last:=q1;have eh:(cQ z d).1.af=(bc z d).1.af:=q2;have ew:∀q:Nat,(cQ z d).1.ao[q]? =((bc z d).1.ao[q]?).map (stW (bc z d).1 q):=sj N1;have e1:(cQ z d).1.ao.map fS=(bc z d).1.ao.map fS:=by apply List.ext_getElem?;intro q;rw[qQ_,qQ_,ew];cases (bc z d).1.ao[q]? <;> rfl
 have e2:stL (bc z d).1.af.hs (bc z d).1.last (cQ z d).1.ao=stL (bc z d).1.af.hs (bc z d).1.last (bc z d).1.ao:=by
  unfold stL;apply List.ext_getElem?;intro q;rw[List.getElem?_mapIdx,List.getElem?_mapIdx,ew];cases (bc z d).1.ao[q]? with
  |none=>rfl
  |some w=>show some (stD (gC _ _ q (gC _ _ q w.bY)))=some (stD (gC _ _ q w.bY));rw[uw]
 exact⟨L.o,by rw[eh];exact L.pr,by rw[eh];exact L.up,L.hd,by rw[eh];exact L.lt,by rw[e1];exact L.wk,by rw[eh,el,e2];exact L.st,by rw[eh];exact L.dl,by rw[eh];exact L.ql,by rw[eh,el];exact L.hs,L.nd⟩
section
variable{G:Hh}{Q:D->Hh->Prop}{E:Nat->Hh->Prop}{A:La}{z:Sy}{σ:St}
def C9{ks:List Str}{a:A3}(h:∀G0,Chg [] G G0->G0.length=G.length+1->G0[G.length]? =some (.dK [])->M3.run (a σ) G0 (fun ds G1=>M3.run (t9 ks (.ref G.length) ds) G1 Q E) E):M3.run (Ac ks a σ) G Q E:=by
 refine aB ?_;show M3.run _ (G++[.dK []]) _ _;exact aB (h _ (Chg.add _ _) (by simp) (aM _ _))
def Cy{n:Nat}{ks:List Str}{ds:List D}(hn:G[n]? =some (.dK []))(hk:ks.Nodup/\ks.length=ds.length/\ks.length<=15)(h:∀G',Chg [n] G G'->G'.length=G.length->G'[n]? =some (.dK ((ks.zip ds).map fun p=>(.inr p.1,p.2)))->Q (.ref n) G'):M3.run (t9 ks (.ref n) ds) G Q E:=by
 refine aC (a:=D.ref n) (G':=G.set n (.dK ((ks.zip ds).map fun p=>(.inr p.1,p.2)))) ?_ (h _ (Chg.set _ _ (by simp)) (by simp) (fy hn));unfold t9;dsimp only;rw[hn];dsimp only;rw[if_pos ⟨rfl,hk⟩]
def yb{n k:Nat}{ki:Int}{x:D}(ek:ki=(k:Int))(hn:G[n]? =some (.lst [x]))(hk:k<=9)(h:∀G',Chg [] G G'->G'.length=G.length+1->G'[G.length]? =some (.lst (List.replicate k x))->Q (.ref G.length) G'):M3.run (eN (.ref n) (.int ki)) G Q E:=by
 subst ek;have e:(List.replicate ((k:Int)).toNat [x]).flatten=List.replicate k x:=by
  rw[Int.toNat_natCast];clear hk h
  induction k with
  |zero=>rfl
  |succ k ih=>rw[List.replicate_succ,List.replicate_succ,List.flatten_cons,ih];rfl
 refine aC (a:=D.ref G.length) (G':=G++[.lst (List.replicate k x)]) ?_ (h _ (Chg.add _ _) (by simp) (aM _ _));unfold eN;dsimp only;rw[hn];dsimp only;rw[if_pos ⟨by omega,by omega,by simp [aw];omega⟩,e];rfl
def nd7{a b c d e f g:Nat}(h1:d < a)(h2:a < b)(h3:b < c)(h4:c < e)(h5:e < f)(h6:f < g):[a,b,c,d,e,f,g].Nodup/\∀x∈ [a,b,c,d,e,f,g],x=d\/a<=x:=by
 refine⟨by simp;omega,fun x hx=>by simp at hx;omega⟩
def zg{c m:Nat}{ci mi:Int}(ec:ci=(c:Int))(em:mi=(m:Int))(hc:c<=9)(hm:m<=9)(hq:∀G' A,Chg [] G G'->LAt G' A (bC c m)->(∀x∈A.foot,G.length<=x)->Q (.ref A.h) G'):M3.run (jQ [.int ci,.int mi]) G Q E:=by
 walk_at "f";unfold nG;refine az (aY (cD fun G1 c1 l1 h1=>w_next ?_));walk_at "s";lia;refine yN em (by omega) ?_;refine pB (fun j σ G'=>Chg [G.length] G1 G'/\G'.length=G.length+1+2*j/\G'[G.length]? =some (.lst (refs ((List.range j).map fun i=>G.length+1+2*i)))/\(∀i,i < j->G'[G.length+1+2*i]? =some (.dK (bU (.int 0) (.int 0) .non .non (.ref (G.length+2+2*i)) none))/\G'[G.length+2+2*i]? =some (.dK []))/\∃x,σ=[some (.int ci),some (.int mi),some (.ref G.length),x,none]) ?_ ?_ ⟨Chg.refl _ _,by omega,h1,fun i hi=>by omega,_,rfl⟩
 · rintro j σ G' hj ⟨c',l',g',hh,x,rfl⟩;refine aB (kB ?_);walk_at "s";refine dE (DT (w_var rfl (fM g' (C9 fun G2 c2 l2 g2=>?_))));refine ai (w_c (ai (w_c (ai (w_c (ai (w_c (ai (jm fun G3 c3 l3 g3=>?_)))))))));refine ax ?_;refine Cy (c3.get g2 (by simp)) ⟨by decide +kernel,rfl,by decide⟩ fun G4 c4 l4 g4=>?_;have ln:G.length < G'.length:=(by omega);have Vn:=c4.get (c3.get (c2.get g' (by simp)) (by simp)) (n1 (by omega));refine dm Vn (by unfold refs;simp [aw];omega) fun G5 c5 l5 g5=>?_;have e1:G'.length=G.length+1+2*j:=l';have C:Chg [G.length,G'.length] G' G5:=(c2.mono (by simp)).trans ((c3.mono (by simp)).trans ((c4.mono (by simp)).trans (c5.mono (by simp))));refine⟨c'.trans' C fun n hn=>?_,by omega,?_,fun i hi=>?_,_,rfl⟩
   · simp at hn;rcases hn with rfl |rfl
     · exact .inl (by simp)
     · right;omega
   · rw[g5,List.range_succ,qT_];unfold refs;rw[qT_,e1];rfl
   · rcases Nat.lt_or_ge i j with w |w
     · obtain⟨a1,a2⟩:=hh i w;exact⟨C.get a1 (by simp;omega),C.get a2 (by simp;omega)⟩
     · have:i=j:=(by omega);subst this;rw[<-e1,show G.length+2+2*i=G2.length by omega];refine⟨?_,c5.get (c4.get g3 (n1 (by omega))) (n1 (by omega))⟩;rw[c5.get g4 (n1 (by omega))];rfl
 · rintro σ G' ⟨c',l',g',hh,x,rfl⟩;have b0:G'.length=G.length+1+2*m:=l';refine w_next ?_;refine az (aY (C9 fun G2 c2 l2 g2=>?_));refine ai (aQ (hV ?_));lia;intro G3 c3 l3 g3;refine w_var rfl (yb ec g3 hc fun G4 c4 l4 g4=>?_);refine ai (aQ (hV ?_));lia;intro G5 c5 l5 g5;refine w_var rfl (yb ec g5 hc fun G6 c6 l6 g6=>?_);refine ai (w_var rfl (ax ?_));have Uc:Chg [] G2 G6:=(c3.trans c4).trans (c5.trans c6);refine Cy (Uc.get g2 (by simp)) ⟨by decide +kernel,rfl,by decide⟩ fun G7 c7 l7 g7=>?_;replace g7:G7[G'.length]? =some (.dK [((.inr "pairs":Key),D.ref G3.length),(.inr "up",.ref G5.length),(.inr "hands",.ref G.length)]):=g7;refine w_next ?_;walk_at "s";refine az (ph (cD fun G8 c8 l8 g8=>w_var rfl (w_c ?_)));refine cq (c8.get g7 (by simp)) rfl (show _ < aw from qP_ rfl) fun G9 c9 l9 g9=>?_;refine w_next ?_;refine az (ph (cD fun Ga ca la ga=>w_var rfl (w_c ?_)))
   repeat rw[gB (by decide +kernel)]at g9
   rw[vG]at g9;refine cq (ca.get g9 (by simp)) rfl (show _ < aw from qP_ rfl) fun Gb cb lb gb=>?_
   repeat rw[gB (by decide +kernel)]at gb
   rw[vG]at gb;refine w_next ?_;refine az (ph (cD fun Gc cc lc gc=>w_var rfl (w_c ?_)));refine cq (cc.get gb (by simp)) rfl (show _ < aw from qP_ rfl) fun Gd cd ld gd=>?_
   repeat rw[gB (by decide +kernel)]at gd
   rw[vG]at gd;refine w_next ?_;lia;have a7:Chg [G'.length] G6 Gd:=(c7.trans (c8.mono (by simp))).trans ((c9.trans (ca.mono (by simp))).trans ((cb.trans (cc.mono (by simp))).trans cd));have a2:Chg [G'.length] G' Gd:=(c2.mono (by simp)).trans ((Uc.mono (by simp)).trans a7);have af:∀x∈((List.range m).map fun i=>G.length+1+2*i)++((List.range m).map fun i=>G.length+2+2*i),G.length < x/\x < G'.length:=fun x hx=>by
    rcases qG_.mp hx with w |w <;> obtain⟨i,hi,rfl⟩:=qH_.mp w <;> have:=List.mem_range.mp hi <;> omega
   have og:G.length < G'.length:=(by omega);have o7:=nd7 og (show G'.length < G3.length by omega) (show G3.length < G5.length by omega) (show G5.length < G7.length by omega) (show G7.length < G9.length by omega) (show G9.length < Gb.length by omega);have kh:=a2.get g' (n1 (show G.length≠G'.length by omega));have klt:=cd.get (cc.get (cb.get (ca.get (c9.get g8 (n1 (by omega))) (by simp)) (n1 (by omega))) (by simp)) (n1 (by omega));have Vh:=cd.get (cc.get (cb.get ga (n1 (by omega))) (by simp)) (n1 (by omega));have VO:=cd.get gc (n1 (by omega));refine hq Gd ⟨G'.length,G3.length,G5.length,G.length,G7.length,G9.length,Gb.length,(List.range m).map fun i=>G.length+1+2*i,(List.range m).map fun i=>G.length+2+2*i⟩ ?_ ⟨gd,?_,?_,kh,⟨[],⟨rfl,by simp⟩,klt⟩,Vh,VO,?_,?_,fun i d q h h1 h2 h3=>?_,?_⟩ fun x hx=>?_
   · exact(c1.trans' c' fun n hn=>by simp at hn;subst hn;exact .inr (qO_ _)).trans' a2 fun n hn=>by simp at hn;subst hn;right;omega
   · rw[a7.get (c6.get (c5.get g4 (by simp)) (by simp)) (n1 (by omega))];show _=some (O.lst ((List.replicate c k0).map _));rw[List.map_replicate];rfl
   · rw[a7.get g6 (n1 (by omega))];show _=some (O.lst ((List.replicate c k0).map _));rw[List.map_replicate];rfl
   · show ((List.range m).map _).length=((List.range m).map _).length;rw[qM_,qM_]
   · show ((List.range m).map _).length=((List.range m).map _).length;rw[qM_,qM_]
   · replace h1:((List.range m).map fun i=>G.length+1+2*i)[i]? =some d:=h1;replace h2:((List.range m).map fun i=>G.length+2+2*i)[i]? =some q:=h2;replace h3:((List.range m).map fun i=>kA i c)[i]? =some h:=h3;have il:i < m:=by have:=(qB_.mp h1).1;simpa using this
     rw[qQ_,List.getElem?_range il]at h1 h2 h3;cases h1;cases h2;cases h3;obtain⟨k1,k2⟩:=hh i il;exact⟨a2.get k1 (n1 (show G.length+1+2*i≠G'.length by omega)),[],⟨rfl,by simp⟩,a2.get k2 (n1 (show G.length+2+2*i≠G'.length by omega))⟩
   · show (([G'.length,G3.length,G5.length,G.length,G7.length,G9.length,Gb.length]:List Nat)++(((List.range m).map fun i=>G.length+1+2*i)++((List.range m).map fun i=>G.length+2+2*i))).Nodup;refine List.nodup_append.mpr ⟨o7.1,List.nodup_append.mpr ⟨?_,?_,?_⟩,fun a ha b hb=>?_⟩
     · exact List.pairwise_map.mpr (List.Pairwise.imp (fun h=>by omega) List.nodup_range)
     · exact List.pairwise_map.mpr (List.Pairwise.imp (fun h=>by omega) List.nodup_range)
     · intro a ha b hb;obtain⟨i,_,rfl⟩:=qH_.mp ha;obtain⟨j,_,rfl⟩:=qH_.mp hb;omega
     · have:=af b hb;rcases o7.2 a ha with z |z
       · rw[z];exact Nat.ne_of_lt this.1
       · exact Nat.ne_of_gt (qd_ this.2 z)
   · replace hx:x∈(([G'.length,G3.length,G5.length,G.length,G7.length,G9.length,Gb.length]:List Nat)++(((List.range m).map fun i=>G.length+1+2*i)++((List.range m).map fun i=>G.length+2+2*i))):=hx;rcases qG_.mp hx with w |w
     · rcases o7.2 x w with z |z
       · rw[z];exact qO_ _
       · exact Nat.le_trans (Nat.le_of_lt og) z
     · exact Nat.le_of_lt (af x w).1
end
def Gf(d:D):Prop:=∃a b:Int,d= .tup [.int a,.int b]
def KN(d:D):Prop:=d= .non\/(∃s,d= .str s)\/(∃b,d= .bl b)\/(∃i,d= .int i)\/Gf d
def AnK:An->Prop
 | .one d=>KN d
 | .lst ds=>∀x∈ds,Gf x
def DD(z:Sy)(r:Hl×List (Nat×Pr)):∀x∈cp z r,Gf x:=fun x hx=>by
 obtain⟨e,_,rfl⟩:=qH_.mp hx;exact⟨_,_,rfl⟩
def F6(z:Sy)(d:dM):AnK (bc z d).2:=by
 have r:=vQ z d;generalize bc z d=q at r;cases r with
 |no c=>exact .inr (.inl ⟨_,rfl⟩)
 |co p s=>
  have:=DD z (aE z.af p s);show KN (nB (cp z (aE z.af p s)));cases q:cp z (aE z.af p s)with
  |nil=>exact .inl rfl
  |cons a r=>rw[q]at this;exact .inr (.inr (.inr (.inr (this a qI_))))
 |ru sel hs=>exact DD z _
 |el ks row x hx=>
  rcases hx with ⟨i,rfl⟩ |⟨b,rfl⟩
  · exact .inr (.inr (.inr (.inl ⟨_,rfl⟩)))
  · exact .inr (.inr (.inl ⟨_,rfl⟩))
 |_=>exact .inr (.inr (.inr (.inl ⟨_,rfl⟩)))
section
variable{G:Hh}{Q:D->Hh->Prop}{E:Nat->Hh->Prop}{A:La}{z:Sy}{σ:St}
def Du(k:KN d)(h:Q (.bl true) G):M3.run (mw [d,d]) G Q E:=by
 rcases k with rfl |⟨s,rfl⟩ |⟨b,rfl⟩ |⟨i,rfl⟩ |⟨a,b,rfl⟩
 · walk_at "f";unfold iR;lia;rw[show decide (D.non=D.non)=true from rfl];lia;exact h
 · walk_at "f";unfold iR;lia;rw[show decide (D.str s=D.non)=false from rfl];lia;refine w_eq (fI _) ?_;lia;exact h
 · walk_at "f";unfold iR;lia;rw[show decide (D.bl b=D.non)=false from rfl];lia;refine w_eq Ij ?_;lia
   simpa using h
 · walk_at "f";unfold iR;lia;rw[show decide (D.int i=D.non)=false from rfl];lia;refine gP ?_;lia;refine w_eq (cC _) ?_;lia;exact h
 · walk_at "f";unfold iR;lia;rw[show decide (D.tup [D.int a,D.int b]=D.non)=false from rfl];lia;refine w_eq (hX (all2 (cC _) (cC _))) ?_;lia;exact h
def EB(h1:G[i]? =some (.lst ds))(h2:G[j]? =some (.lst ds))(k:∀x∈ds,Gf x)(h:Q (.bl true) G):M3.run (mw [.ref i,.ref j]) G Q E:=by
 walk_at "f";unfold iR;lia;rw[show decide (D.ref j=D.non)=false from rfl];lia;refine w_isK (o9 h2) (dP ?_);rw[show iV Kd.lst Kd.str=false from rfl];lia;refine w_isK (o9 h2) (dP ?_);rw[show iV Kd.lst Kd.bl=false from rfl];lia;refine w_isK (o9 h2) (dP ?_);rw[show iV Kd.lst Kd.tup=false from rfl];lia;refine w_isK (o9 h2) (dP ?_);rw[show iV Kd.lst Kd.lst=true from rfl];lia;refine w_isK (o9 h1) (gK ?_);rw[show iV Kd.lst Kd.lst=true from rfl];lia;refine w_eq (eq_list h1 h2 fun x hx=>?_) ?_
 · obtain⟨a,b,rfl⟩:=k x hx;exact hX (all2 (cC _) (cC _))
 · lia;exact h
end
theorem wM:∀(ds:List dM) (y:Sy) (j:Nat) (d:dM),ds[j]? =some d->(iS y ds)[j]? =some (bc (fx y (ds.take j)) d).2
 | [],y,j,d,h=>by simp at h
 |a :: r,y,0,d,h=>by
  simp at h;subst h;rfl
 |a :: r,y,j+1,d,h=>by
  show (iS (cQ y a).1 r)[j]? =_;rw[wM r (cQ y a).1 j d (by simpa using h)];rfl
def Bk(y:Sy)(a:List dM)(d:dM):fx y (a++[d])=(cQ (fx y a) d).1:=by
 unfold fx;rw[List.foldl_append];rfl
def BI(hc:c<=9)(hm:m<=9):DI (bC c m):=by
 have hg:∀(i:Nat) h,(bC c m).af.hs[i]? =some h->h=kA i c:=by
  intro i h hh;replace hh:((List.range m).map fun i=>kA i c)[i]? =some h:=hh;have il:i < m:=by have:=(qB_.mp hh).1;simpa using this
  rw[qQ_,List.getElem?_range il]at hh;cases hh;rfl
 refine⟨mh hc hm,⟨(fun a ha=>by cases ha),fun a ha=>by cases ha⟩,⟨fun i h hi ha=>?_,fun i h hi=>?_⟩,fun q w hw=>?_⟩
 · rw[hg i h hi]at ha;cases ha
 · rw[hg i h hi];exact Int.le_refl _
 · simp [bC]at hw
def z0(D:DI y):∀(ds:List dM),DI (fx y ds):=by
 intro ds
 induction ds generalizing y with
 |nil=>exact D
 |cons d r ih=>exact ih (D.KD d)
def MY{z:Sy}(I:SI z):stL z.af.hs z.last z.ao=z.ao.map fun w=>stD w.bY:=by
 unfold stL;apply List.ext_getElem?;intro q;rw[List.getElem?_mapIdx,qQ_];cases hq:z.ao[q]? with
 |none=>rfl
 |some w=>show some (stD (gC _ _ q w.bY))=some (stD w.bY);rw[I q w hq]
section
variable{G G':Hh}{Q:D->Hh->Prop}{E:Nat->Hh->Prop}{σ:St}{QS:Fl×St->Hh->Prop}
def Js{ns:List Int}{a b:Nat}(hl:G[0]? =some (.frz (ns.map D.int)))(ha:a<=100)(hb:b<=100)(h:∀v:Nat,v<=100->Q (.int (v:Int)) G):M3.run (rQ [.ref 0,.int (a:Int),.int (b:Int)]) G Q E:=by
 walk_at "f";unfold yt;refine az (cJ (mP (aQ (bh (ai (w_var rfl (ax (Em hl ?_))))))));generalize (ns.map D.int).length=n;generalize (n:Int)=ni;refine w_c ?_
 with_reducible refine HX ?_
 refine gK ?_
 with_reducible refine w_ite (fun _=>?_) fun _=>?_
 · lia;exact h b hb
 · lia;exact h a ha
def Fm{ns:List Int}{c m a:Nat}{ci mi:Int}(ha:a<=100)(hl:G[0]? =some (.frz (ns.map D.int)))(h0:σ[0]? =some (some (.ref 0)))(h1:σ[1]? =some (some (.int ci)))(h2:σ[2]? =some (some (.int mi)))(oO:ci=(c:Int))(qQ:mi=(m:Int))(hc:0 < c)(hm:0 < m)
 (h:∀(ds:List dM) ld G',Chg [] G G'->G.length<=ld->ds.length<=110->(∀d∈ds,DIn c m d)->G'[ld]? =some (.lst (ds.map ba))->Q (.ref ld) G'):
 M3.run (aq nW (aa (eSl (ae 0) (nP (eC (.int 1))) (nP (eOp eM (eC (.int 1)) (aq rQ (aa (ae 0) (aa (eC (.int (a:Int))) (aa (eC (.int 100)) ah))))))) (aa (ae 1) (aa (ae 2) ah))) σ) G Q E:=by
 refine bh (ai (Nu (w_var h0 (uK (w_c (DY (uK (aQ (w_c (bh (ai (w_var h0 (ai (w_c (ai (w_c (ax ?_)))))))))))))))));refine Js (b:=100) hl ha (by omega) fun v hv=>?_
 with_reducible refine zq ?_
 refine DY (Lh hl fun G3 c3 l3 h3=>?_);obtain⟨ms,em,W3⟩:=Ez ns 1 (1+v);have OL:cutD (ns.map D.int) (some 1) (some (1+(v:Int)))=ms.map D.int:=by rw[<-em];simp
 rw[OL]at h3;refine ai (w_var h1 (ai (w_var h2 (ax ?_))));refine Co oO qQ hc hm h3 (by omega) fun ds ld G4 c4 g4 Oq EW h4=>?_;exact h ds ld G4 (c3.trans c4) (by omega) (by omega) EW h4
def NR{ns:List Int}(hl:G[0]? =some (.frz (ns.map D.int)))(hQ:∀G',Q (.bl true) G'):M3.run (pL [.ref 0]) G Q E:=by
 walk_at "f";unfold D5;refine Lc hl fun c m ci mi G2 oO qQ OY Mc SF Mb c2=>?_;have f2:=c2.get hl (by simp);refine az (aY ?_);refine Fm (a:=16) (by omega) f2 rfl rfl rfl oO qQ OY SF fun ds ld G3 c3 g3 dl EW h3=>?_;refine w_next ?_;walk_at "s";refine az (aY (bh (ai (w_var rfl (ax ?_)))));refine xw h3 fun G4 c4 l4 h4=>?_;refine w_next ?_;walk_at "s";refine az (aY (bh (ai (w_var rfl (ai (w_var rfl (ai (w_var rfl (ax ?_)))))))));refine Bq oO qQ Mc Mb h4 (by omega) fun S la vs G5 c5 g5 h5 A5=>?_;have O7:=c5.get (c4.get h3 (by simp)) (by simp);have Wa:=c5.get h4 (by simp);have vl:vs.length=ds.length:=by rw[<-A5.1,tQ]
 generalize G3.length=lh at*;clear c2 f2 c3 g3 h3 c4 h4 c5 g5 l4 hl;refine w_next ?_;walk_at "s";refine az (cJ (uq (gj (fD (bh (ai (w_var rfl (ax (w_isK (o9 h5) (dP ?_))))))))));rw[show (!iV Kd.lst Kd.lst)=false from rfl,if_neg qC_];refine uq (mP (aQ (bh (ai (w_var rfl (ax (cX h5 ?_)))))));refine bh (ai (w_var rfl (ax (cX O7 ?_))));refine kE (b:=true) (by rw[eq_int,qM_,vl];simp) (gK ?_);rw[show (!true)=false from rfl,if_neg qC_];refine mP (aQ (w_var rfl (w_var rfl ?_)));refine kE (b:=true) (eq_list Wa O7 fun x hx=>?_) (gK ?_)
 · obtain⟨d,_,rfl⟩:=qH_.mp hx;exact Ak d 5
 rw[show (!true)=false from rfl,if_neg qC_];refine kU (w_next ?_);refine az (aY (bh (ai (w_var rfl (ai (w_var rfl (ax ?_)))))));refine zg oO qQ Mc Mb fun G6 A0 c6 L6 f6=>?_;refine w_next ?_;walk_at "s";have out:∀{x:Nat},x < G5.length->x∉A0.foot:=fun h w=>by have:=f6 _ w;omega
 have D0:=BI Mc Mb;have Rk:=c6.get O7 (by simp);have Uw:=ar O7;have WK:=ar h5;refine az (CJ (qM (bh (ai (w_var rfl (ax (cX Rk ?_)))))));rw[qM_]
 with_reducible refine ir (by omega) ?_
 refine pB (fun j σ G'=>∃A' x,LAt G' A' (fx (bC c m) (ds.take j))/\Chg A0.foot G6 G'/\A0.to A' G6.length/\σ=[some (.ref 0),some (.int ci),some (.int mi),some (.ref ld),some (.ref lh),some (.ref la),some (.ref A0.h),x,none]) ?_ ?_ ⟨A0,_,L6,Chg.refl _ _,La.iJ _ _,rfl⟩
 · rintro j σ G' hj ⟨A',x,L,cG,tA,rfl⟩;obtain⟨d,hd⟩:∃d,ds[j]? =some d:=⟨_,qA_ hj⟩;have Dj:=z0 D0 (ds.take j);obtain⟨_,dj,Vy,Vm⟩:=mB D0.I (ds.take j);have an:=wM ds (bC c m) j d hd;rw[take_succ hd,Bk];generalize fx (bC c m) (ds.take j)=z at*;have Vt:z.aP=j:=by rw[dj,List.length_take];show 0+_=_;omega
   obtain⟨v,hv⟩:∃v,vs[j]? =some v:=⟨_,qA_ (by omega)⟩;have Aj:=A5.2 j _ v an hv;have ET:=cG.get Rk (out Uw);have Wv:=cG.get (c6.get h5 (by simp)) (out WK);refine aB (kB ?_);walk_at "s";refine cJ (gj (fD (bh (ai (aQ (w_var rfl (w_var rfl (vT Wv hv ?_))))))));refine ai (bh (ai (w_var rfl (ai (aQ (w_var rfl (w_var rfl (vT ET (d:=ba d) (by rw[qQ_,hd];rfl) ?_))))))));refine ai (w_var rfl (ax ?_));rw[<-La.Gz tA];refine vx (A:=A') (z:=z) (by rw[Vy,Vm];show DIn (List.replicate c k0).length ((List.range m).map _).length d;rw[List.length_replicate,qM_,List.length_range];exact EW d (qD_ hd)) (by rw[Vt]) L Dj.I (by omega) Dj.N Dj.P Dj.S fun G7 A7 v7 c7 t7 L7 n7=>?_;refine ax ?_;have fin:M3.run (mw [v,v7]) G7 (fun d G1=>d= .bl true/\G1=G7) E:=by
    have kd:=F6 z d;revert Aj n7 kd;cases (bc z d).2 with
    |one x=>intro a b kd;cases (show v=x from a);cases (show v7=v from b);exact Du kd ⟨rfl,rfl⟩
    |lst xs=>
     rintro⟨l1,rfl,_,_,q1⟩ ⟨l2,rfl,_,_,q2⟩ kd;have TL:=ar q1;have o2:l1∉A'.foot:=fun w=>by
      rcases La.lY tA w with w |w
      · exact out TL w
      · have:=c6.1;omega
     exact EB (c7.get (cG.get (c6.get q1 (by simp)) (out TL)) o2) q2 kd ⟨rfl,rfl⟩
   refine ak fin ?_;rintro _ _ ⟨rfl,rfl⟩;refine dP ?_;refine iD ?_;refine kU ?_;refine⟨A7,some (.int (j:Int)),L7.KD Dj,cG.trans' c7 fun n hn=>La.lY tA hn,La.xN tA t7 cG.1,?_⟩;rw[La.Gz tA]
 · rintro σ G' ⟨A',x,L,cG,tA,rfl⟩;rw[List.take_length]at L;have Dj:=z0 D0 ds;have hw:=(mB D0.I ds).2.1;have iw:=Dj.I.w;have Oe:=Dj.I.W.W.ksz;have ET:=cG.get Rk (out Uw);have wl:(fx (bC c m) ds).ao.length<=1000:=by
    rw[hw]at iw;have:(bC c m).aP=0:=rfl;omega
   refine w_next ?_;refine az (aY (bh (ai (w_var rfl (ai (w_var rfl (ai (w_var rfl (ax ?_)))))))));refine zt oO qQ Mc Mb ET (by omega) fun l1 l2 l3 G8 c8 _ _ _ AD=>?_;have L8:=L.new c8;generalize fx (bC c m) ds=z at*;have o8:=L8.o;rw[La.Gz tA]at o8;obtain⟨d1,d2,d3⟩:=AD;have s8:=L8.st;rw[MY Dj.S]at s8;refine w_next ?_;walk_at "s";refine az (cJ (uq (mP (yq (w_var rfl (HN ?_))))));rw[show decide (D.tup [D.ref l1,D.ref l2,D.ref l3]=D.non)=false from rfl];refine gK ?_;rw[if_neg qC_];refine gj (fD (bh (ai (aQ (w_var rfl (w_c (aS (d:= .ref l1) rfl ?_)))))));refine ai (aQ (w_var rfl (w_c (aG o8 rfl jr (ax ?_)))));refine JA 9 (sk d1 L8.wk (by rw[qM_];omega) (fun x hx=>?_) 5) ?_
   · obtain⟨w,_,rfl⟩:=qH_.mp hx;unfold fS;cases w.val <;> cases w.en <;> rfl
   refine dP (iD (kU (w_next ?_)));refine az (cJ (gj (fD (bh (ai (aQ (w_var rfl (w_c (aS (d:= .ref l2) rfl ?_)))))))));refine ai (aQ (w_var rfl (w_c (aG o8 rfl oS (ax ?_)))));refine JA 9 (sk d2 s8 (by rw[qM_];omega) (fun x hx=>?_) 5) ?_
   · obtain⟨w,_,rfl⟩:=qH_.mp hx;cases w.bY <;> rfl
   refine dP (iD (kU (w_next ?_)));refine bB (bh (ai (aQ (w_var rfl (w_c (aS (d:= .ref l3) rfl ?_))))));refine ai (aQ (w_var rfl (w_c (aG o8 rfl jo (ax ?_)))));refine JA 9 (sk d3 L8.pr (by rw[qM_];omega) (fun x hx=>?_) 5) ?_
   · obtain⟨w,_,rfl⟩:=qH_.mp hx;rfl
   exact lx (hQ _)
end
def D4(ns:List Int)(_:ns.length<=63):M3.run (KC.pL [.ref 0]) [.frz (ns.map M3.D.int)] (fun d _=>d= .bl true) fun _ _=>False:=
 NR (ns:=ns) rfl fun _=>rfl
end KS
namespace LK
open PySem PySem.Spec PyProof.Rows L2 L3 KC
local macro_rules |`(tactic|walk_at "sc")=>`(tactic|exact⟨rfl,rfl,rfl,by decide +kernel,rfl,by decide +kernel,by decide +kernel⟩)
local macro_rules |`(tactic|walk_at "nm")=>`(tactic|exact NQ (by decide +kernel) (by decide))
set_option hygiene false in
local macro_rules |`(tactic|walk_at "z1")=>`(tactic|(refine Nq F sc rfl rfl fun jC A outer s H E hr=>?_;have hu:=hr.units;have nd:=sc.nd))
set_option hygiene false in
local macro_rules |`(tactic|walk_at "z3")=>`(tactic|(refine Il F sc rfl rfl fun jC A outer s H E hr=>?_;have hu:=hr.units;have nd:=sc.nd))
local macro_rules |`(tactic|walk_at "sb")=>`(tactic|first |exact .inl rfl |exact .inr rfl |assumption)
def lS{us:List Value}{n:Nat}(h:us.length=n+1):∃a t,us=a :: t/\t.length=n:=by
 cases us with
 |nil=>cases h
 |cons a t=>exact⟨a,t,rfl,Nat.succ.inj h⟩
def l1{us:List Value}(h:us.length=1):∃a,us=[a]:=by
 obtain⟨a,t,q,k⟩:=lS h;subst q;rw[List.eq_nil_of_length_eq_zero k];exact⟨a,rfl⟩
local macro_rules |`(tactic|walk_at "b1")=>`(tactic|exact fun _ _ _ _ _ _ us hl=>by obtain⟨_,e⟩:=l1 hl;subst e;rfl)
def l2{us:List Value}(h:us.length=2):∃a b,us=[a,b]:=by
 obtain⟨a,t,q,k⟩:=lS h;subst q;obtain⟨b,q⟩:=l1 k;subst q;exact⟨a,b,rfl⟩
local macro_rules |`(tactic|walk_at "b2")=>`(tactic|exact fun _ _ _ _ _ _ us hl=>by obtain⟨_,_,e⟩:=l2 hl;subst e;rfl)
def l3{us:List Value}(h:us.length=3):∃a b c,us=[a,b,c]:=by
 obtain⟨a,t,q,k⟩:=lS h;subst q;obtain⟨b,c,q⟩:=l2 k;subst q;exact⟨a,b,c,rfl⟩
local macro_rules |`(tactic|walk_at "b3")=>`(tactic|exact fun _ _ _ _ _ _ us hl=>by obtain⟨_,_,_,e⟩:=l3 hl;subst e;rfl)
def l4{us:List Value}(h:us.length=4):∃a b c d,us=[a,b,c,d]:=by
 obtain⟨a,t,q,k⟩:=lS h;subst q;obtain⟨b,c,d,q⟩:=l3 k;subst q;exact⟨a,b,c,d,rfl⟩
local macro_rules |`(tactic|walk_at "b4")=>`(tactic|exact fun _ _ _ _ _ _ us hl=>by obtain⟨_,_,_,_,e⟩:=l4 hl;subst e;rfl)
def l5{us:List Value}(h:us.length=5):∃a b c d e,us=[a,b,c,d,e]:=by
 obtain⟨a,t,q,k⟩:=lS h;subst q;obtain⟨b,c,d,e,q⟩:=l4 k;subst q;exact⟨a,b,c,d,e,rfl⟩
local macro_rules |`(tactic|walk_at "b5")=>`(tactic|exact fun _ _ _ _ _ _ us hl=>by obtain⟨_,_,_,_,_,e⟩:=l5 hl;subst e;rfl)
def top(i:Nat):Stmt:=PySem.Challenge.pw_halfask_k07_plain_story.main.body.getD i (.Pass ⟨0,0,0,0⟩)
def nmL:List Str:=["number","count","at_work","value","pair","round_number","heard","own_turn","is_up","keepers","hands","row","hand","word","begun","ended","stamp","hall","works","last_places","deeds_done"]
def nmF(g:Nat):Str:=nmL.getD g Str.empty
abbrev tc(i j:Nat):Stmt:=inClass (top i) j
abbrev TT(cl:Nat->Option Addr):Tab:=⟨cl,nmF⟩
abbrev oT:Stmt:=top 9
abbrev sx:Stmt:=top 10
abbrev iW:Stmt:=top 11
abbrev kO:Stmt:=tc 13 0
abbrev ik:Stmt:=tc 13 5
abbrev eW:Stmt:=tc 13 4
abbrev ke:Stmt:=tc 13 3
abbrev fj:Stmt:=tc 13 1
abbrev fN:Stmt:=tc 13 2
abbrev fk:Stmt:=tc 13 8
abbrev fH:Stmt:=tc 13 6
abbrev iz:Stmt:=tc 13 7
abbrev jb:Stmt:=tc 13 10
abbrev kJ:Stmt:=tc 13 9
abbrev ji:Stmt:=tc 15 0
abbrev jc:Stmt:=tc 15 1
abbrev ja:Stmt:=tc 15 2
abbrev jh:Stmt:=tc 15 3
abbrev eQ:Stmt:=tc 15 4
abbrev lN:Stmt:=tc 17 0
abbrev ib:Stmt:=tc 17 1
abbrev fZ:Stmt:=tc 17 2
abbrev lV:Stmt:=tc 17 9
abbrev jN:Stmt:=tc 17 3
abbrev kP:Stmt:=tc 17 4
abbrev jK:Stmt:=tc 17 5
abbrev j8:Stmt:=tc 17 6
abbrev e9:Stmt:=tc 17 7
abbrev fm:Stmt:=tc 17 8
abbrev dD:Stmt:=tc 17 15
abbrev eG:Stmt:=tc 17 16
abbrev lg:Stmt:=tc 17 14
abbrev jJ:Stmt:=tc 17 10
abbrev dW:Stmt:=tc 17 12
abbrev dX:Stmt:=tc 17 11
abbrev kg:Stmt:=tc 17 13
abbrev lu:Stmt:=tc 19 0
abbrev lK:Stmt:=tc 19 1
abbrev jL:Stmt:=tc 20 0
abbrev fG:Stmt:=tc 20 4
abbrev fT:Stmt:=tc 20 6
abbrev fB:Stmt:=tc 20 5
abbrev jH:Stmt:=tc 20 3
abbrev cL:Stmt:=tc 20 2
abbrev eK:Stmt:=tc 20 7
abbrev hG:Stmt:=tc 20 1
abbrev pe:Stmt:=top 21
abbrev lA:Stmt:=top 22
abbrev Lu:Stmt:=top 24
def Az:iG ["_law_found","_law_meant","_law_k"] ["_law_found","_law_meant"] (bu Lu):=by walk_at "sc"
abbrev vo:Stmt:=top 25
abbrev Lo:Stmt:=top 26
abbrev m8:Stmt:=top 27
abbrev pw:Stmt:=top 28
abbrev oY:Stmt:=top 29
abbrev u0:Stmt:=top 30
abbrev nr:Stmt:=top 31
abbrev pA:Stmt:=top 32
abbrev pF:Stmt:=top 33
abbrev kQ:Stmt:=top 34
abbrev nj:Stmt:=top 35
abbrev nu:Stmt:=top 36
abbrev yE:Stmt:=top 37
abbrev rW:Stmt:=top 38
abbrev va:Stmt:=top 39
abbrev pG:Stmt:=top 40
abbrev nN:Stmt:=top 41
abbrev nA:Stmt:=top 42
abbrev jG:Stmt:=top 43
abbrev vZ:Stmt:=top 44
abbrev yr:Stmt:=top 45
abbrev tU:Stmt:=top 46
abbrev GV(K:PySem.W.Frag)(x:Str)(f:Addr):Prop:=PySem.W.nsIn K mainGlobals x=some (some (.ref f))
abbrev NV(K:PySem.W.Frag)(x:Str):Prop:=PySem.W.nsIn K mainGlobals x=some none
abbrev MV(K:PySem.W.Frag)(C:Addr)(x:Str)(f:Addr):Prop:=PySem.W.findIn K (.ref C) x=some (some (.ref f))
abbrev IV(K:PySem.W.Frag)(f:Addr):Prop:=PySem.W.isFn K (.ref f)=true
abbrev FU(K:PySem.W.Frag)(x:Str)(s:Stmt)(f:Addr)(d:FuncData):Prop:=Fun K x x s f d
abbrev FS(N:List Str)(n:Nat)(s:Stmt):Prop:=iG N (N.take n) (bu s)
abbrev MB(P:Program)(w:World)(K:PySem.W.Frag)(mg:Str->Option Value)(bs:Heap)(cl:Nat->Option Addr):=Mt3 P w K mg bs CX0 (TT cl)
abbrev MC(P:Program)(w:World)(K:PySem.W.Frag)(mg:Str->Option Value)(bs:Heap)(cl:Nat->Option Addr):=Mt3 P w K mg bs (CX1 P w) (TT cl)
abbrev FB(P:Program)(w:World)(K:PySem.W.Frag)(mg:Str->Option Value)(bs:Heap)(cl:Nat->Option Addr):=Fn3 P w K mg bs CX0 (TT cl)
abbrev FO(P:Program)(w:World)(K:PySem.W.Frag)(mg:Str->Option Value)(bs:Heap)(cl:Nat->Option Addr)(k:Nat)(fa:Addr)(fd:FuncData)(ps:List Str)(n:Nat)(c:List M3.D->M3.M M3.D):Prop:=cj P w K mg bs CX0 k fa fd ps (sp3 (TT cl) K n c)
structure Txt (K:PySem.W.Frag) (mg:Str->Option Value) (cl:Nat->Option Addr):Prop where
 Nv:mg "max"=none
 lX:mg "range"=none
 oX:mg "list"=none
 MA:mg "len"=none
 wY:mg "enumerate"=none
 IY:mg "bool"=none
 oE:mg "isinstance"=none
 HP:mg "int"=none
 M7:mg "str"=none
 Ks:mg "dict"=none
 Ag:mg "tuple"=none
 g_BEGINNING:HY K mg "BEGINNING" (.tup [(.tup [(.int 0),(.int 0)]),(.int 0)])
 fA:∀j,j < 21->zR (TT cl) K j
 IB:∃C,cl 1000=some C/\XCl K mg "HalfError" C
 Iq:True
 wI:∃C,cl 1001=some C/\XCl K mg "NoHand" C
 CS:∃C,mg "NoHand"=some (.ref C)/\∀c Ca,cl c=some Ca->PySem.W.exmOne K (.ref Ca) (.ref C)=some (decide (c=1001))
 rg:∃C,cl 1002=some C/\XCl K mg "NoKeeper" C
 zH:∃C,mg "NoKeeper"=some (.ref C)/\∀c Ca,cl c=some Ca->PySem.W.exmOne K (.ref Ca) (.ref C)=some (decide (c=1002))
 rS:∃C,cl 1003=some C/\XCl K mg "NoLetter" C
 zc:∃C,mg "NoLetter"=some (.ref C)/\∀c Ca,cl c=some Ca->PySem.W.exmOne K (.ref Ca) (.ref C)=some (decide (c=1003))
 B5:∃C,cl 1004=some C/\XCl K mg "Busy" C
 Kb:∃C,mg "Busy"=some (.ref C)/\∀c Ca,cl c=some Ca->PySem.W.exmOne K (.ref Ca) (.ref C)=some (decide (c=1004))
 Cz:∃C,cl 1005=some C/\XCl K mg "Idle" C
 Lz:∃C,mg "Idle"=some (.ref C)/\∀c Ca,cl c=some Ca->PySem.W.exmOne K (.ref Ca) (.ref C)=some (decide (c=1005))
set_option hygiene false in
local macro_rules |`(tactic|walk_at "e")=>`(tactic|first
 |exact fq _
 |exact x8
 |exact MG
 |exact NY
 |exact M8
 |exact Jn Z.g_BEGINNING
 |((fail_if_success (fail_if_success (with_reducible apply A9)));refine A9 hu ?_ ?_ <;> walk_at "e")
 |((fail_if_success (fail_if_success (with_reducible apply pK)));refine pK (Z.fA _ (by decide)) ?_;walk_at "e")
 |((with_reducible apply Jz) <;> walk_at "e")
 |((with_reducible apply Kz) <;> walk_at "e")
 |((with_reducible apply JJ) <;> walk_at "e")
 |((with_reducible apply JZ) <;> walk_at "e")
 |((with_reducible apply CG);walk_at "a")
 |((with_reducible apply NI);walk_at "a")
 |((fail_if_success (fail_if_success (with_reducible apply DN)));refine DN Z.MA ?_;walk_at "a")
 |((fail_if_success (fail_if_success (with_reducible apply Cc)));refine Cc rfl Z.Nv ?_;walk_at "a")
 |((fail_if_success (fail_if_success (with_reducible apply uO)));refine uO Z.oX ?_;walk_at "a")
 |((fail_if_success (fail_if_success (with_reducible apply Dy)));refine Dy Z.HP ?_;walk_at "a")
 |((fail_if_success (fail_if_success (with_reducible apply NU)));refine NU _ Z.oE ?_ ?_;(first |exact Z.HP |exact Z.IY |exact Z.M7 |exact Z.Ag |exact Z.oX |exact Z.Ks);walk_at "e")
 |((fail_if_success (fail_if_success (with_reducible apply Fq)));refine x_call (by assumption) ?_ ?_ ?_;exact hr.mono (by decide);(first |exact iq |exact DH kX kT);walk_at "a")
 |((fail_if_success (fail_if_success (with_reducible apply Fs)));refine yx (by assumption) ?_ ?_ ?_ ?_;exact hr.mono (by decide);(first |exact iq |exact DH kX kT);walk_at "e";walk_at "a")
 |((fail_if_success (fail_if_success (with_reducible apply Dw)));refine zU (by assumption) ?_ ?_ ?_;exact hr.mono (by decide);(first |exact iq |exact DH kX kT);walk_at "e")
 |((fail_if_success (fail_if_success (with_reducible apply Hf)));refine DA (by assumption) ?_ ?_ ?_;exact hr.mono (by decide);exact iq;walk_at "a")
 |((fail_if_success (fail_if_success (with_reducible apply DG)));refine Al (by assumption) ?_ ?_;exact hr.mono (by decide);exact iq)
 |((with_reducible apply Mt);walk_at "e";walk_at "e";exact hu)
 |((with_reducible apply NK);walk_at "e";walk_at "e";exact hu)
 |((with_reducible apply MK);walk_at "e";walk_at "e";exact hu)
 |((with_reducible apply M9);walk_at "e")
 |((with_reducible apply NG);walk_at "e")
 |((with_reducible apply HV) <;> walk_at "e")
 |((with_reducible apply PZ) <;> walk_at "e")
 |((with_reducible apply Ih);walk_at "e")
 |((fail_if_success (fail_if_success (with_reducible apply rC)));refine rC ?_ ?_ <;> walk_at "e")
 |((fail_if_success (fail_if_success (with_reducible apply Cj)));refine Cj ?_ ?_ (by walk_at "ss") <;> walk_at "e")
 |((fail_if_success (fail_if_success (with_reducible apply ot)));refine ot ?_ ?_ <;> walk_at "e")
 |((fail_if_success (fail_if_success (with_reducible apply Ay)));refine Ay ?_ ?_ <;> walk_at "e")
 |((with_reducible apply GF);walk_at "e";(first |exact DE |((with_reducible apply CB);walk_at "e"));(first |exact DE |((with_reducible apply CB);walk_at "e")))
 |exact GP
 |((with_reducible apply PB);walk_at "t";walk_at "e";walk_at "e")
 |exact za)
set_option hygiene false in
local macro_rules |`(tactic|walk_at "t")=>`(tactic|first
 |((with_reducible apply MD);walk_at "e";walk_at "e";exact hu)
 |((with_reducible apply Ng);walk_at "e";walk_at "e";exact hu)
 |((with_reducible apply Ms);walk_at "e";walk_at "e";exact hu)
 |((with_reducible apply MO);walk_at "e";walk_at "e";exact hu)
 |((with_reducible apply ME);walk_at "e";walk_at "e";exact hu)
 |((with_reducible apply Nn);walk_at "e";walk_at "e";exact hu)
 |((fail_if_success (fail_if_success (with_reducible apply xa)));refine xa ?_ ?_ hu <;> walk_at "e")
 |((with_reducible apply Nb);walk_at "e")
 |((with_reducible apply Lf);walk_at "e")
 |((with_reducible apply w5);walk_at "t")
 |((with_reducible apply PW.pt);walk_at "p")
 |((fail_if_success (fail_if_success (with_reducible apply By)));refine By ?_;walk_at "e"))
set_option hygiene false in
local macro_rules |`(tactic|walk_at "p")=>`(tactic|first
 |((with_reducible apply w_and);walk_at "t";walk_at "p")
 |((with_reducible apply w_or);walk_at "t";walk_at "p")
 |((with_reducible apply Ko);walk_at "t")
 |((with_reducible apply Dv);walk_at "t"))
set_option hygiene false in
local macro_rules |`(tactic|walk_at "a")=>`(tactic|first
 |exact qU
 |((fail_if_success (fail_if_success (with_reducible apply fi)));refine fi ?_ ?_ ?_;walk_at "e";walk_at "a";walk_at "ss"))
set_option hygiene false in
local macro_rules |`(tactic|walk_at "ss")=>`(tactic|first
 |exact gY
 |exact rP
 |exact pk
 |exact Eo
 |exact rR
 |exact Cr
 |exact mG
 |exact Eb
 |exact Ej
 |rfl)
set_option hygiene false in
local macro_rules |`(tactic|walk_at "q")=>`(tactic|first
 |exact F9
 |exact Ef
 |exact ou
 |exact Jq
 |exact Jj
 |exact JF
 |exact Fw
 |exact Jp
 |exact MW
 |rfl)
set_option hygiene false in
local macro_rules |`(tactic|walk_at "y")=>`(tactic|first
 |((with_reducible apply qw);walk_at "t";walk_at "b";walk_at "b")
 |((with_reducible apply y_ret);walk_at "e")
 |((fail_if_success (fail_if_success (with_reducible apply Ao)));refine Ao ?_ ?_ ?_ ?_ ?_ ?_;exact nd;exact rfl;(first |exact Or.inl rfl |exact Or.inr rfl);walk_at "e";walk_at "q";(walk_at "sb"))
 |((fail_if_success (fail_if_success (with_reducible apply rY)));refine rY ?_ ?_;walk_at "e";walk_at "q")
 |((fail_if_success (fail_if_success (with_reducible apply zP)));refine zP (Z.fA _ (by decide)) ?_ ?_ <;> walk_at "e")
 |((fail_if_success (fail_if_success (with_reducible apply ue)));refine ue ?_ rfl ?_ ?_ ?_;(first |exact PassesOwn.never |exact xZ);walk_at "i";walk_at "g";walk_at "b")
 |((fail_if_success (fail_if_success (with_reducible apply Ig)));refine Ig hu ?_ ?_ ?_ <;> walk_at "e")
 |((fail_if_success (fail_if_success (with_reducible apply ML)));refine ML ?_ ?_;walk_at "e";walk_at "g")
 |((with_reducible apply zO);(first |exact PassesOwn.never |exact xZ);walk_at "t";walk_at "b"))
set_option hygiene false in
local macro_rules |`(tactic|walk_at "i")=>`(tactic|first
 |((fail_if_success (fail_if_success (with_reducible apply nF)));refine nF Z.lX ?_;walk_at "e")
 |((fail_if_success (fail_if_success (with_reducible apply DZ)));refine DZ Z.wY ?_;walk_at "e")
 |((with_reducible apply r9);walk_at "e"))
set_option hygiene false in
local macro_rules |`(tactic|walk_at "g")=>`(tactic|first
 |((fail_if_success (fail_if_success (with_reducible apply AS)));refine AS ?_ ?_ ?_;exact nd;exact rfl;(first |exact Or.inl rfl |exact Or.inr rfl))
 |((fail_if_success (fail_if_success (with_reducible apply Lg)));refine Lg rfl ?_;walk_at "h"))
set_option hygiene false in
local macro_rules |`(tactic|walk_at "h")=>`(tactic|first
 |exact IC
 |((fail_if_success (fail_if_success (with_reducible apply uD)));refine uD ?_ ?_ ?_ ?_;exact nd;exact rfl;(first |exact Or.inl rfl |exact Or.inr rfl);walk_at "h"))
set_option hygiene false in
local macro_rules |`(tactic|walk_at "b")=>`(tactic|first
 |exact ky
 |(refine bV ?_;walk_at "y")
 |(refine aD ?_ ?_;walk_at "y";walk_at "b"))
section
seal L2.PE L2.PT L2.PW L2.PA L2.PS L2.PSs L2.PI L2.PG L2.PGs L2.PO L3.tE L3.tT L3.tA L3.tS L3.tI L3.tG L3.tGs
variable(P:Program)(w:World){K:PySem.W.Frag}(mg:Str->Option Value)(bs:Heap){cl:Nat->Option Addr}{fa:Addr}{fd:FuncData}
variable(Z:Txt K mg cl)
include Z
theorem zd(F:FU K "is_more" oT fa fd):FO P w K mg bs cl 1 fa fd ["count","many"] 2 mD:=by
 have sc:FS ["count","many"] 2 oT:=by walk_at "sc"
 walk_at "z3"
 delta oQ;walk_at "b"
theorem BB(F:FU K "newest" sx fa fd):FO P w K mg bs cl 1 fa fd ["pairs"] 1 n0:=by
 have sc:FS ["pairs","best","pair"] 1 sx:=by walk_at "sc"
 walk_at "z3"
 delta rH;walk_at "b"
theorem rM(F:FU K "stamp_after" iW fa fd):FO P w K mg bs cl 1 fa fd ["pairs","own","hand"] 3 gn:=by
 have sc:FS ["pairs","own","hand","turns"] 3 iW:=by walk_at "sc"
 walk_at "z3"
 delta iZ;refine aD ?_ ?_;exact(jt (i:=3) (Blk.nil rfl rfl (by decide +kernel) rfl) rfl sc.nd rfl rfl (r9 (by walk_at "e")) (fun _ _ _ _ _=>gv) (fun _ _ _ _ _=>(by refine A9 hu ?_ ?_;refine A9 hu ?_ ?_;exact(fq 0);exact x8;exact x8)));refine bV ?_;walk_at "y"
theorem uE(F:Fun K "__init__" "Hand.__init__" kO fa fd):FO P w K mg bs cl 1 fa fd ["self","number","count"] 3 iE:=by
 have sc:FS ["self","number","count"] 3 kO:=by walk_at "sc"
 walk_at "z3"
 delta k7;walk_at "b"
theorem qA(F:Fun K "letters" "Hand.letters" ik fa fd):FO P w K mg bs cl 1 fa fd ["self"] 1 cK:=by
 have sc:FS ["self","waited_for"] 1 ik:=by walk_at "sc"
 walk_at "z3"
 delta hW;refine aD ?_ ?_;exact(jt (i:=1) (Blk.of (caps:=[("self",0)]) (cl:=[("self",s.heap.objs.size+1)]) rfl rfl rfl rfl rfl (by decide) rfl rfl rfl rfl rfl) rfl sc.nd rfl rfl (nF Z.lX (by walk_at "e")) (fun _ _ _ _ _=>FE (pX (wG hu) (fq 0) (pK (Z.fA 6 (by decide)) (fq 1)) rfl)) (fun _ _ _ _ _=>(fq 0)));refine bV ?_;refine y_ret ?_;exact(oW (Blk.of (caps:=[("self",0)]) (cl:=[("self",s.heap.objs.size+1)]) rfl rfl rfl rfl rfl (by decide) rfl rfl rfl rfl rfl) rfl (r9 (by walk_at "e")) (fun _ _ _ _ _=>gv) (fun _ _ _ _ _=>(by refine CG ?_;refine fi ?_ ?_ ?_;exact(pK (Z.fA 0 (by decide)) (fq 1));refine fi ?_ ?_ ?_;exact(fq 0);refine fi ?_ ?_ ?_;exact(pK (Z.fA 5 (by decide)) (fq 1));refine fi ?_ ?_ ?_;exact(pK (Z.fA 4 (by decide)) (fq 1));exact qU;exact mG;exact mG;exact gY;exact mG)))
theorem mJ(F:Fun K "begin_round" "Hand.begin_round" eW fa fd)(SQ:MB P w K mg bs cl 1 0 "letters" 1 cK):FO P w K mg bs cl 2 fa fd ["self","pair"] 2 bG:=by
 have sc:FS ["self","pair"] 2 eW:=by walk_at "sc"
 walk_at "z3"
 delta ff;walk_at "b"
theorem sS(F:Fun K "begin" "Hand.begin" ke fa fd)(Q6:MB P w K mg bs cl 2 0 "begin_round" 2 bG):cj P w K mg bs (CX1 P w) 3 fa fd ["self","value"] (sp3 (TT cl) K 2 dZ):=by
 obtain⟨B5,HF,HG⟩:=Z.B5;have sc:FS ["self","value"] 2 ke:=by walk_at "sc"
 walk_at "z1"
 delta jD;refine aD ?_ ?_;refine qw ?_ ?_ ?_;walk_at "t";refine bV ?_;exact(y_raise kX kT hr.hd HG HF (by walk_at "a"));exact ky;refine aD ?_ ?_;walk_at "y";refine aD ?_ ?_;walk_at "y";refine bV ?_;walk_at "y"
theorem mL(F:Fun K "begin_write" "Hand.begin_write" fj fa fd)(Sn:MC P w K mg bs cl 3 0 "begin" 2 dZ):cj P w K mg bs (CX1 P w) 4 fa fd ["self","value"] (sp3 (TT cl) K 2 cT):=by
 have sc:FS ["self","value"] 2 fj:=by walk_at "sc"
 walk_at "z1"
 delta eS;walk_at "b"
theorem ny(F:Fun K "begin_read" "Hand.begin_read" fN fa fd)(Sn:MC P w K mg bs cl 3 0 "begin" 2 dZ):cj P w K mg bs (CX1 P w) 4 fa fd ["self"] (sp3 (TT cl) K 1 dG):=by
 have sc:FS ["self"] 1 fN:=by walk_at "sc"
 walk_at "z1"
 delta fO;walk_at "b"
theorem mT(F:Fun K "refuse_idle" "Hand.refuse_idle" fk fa fd):cj P w K mg bs (CX1 P w) 1 fa fd ["self"] (sp3 (TT cl) K 1 bH):=by
 obtain⟨Cz,HA,Hq⟩:=Z.Cz;have sc:FS ["self"] 1 fk:=by walk_at "sc"
 walk_at "z1"
 delta eX;refine bV ?_;refine qw ?_ ?_ ?_;walk_at "t";refine bV ?_;exact(y_raise kX kT hr.hd Hq HA (by walk_at "a"));exact ky
theorem nz(F:Fun K "send_again" "Hand.send_again" fH fa fd)(SQ:MB P w K mg bs cl 1 0 "letters" 1 cK)(SE:MC P w K mg bs cl 1 0 "refuse_idle" 1 bH):cj P w K mg bs (CX1 P w) 2 fa fd ["self"] (sp3 (TT cl) K 1 dH):=by
 have sc:FS ["self"] 1 fH:=by walk_at "sc"
 walk_at "z1"
 delta fJ;walk_at "b"
theorem qr(F:Fun K "give_up" "Hand.give_up" iz fa fd)(SE:MC P w K mg bs cl 1 0 "refuse_idle" 1 bH):cj P w K mg bs (CX1 P w) 2 fa fd ["self"] (sp3 (TT cl) K 1 fz):=by
 have sc:FS ["self"] 1 iz:=by walk_at "sc"
 walk_at "z1"
 delta hI;walk_at "b"
theorem rN(F:Fun K "chosen" "Hand.chosen" jb fa fd)(VJ:FB P w K mg bs cl 1 "newest" 1 n0)(Wy:FB P w K mg bs cl 1 "stamp_after" 3 gn):FO P w K mg bs cl 2 fa fd ["self"] 1 gm:=by
 have sc:FS ["self","pairs","stamp"] 1 jb:=by walk_at "sc"
 walk_at "z3"
 delta iY;refine aD ?_ ?_;refine Ao (i:=1) ?_ ?_ ?_ ?_ ?_ ?_;exact sc.nd;exact rfl;exact Or.inl rfl;exact(yp hr.hd (by walk_at "e") Z.oX);exact ou;walk_at "sb";refine aD ?_ ?_;walk_at "y";refine aD ?_ ?_;walk_at "y";refine aD ?_ ?_;walk_at "y";refine bV ?_;walk_at "y"
theorem vp(F:Fun K "hear" "Hand.hear" kJ fa fd)(Va:FB P w K mg bs cl 1 "is_more" 2 mD)(Q6:MB P w K mg bs cl 2 0 "begin_round" 2 bG)(Vv:MB P w K mg bs cl 2 0 "chosen" 1 gm):FO P w K mg bs cl 3 fa fd ["self","answer"] 2 iL:=by
 have sc:FS ["self","answer"] 2 kJ:=by walk_at "sc"
 walk_at "z3"
 delta lC;walk_at "b"
theorem sD(F:Fun K "__init__" "Keeper.__init__" ji fa fd):FO P w K mg bs cl 1 fa fd ["self"] 1 gx:=by
 have sc:FS ["self"] 1 ji:=by walk_at "sc"
 walk_at "z3"
 delta jj;walk_at "b"
theorem sA(F:Fun K "stop" "Keeper.stop" jc fa fd):FO P w K mg bs cl 1 fa fd ["self"] 1 gy:=by
 have sc:FS ["self","changed"] 1 jc:=by walk_at "sc"
 walk_at "z3"
 delta jd;walk_at "b"
theorem sF(F:Fun K "wake" "Keeper.wake" ja fa fd):FO P w K mg bs cl 1 fa fd ["self"] 1 gr:=by
 have sc:FS ["self","changed"] 1 ja:=by walk_at "sc"
 walk_at "z3"
 delta jf;walk_at "b"
theorem sg(F:Fun K "keep" "Keeper.keep" jh fa fd):FO P w K mg bs cl 1 fa fd ["self","pair"] 2 gz:=by
 have sc:FS ["self","pair"] 2 jh:=by walk_at "sc"
 walk_at "z3"
 delta jg;walk_at "b"
theorem mM(F:Fun K "answer_to" "Keeper.answer_to" eQ fa fd)(Vr:MB P w K mg bs cl 1 1 "keep" 2 gz):FO P w K mg bs cl 2 fa fd ["self","letter"] 2 cW:=by
 have sc:FS ["self","letter","pair"] 2 eQ:=by walk_at "sc"
 walk_at "z3"
 delta eV;walk_at "b"
theorem vV(F:Fun K "__init__" "Hall.__init__" lN fa fd)(Qp:Ct3 P w K mg bs CX0 (TT cl) 1 "Hand" 0 3 iE)(RY:Ct3 P w K mg bs CX0 (TT cl) 1 "Keeper" 1 1 gx):FO P w K mg bs cl 3 fa fd ["self","count","many"] 3 gD:=by
 have sc:FS ["self","count","many"] 3 lN:=by walk_at "sc"
 walk_at "z3"
 delta ly;refine aD ?_ ?_;exact(zP (Z.fA 9 (by decide)) (by walk_at "e") (oW (Blk.of (caps:=[]) (cl:=[]) rfl rfl rfl rfl rfl (by decide) rfl rfl rfl rfl rfl) rfl (nF Z.lX (by walk_at "e")) (fun _ _ _ _ _=>gv) (fun _ _ _ _ _=>(Al RY (hr.mono (by decide)) iq))));refine aD ?_ ?_;exact(zP (Z.fA 10 (by decide)) (by walk_at "e") (oW (Blk.of (caps:=[("count",1)]) (cl:=[("count",s.heap.objs.size+1)]) rfl rfl rfl rfl rfl (by decide) rfl rfl rfl rfl rfl) rfl (nF Z.lX (by walk_at "e")) (fun _ _ _ _ _=>gv) (fun _ _ _ _ _=>(DA Qp (hr.mono (by decide)) iq (fi (fq 0) (fi (fq 1) qU gY) gY)))));refine bV ?_;walk_at "y"
theorem qj(F:Fun K "hand_of" "Hall.hand_of" ib fa fd):cj P w K mg bs (CX1 P w) 1 fa fd ["self","number"] (sp3 (TT cl) K 2 aU):=by
 obtain⟨wI,BK,BO⟩:=Z.wI;have sc:FS ["self","number"] 2 ib:=by walk_at "sc"
 walk_at "z1"
 delta hZ;refine aD ?_ ?_;refine qw ?_ ?_ ?_;walk_at "t";refine bV ?_;exact(y_raise kX kT hr.hd BO BK (by walk_at "a"));exact ky;refine bV ?_;walk_at "y"
theorem nX(F:Fun K "keeper_of" "Hall.keeper_of" fZ fa fd):cj P w K mg bs (CX1 P w) 1 fa fd ["self","number"] (sp3 (TT cl) K 2 bi):=by
 obtain⟨rg,yl,yi⟩:=Z.rg;have sc:FS ["self","number"] 2 fZ:=by walk_at "sc"
 walk_at "z1"
 delta fX;refine aD ?_ ?_;refine qw ?_ ?_ ?_;walk_at "t";refine bV ?_;exact(y_raise kX kT hr.hd yi yl (by walk_at "a"));exact ky;refine bV ?_;walk_at "y"
theorem vA(F:Fun K "send" "Hall.send" lV fa fd):FO P w K mg bs cl 1 fa fd ["self","letters"] 2 bT:=by
 have sc:FS ["self","letters"] 2 lV:=by walk_at "sc"
 walk_at "z3"
 delta lI;refine bV ?_;refine rY ?_ ?_;refine ot ?_ ?_;walk_at "e";exact(oW (Blk.nil rfl rfl (by decide +kernel) rfl) rfl (r9 (by walk_at "e")) (fun _ _ _ _ _=>gv) (fun _ _ _ _ _=>(by refine CG ?_;refine fi ?_ ?_ ?_;exact M8;refine fi ?_ ?_ ?_;exact(fq 0);exact qU;exact gY;exact rP)));exact ou
theorem sL(F:Fun K "write" "Hall.write" jN fa fd)(Vs:MC P w K mg bs cl 4 0 "begin_write" 2 cT)(O9:MC P w K mg bs cl 1 2 "hand_of" 2 aU)(QO:MB P w K mg bs cl 1 2 "send" 2 bT):cj P w K mg bs (CX1 P w) 5 fa fd ["self","hand","value"] (sp3 (TT cl) K 3 gN):=by
 have sc:FS ["self","hand","value"] 3 jN:=by walk_at "sc"
 walk_at "z1"
 delta jZ;walk_at "b"
theorem uW(F:Fun K "read" "Hall.read" kP fa fd)(V8:MC P w K mg bs cl 4 0 "begin_read" 1 dG)(O9:MC P w K mg bs cl 1 2 "hand_of" 2 aU)(QO:MB P w K mg bs cl 1 2 "send" 2 bT):cj P w K mg bs (CX1 P w) 5 fa fd ["self","hand"] (sp3 (TT cl) K 2 iH):=by
 have sc:FS ["self","hand"] 2 kP:=by walk_at "sc"
 walk_at "z1"
 delta kL;walk_at "b"
theorem tu(F:Fun K "again" "Hall.again" jK fa fd)(Vk:MC P w K mg bs cl 2 0 "send_again" 1 dH)(O9:MC P w K mg bs cl 1 2 "hand_of" 2 aU)(QO:MB P w K mg bs cl 1 2 "send" 2 bT):cj P w K mg bs (CX1 P w) 3 fa fd ["self","hand"] (sp3 (TT cl) K 2 gQ):=by
 have sc:FS ["self","hand","letters"] 2 jK:=by walk_at "sc"
 walk_at "z1"
 delta kf;walk_at "b"
theorem sO(F:Fun K "leave" "Hall.leave" j8 fa fd)(VC:MC P w K mg bs cl 2 0 "give_up" 1 fz)(O9:MC P w K mg bs cl 1 2 "hand_of" 2 aU):cj P w K mg bs (CX1 P w) 3 fa fd ["self","hand"] (sp3 (TT cl) K 2 gR):=by
 have sc:FS ["self","hand"] 2 j8:=by walk_at "sc"
 walk_at "z1"
 delta jY;walk_at "b"
theorem mQ(F:Fun K "stop_keeper" "Hall.stop_keeper" e9 fa fd)(Tw:MB P w K mg bs cl 1 1 "stop" 1 gy)(OR:MC P w K mg bs cl 1 2 "keeper_of" 2 bi):cj P w K mg bs (CX1 P w) 2 fa fd ["self","keeper"] (sp3 (TT cl) K 2 cV):=by
 have sc:FS ["self","keeper"] 2 e9:=by walk_at "sc"
 walk_at "z1"
 delta fg;walk_at "b"
theorem mR(F:Fun K "wake_keeper" "Hall.wake_keeper" fm fa fd)(UC:MB P w K mg bs cl 1 1 "wake" 1 gr)(OR:MC P w K mg bs cl 1 2 "keeper_of" 2 bi):cj P w K mg bs (CX1 P w) 2 fa fd ["self","keeper"] (sp3 (TT cl) K 2 cU):=by
 have sc:FS ["self","keeper"] 2 fm:=by walk_at "sc"
 walk_at "z1"
 delta eY;walk_at "b"
theorem jW(F:Fun K "come_to_keeper" "Hall.come_to_keeper" dD fa fd)(Tf:MB P w K mg bs cl 2 1 "answer_to" 2 cW):FO P w K mg bs cl 3 fa fd ["self","letter"] 2 b9:=by
 have sc:FS ["self","letter","answer"] 2 dD:=by walk_at "sc"
 walk_at "z3"
 delta dB;walk_at "b"
theorem lH(F:Fun K "come_to_hand" "Hall.come_to_hand" eG fa fd)(Ua:MB P w K mg bs cl 3 0 "hear" 2 iL)(QO:MB P w K mg bs cl 1 2 "send" 2 bT):FO P w K mg bs cl 4 fa fd ["self","answer"] 2 cB:=by
 have sc:FS ["self","answer","brought"] 2 eG:=by walk_at "sc"
 walk_at "z3"
 delta eE;walk_at "b"
theorem vd(F:Fun K "come" "Hall.come" lg fa fd)(TY:MB P w K mg bs cl 3 2 "come_to_keeper" 2 b9)(Uo:MB P w K mg bs cl 4 2 "come_to_hand" 2 cB):FO P w K mg bs cl 5 fa fd ["self","place","stays"] 3 cN:=by
 have sc:FS ["self","place","stays","entry"] 3 lg:=by walk_at "sc"
 walk_at "z3"
 delta lP;walk_at "b"
theorem tp(F:Fun K "carry" "Hall.carry" jJ fa fd)(OE:MB P w K mg bs cl 5 2 "come" 3 cN):cj P w K mg bs (CX1 P w) 6 fa fd ["self","number","stays"] (sp3 (TT cl) K 3 gU):=by
 obtain⟨rS,ye,yj⟩:=Z.rS;have sc:FS ["self","number","stays"] 3 jJ:=by walk_at "sc"
 walk_at "z1"
 delta ko;refine aD ?_ ?_;refine qw ?_ ?_ ?_;walk_at "t";refine bV ?_;exact(y_raise kX kT hr.hd yj ye (by walk_at "a"));exact ky;refine bV ?_;walk_at "y"
theorem kG(F:Fun K "first_between" "Hall.first_between" dW fa fd):FO P w K mg bs cl 1 fa fd ["self","hand","keeper"] 3 bM:=by
 have sc:FS ["self","hand","keeper","place","entry"] 3 dW:=by walk_at "sc"
 walk_at "z3"
 delta dN;walk_at "b"
theorem kI(F:Fun K "carry_between" "Hall.carry_between" dX fa fd)(O9:MC P w K mg bs cl 1 2 "hand_of" 2 aU)(OR:MC P w K mg bs cl 1 2 "keeper_of" 2 bi)(OE:MB P w K mg bs cl 5 2 "come" 3 cN)(TV:MB P w K mg bs cl 1 2 "first_between" 3 bM):cj P w K mg bs (CX1 P w) 6 fa fd ["self","hand","keeper"] (sp3 (TT cl) K 3 cn):=by
 have sc:FS ["self","hand","keeper","ends","place"] 3 dX:=by walk_at "sc"
 walk_at "z1"
 delta dQ;walk_at "b"
theorem sW(F:Fun K "sweep" "Hall.sweep" kg fa fd)(OE:MB P w K mg bs cl 5 2 "come" 3 cN):FO P w K mg bs cl 6 fa fd ["self"] 1 gS:=by
 have sc:FS ["self","ends"] 1 kg:=by walk_at "sc"
 walk_at "z3"
 delta jM;walk_at "b"
theorem v5(F:Fun K "__init__" "Work.__init__" lu fa fd):FO P w K mg bs cl 1 fa fd ["self","hand","word","value","begun"] 5 iP:=by
 have sc:FS ["self","hand","word","value","begun"] 5 lu:=by walk_at "sc"
 walk_at "z3"
 delta kS;walk_at "b"
theorem wg(F:Fun K "told" "Work.told" lK fa fd):FO P w K mg bs cl 1 fa fd ["self"] 1 iM:=by
 have sc:FS ["self"] 1 lK:=by walk_at "sc"
 walk_at "z3"
 delta kZ;walk_at "b"
theorem td(F:Fun K "__init__" "Story.__init__" jL fa fd)(UP:Ct3 P w K mg bs CX0 (TT cl) 3 "Hall" 2 3 gD):FO P w K mg bs cl 5 fa fd ["self","count","many"] 3 dY:=by
 have sc:FS ["self","count","many"] 3 jL:=by walk_at "sc"
 walk_at "z3"
 delta jP;walk_at "b"
theorem nJ(F:Fun K "note_work" "Story.note_work" fG fa fd)(TH:Ct3 P w K mg bs CX0 (TT cl) 1 "Work" 3 5 iP):FO P w K mg bs cl 3 fa fd ["self","hand","word","value"] 4 cm:=by
 have sc:FS ["self","hand","word","value","place"] 4 fG:=by walk_at "sc"
 walk_at "z3"
 delta fL;walk_at "b"
theorem oJ(F:Fun K "note_end" "Story.note_end" fT fa fd):FO P w K mg bs cl 1 fa fd ["self","hand","pair"] 3 eA:=by
 have sc:FS ["self","hand","pair","place","work"] 3 fT:=by walk_at "sc"
 walk_at "z3"
 delta gh;walk_at "b"
theorem m9(F:Fun K "note_ends" "Story.note_ends" fB fa fd)(Rc:MB P w K mg bs cl 1 4 "note_end" 3 eA):FO P w K mg bs cl 2 fa fd ["self","ends"] 2 bw:=by
 have sc:FS ["self","ends"] 2 fB:=by walk_at "sc"
 walk_at "z3"
 delta fP;refine bV ?_;refine y_ret ?_;exact(oW (Blk.of (caps:=[("self",0)]) (cl:=[("self",s.heap.objs.size+1)]) rfl rfl rfl rfl rfl (by decide) rfl rfl rfl rfl rfl) rfl (r9 (by walk_at "e")) (fun _ _ _ _ _=>gv) (fun _ _ _ _ _=>(yx Rc (hr.mono (by decide)) iq (fq 1) (fi (by refine A9 hu ?_ ?_;exact(fq 0);exact x8) (fi (by refine A9 hu ?_ ?_;exact(fq 0);exact x8) qU rR) rR))))
theorem sP(F:Fun K "done" "Story.done" jH fa fd)(Te:MC P w K mg bs cl 5 2 "write" 3 gN)(TJ:MC P w K mg bs cl 5 2 "read" 2 iH)(UB:MC P w K mg bs cl 3 2 "again" 2 gQ)(Tp:MC P w K mg bs cl 3 2 "leave" 2 gR)(Tt:MC P w K mg bs cl 2 2 "stop_keeper" 2 cV)(Tb:MC P w K mg bs cl 2 2 "wake_keeper" 2 cU)(Ta:MC P w K mg bs cl 6 2 "carry" 3 gU)(Us:MC P w K mg bs cl 6 2 "carry_between" 3 cn)(Tg:MB P w K mg bs cl 6 2 "sweep" 1 gS)(T1:MB P w K mg bs cl 3 4 "note_work" 4 cm)(T9:MB P w K mg bs cl 2 4 "note_ends" 2 bw):cj P w K mg bs (CX1 P w) 7 fa fd ["self","deed"] (sp3 (TT cl) K 2 gV):=by
 have sc:FS ["self","deed","word","ends"] 2 jH:=by walk_at "sc"
 walk_at "z1"
 delta jR;walk_at "b"
theorem iX(F:Fun K "done_or_refused" "Story.done_or_refused" cL fa fd)(RB:MC P w K mg bs cl 7 4 "done" 2 gV):FO P w K mg bs cl 8 fa fd ["self","deed"] 2 bP:=by
 obtain⟨N5,BQ,BP⟩:=Z.CS;obtain⟨LQ,yh,ym⟩:=Z.zH;obtain⟨LA,yk,yf⟩:=Z.zc;obtain⟨Qr,Ht,HM⟩:=Z.Kb;obtain⟨RJ,Hy,Hu⟩:=Z.Lz;have sc:FS ["self","deed"] 2 cL:=by walk_at "sc"
 walk_at "z3"
 delta cH;refine bV ?_;exact(Cv Aq (GD Aq RB (hr.mono (by decide)) (fun _=>(by walk_at "e")) (fun _=>(by walk_at "a"))) (Hs.cons BQ rfl (by decide) BP (fun _=>(by walk_at "b")) (Hs.cons yh rfl (by decide) ym (fun _=>(by walk_at "b")) (Hs.cons yk rfl (by decide) yf (fun _=>(by walk_at "b")) (Hs.cons Ht rfl (by decide) HM (fun _=>(by walk_at "b")) (Hs.cons Hy rfl (by decide) Hu (fun _=>(by walk_at "b")) Hs.nil))))))
theorem lJ(F:Fun K "note_stamps" "Story.note_stamps" eK fa fd):FO P w K mg bs cl 1 fa fd ["self"] 1 cE:=by
 have sc:FS ["self","hand","place","pair","work"] 1 eK:=by walk_at "sc"
 walk_at "z3"
 delta eI;refine bV ?_;exact(FK PassesOwn.never rfl (by walk_at "e") (Lg rfl (uD (i:=1) sc.nd rfl (Or.inl rfl) (uD (i:=2) sc.nd rfl (Or.inl rfl) IC))) (by walk_at "b"))
theorem qt(F:Fun K "answer" "Story.answer" hG fa fd)(T8:MB P w K mg bs cl 8 4 "done_or_refused" 2 bP)(TK:MB P w K mg bs cl 1 4 "note_stamps" 1 cE):FO P w K mg bs cl 9 fa fd ["self","deed"] 2 b8:=by
 have sc:FS ["self","deed","told"] 2 hG:=by walk_at "sc"
 walk_at "z3"
 delta ie;walk_at "b"
theorem yX(F:FU K "answers" pe fa fd)(R1:Ct3 P w K mg bs CX0 (TT cl) 5 "Story" 4 3 dY)(Oz:MB P w K mg bs cl 9 4 "answer" 2 b8):FO P w K mg bs cl 10 fa fd ["count","many","deeds"] 3 mn:=by
 have sc:FS ["count","many","deeds","story"] 3 pe:=by walk_at "sc"
 walk_at "z3"
 delta pb;refine aD ?_ ?_;walk_at "y";refine bV ?_;refine y_ret ?_;exact(oW (Blk.of (caps:=[("story",3)]) (cl:=[("story",s.heap.objs.size+1)]) rfl rfl rfl rfl rfl (by decide) rfl rfl rfl rfl rfl) rfl (r9 (by walk_at "e")) (fun _ _ _ _ _=>gv) (fun _ _ _ _ _=>(yx Oz (hr.mono (by decide)) iq (fq 1) (fi (fq 0) qU gY))))
theorem uV(F:FU K "all_after" lA fa fd)(SW:MB P w K mg bs cl 1 3 "told" 1 iM)(R1:Ct3 P w K mg bs CX0 (TT cl) 5 "Story" 4 3 dY)(Oz:MB P w K mg bs cl 9 4 "answer" 2 b8):FO P w K mg bs cl 10 fa fd ["count","many","deeds"] 3 iI:=by
 have sc:FS ["count","many","deeds","story","deed","works","stamps","pairs"] 3 lA:=by walk_at "sc"
 walk_at "z3"
 delta k6;refine aD ?_ ?_;walk_at "y";refine aD ?_ ?_;walk_at "y";refine aD ?_ ?_;exact(jt (i:=5) (Blk.nil rfl rfl (by decide +kernel) rfl) rfl sc.nd rfl rfl (r9 (by walk_at "e")) (fun _ _ _ _ _=>gv) (fun _ _ _ _ _=>(zU SW (hr.mono (by decide)) iq (fq 0))));refine aD ?_ ?_;exact(jt (i:=6) (Blk.nil rfl rfl (by decide +kernel) rfl) rfl sc.nd rfl rfl (r9 (by walk_at "e")) (fun _ _ _ _ _=>gv) (fun _ _ _ _ _=>(pK (Z.fA 16 (by decide)) (fq 0))));refine aD ?_ ?_;exact(jt (i:=7) (Blk.nil rfl rfl (by decide +kernel) rfl) rfl sc.nd rfl rfl (r9 (by walk_at "e")) (fun _ _ _ _ _=>gv) (fun _ _ _ _ _=>(pK (Z.fA 4 (by decide)) (fq 0))));refine bV ?_;walk_at "y"
theorem HU(F:FU K "_law_so" Lu fa fd)(hm:mg "_law_so"=some (.ref fa))(hb:Binds K fd ["_law_found","_law_meant"] []):∀n,FB P w K mg bs cl (1+n) "_law_so" 2 (wC n)
 |0=>fn3 (k:=0) F Az hm hb rfl rfl fun jC A outer s H E hr=>Hi
 |n+1=>by
  have ih:=HU F hm hb n;exact fn3 (k:=1+n) F Az hm hb rfl rfl fun jC A outer s H E hr=>have hu:=hr.units;have nd:=Az.nd
  (by delta F4;refine aD ?_ ?_;walk_at "y";refine aD ?_ ?_;walk_at "y";refine aD ?_ ?_;walk_at "y";refine aD ?_ ?_;walk_at "y";refine aD ?_ ?_;refine qw ?_ ?_ ?_;walk_at "t";refine bV ?_;refine y_ret ?_;exact(HV (by walk_at "e") (Ih (x_call ih (hr.mono (by omega)) iq (fi za (fi za qU pk) pk))));exact ky;refine aD ?_ ?_;walk_at "y";refine aD ?_ ?_;refine qw ?_ ?_ ?_;exact(PW.pt (w_or (by walk_at "t") (Dv (w5 (By (Je .lst .tup Z.oE Z.oX Z.Ag (by walk_at "e")))))));walk_at "b";exact ky;refine aD ?_ ?_;walk_at "y";refine aD ?_ ?_;exact(ue PassesOwn.never rfl (nF Z.lX (by walk_at "e")) (AS (i:=2) Az.nd rfl (Or.inl rfl)) (by refine bV ?_;refine qw ?_ ?_ ?_;exact(w5 (By (x_call ih (hr.mono (by omega)) iq (by walk_at "a"))));walk_at "b";exact ky));refine bV ?_;walk_at "y")
theorem Dk(F:FU K "_law_whole" vo fa fd):FO P w K mg bs cl 1 fa fd ["_law_found"] 1 dI:=by
 have sc:FS ["_law_found"] 1 vo:=by walk_at "sc"
 walk_at "z3"
 delta uY;walk_at "b"
theorem Nc(F:FU K "_law_at" Lo fa fd):FO P w K mg bs cl 1 fa fd ["_law_script","_law_k"] 2 xt:=by
 have sc:FS ["_law_script","_law_k"] 2 Lo:=by walk_at "sc"
 walk_at "z3"
 delta Ky;walk_at "b"
theorem xm(F:FU K "_law_value_by" m8 fa fd):FO P w K mg bs cl 1 fa fd ["_law_cell","_law_k"] 2 jT:=by
 have sc:FS ["_law_cell","_law_k","_law_wide","_law_some"] 2 m8:=by walk_at "sc"
 walk_at "z3"
 delta nK;walk_at "b"
theorem yu(F:FU K "_law_deed_of" pw fa fd)(Ug:FB P w K mg bs cl 1 "_law_value_by" 2 jT):FO P w K mg bs cl 2 fa fd ["_law_cell","_law_k","_law_count","_law_many"] 4 jq:=by
 have sc:FS ["_law_cell","_law_k","_law_count","_law_many","_law_way","_law_hand","_law_keeper","_law_number"] 4 pw:=by walk_at "sc"
 walk_at "z3"
 delta oR;walk_at "b"
theorem yK(F:FU K "_law_opening" oY fa fd):FO P w K mg bs cl 1 fa fd ["_law_cell","_law_count","_law_many"] 3 my:=by
 have sc:FS ["_law_cell","_law_count","_law_many","_law_way","_law_deeds"] 3 oY:=by walk_at "sc"
 walk_at "z3"
 delta o5;walk_at "b"
theorem C5(F:FU K "_law_drawn" u0 fa fd)(TR:FB P w K mg bs cl 2 "_law_deed_of" 4 jq)(Ub:FB P w K mg bs cl 1 "_law_opening" 3 my):FO P w K mg bs cl 3 fa fd ["_law_cells","_law_count","_law_many"] 3 nW:=by
 have sc:FS ["_law_cells","_law_count","_law_many","_law_deeds","_law_k"] 3 u0:=by walk_at "sc"
 walk_at "z3"
 delta vg;walk_at "b"
theorem xG(F:FU K "_law_is_stamp" nr fa fd)(Sr:FB P w K mg bs cl 1 "_law_whole" 1 dI):FO P w K mg bs cl 2 fa fd ["_law_found"] 1 fY:=by
 have sc:FS ["_law_found"] 1 nr:=by walk_at "sc"
 walk_at "z3"
 delta ng;walk_at "b"
theorem yP(F:FU K "_law_is_pair" pA fa fd)(Sr:FB P w K mg bs cl 1 "_law_whole" 1 dI)(Sx:FB P w K mg bs cl 2 "_law_is_stamp" 1 fY):FO P w K mg bs cl 3 fa fd ["_law_found"] 1 mz:=by
 have sc:FS ["_law_found"] 1 pA:=by walk_at "sc"
 walk_at "z3"
 delta pj;walk_at "b"
theorem yO(F:FU K "_law_is_work" pF fa fd)(Sr:FB P w K mg bs cl 1 "_law_whole" 1 dI):FO P w K mg bs cl 2 fa fd ["_law_found"] 1 mv:=by
 have sc:FS ["_law_found","_law_hand","_law_word","_law_value","_law_begun","_law_ended"] 1 pF:=by walk_at "sc"
 walk_at "z3"
 delta pE;walk_at "b"
theorem uF(F:FU K "_law_all_kinds" kQ fa fd)(Sx:FB P w K mg bs cl 2 "_law_is_stamp" 1 fY)(Uz:FB P w K mg bs cl 3 "_law_is_pair" 1 mz)(UG:FB P w K mg bs cl 2 "_law_is_work" 1 mv):FO P w K mg bs cl 4 fa fd ["_law_found","_law_count"] 2 iT:=by
 have sc:FS ["_law_found","_law_count","_law_row","_law_one","_law_stamp","_law_pair"] 2 kQ:=by walk_at "sc"
 walk_at "z3"
 delta kK;walk_at "b"
theorem wN(F:FU K "_law_all_told" nj fa fd)(UH:FB P w K mg bs cl 10 "all_after" 3 iI)(Ut:FB P w K mg bs cl 4 "_law_all_kinds" 2 iT):FO P w K mg bs cl 11 fa fd ["_law_count","_law_many","_law_deeds"] 3 jO:=by
 have sc:FS ["_law_count","_law_many","_law_deeds","_law_handed","_law_found"] 3 nj:=by walk_at "sc"
 walk_at "z3"
 delta nH;walk_at "b"
theorem xM(F:FU K "_law_new_hall" nu fa fd):FO P w K mg bs cl 1 fa fd ["_law_count","_law_many"] 2 jQ:=by
 have sc:FS ["_law_count","_law_many","_law_hands","_law_k","_law_hall"] 2 nu:=by walk_at "sc"
 walk_at "z3"
 delta nG;refine aD ?_ ?_;walk_at "y";refine aD ?_ ?_;exact(ue PassesOwn.never rfl (nF Z.lX (by walk_at "e")) (AS (i:=3) sc.nd rfl (Or.inl rfl)) (by refine bV ?_;refine rY ?_ ?_;exact(rC (by walk_at "e") (B3 (iK (by walk_at "e") (iK (by walk_at "e") (iK (by walk_at "e") (iK (by walk_at "e") (iK (by walk_at "e") Dp)))))));exact ou));refine aD ?_ ?_;refine Ao (i:=4) ?_ ?_ ?_ ?_ ?_ ?_;exact sc.nd;exact rfl;exact Or.inl rfl;exact(B3 (iK (by walk_at "e") (iK (by walk_at "e") (iK (by walk_at "e") Dp))));exact rfl;walk_at "sb";refine aD ?_ ?_;walk_at "y";refine aD ?_ ?_;walk_at "y";refine aD ?_ ?_;walk_at "y";refine bV ?_;walk_at "y"
theorem F3(F:FU K "_law_sent" yE fa fd):FO P w K mg bs cl 1 fa fd ["_law_hall","_law_k"] 2 nI:=by
 have sc:FS ["_law_hall","_law_k","_law_hand","_law_many","_law_keeper"] 2 yE:=by walk_at "sc"
 walk_at "z3"
 delta yG;walk_at "b"
theorem Bl(F:FU K "_law_second" rW fa fd)(Sl:FB P w K mg bs cl 1 "_law_sent" 2 nI):FO P w K mg bs cl 2 fa fd ["_law_hall","_law_k"] 2 oB:=by
 have sc:FS ["_law_hall","_law_k","_law_hand","_law_pair","_law_keeper"] 2 rW:=by walk_at "sc"
 walk_at "z3"
 delta rG;refine aD ?_ ?_;walk_at "y";refine aD ?_ ?_;walk_at "y";refine aD ?_ ?_;exact(ue PassesOwn.never rfl (r9 (zE hr.hd (by walk_at "e") Z.oX)) (AS (i:=4) sc.nd rfl (Or.inl rfl)) (by walk_at "b"));refine aD ?_ ?_;walk_at "y";refine aD ?_ ?_;walk_at "y";refine aD ?_ ?_;walk_at "y";refine aD ?_ ?_;walk_at "y";refine aD ?_ ?_;walk_at "y";refine bV ?_;walk_at "y"
theorem D2(F:FU K "_law_heard" va fa fd)(UM:FB P w K mg bs cl 2 "_law_second" 2 oB):FO P w K mg bs cl 3 fa fd ["_law_hall","_law_letter","_law_time"] 3 qH:=by
 have sc:FS ["_law_hall","_law_letter","_law_time","_law_back","_law_k","_law_keeper","_law_call","_law_pair","_law_hand","_law_work"] 3 va:=by walk_at "sc"
 walk_at "z3"
 delta vm;walk_at "b"
theorem yV(F:FU K "_law_brought" pG fa fd)(Th:FB P w K mg bs cl 3 "_law_heard" 3 qH):FO P w K mg bs cl 4 fa fd ["_law_hall","_law_letter","_law_time"] 3 fu:=by
 have sc:FS ["_law_hall","_law_letter","_law_time","_law_there","_law_k","_law_keeper","_law_call","_law_pair"] 3 pG:=by walk_at "sc"
 walk_at "z3"
 delta mf;walk_at "b"
theorem xu(F:FU K "_law_due_many" nN fa fd)(RM:FB P w K mg bs cl 4 "_law_brought" 3 fu):FO P w K mg bs cl 5 fa fd ["_law_hall","_law_deed","_law_time"] 3 j5:=by
 have sc:FS ["_law_hall","_law_deed","_law_time","_law_ends","_law_again","_law_letter","_law_fits"] 3 nN:=by walk_at "sc"
 walk_at "z3"
 delta m5;refine aD ?_ ?_;walk_at "y";refine aD ?_ ?_;walk_at "y";refine aD ?_ ?_;exact(zO PassesOwn.never (by walk_at "t") (by refine aD ?_ ?_;walk_at "y";refine bV ?_;exact(ue PassesOwn.never rfl (r9 (uO Z.oX (by walk_at "a"))) (AS (i:=5) sc.nd rfl (Or.inl rfl)) (by refine aD ?_ ?_;walk_at "y";refine bV ?_;refine qw ?_ ?_ ?_;walk_at "t";refine aD ?_ ?_;refine rY ?_ ?_;refine B4 hu ?_ ?_;walk_at "e";walk_at "e";exact ou;refine aD ?_ ?_;walk_at "y";refine bV ?_;walk_at "y";exact ky))));refine bV ?_;walk_at "y"
theorem xq(F:FU K "_law_due_work" nA fa fd)(Sl:FB P w K mg bs cl 1 "_law_sent" 2 nI):FO P w K mg bs cl 2 fa fd ["_law_hall","_law_deed","_law_time"] 3 eT:=by
 have sc:FS ["_law_hall","_law_deed","_law_time","_law_hand"] 3 nA:=by walk_at "sc"
 walk_at "z3"
 delta ig;walk_at "b"
theorem sY(F:FU K "_law_due_answer" jG fa fd)(RM:FB P w K mg bs cl 4 "_law_brought" 3 fu)(Ui:FB P w K mg bs cl 5 "_law_due_many" 3 j5)(UQ:FB P w K mg bs cl 2 "_law_due_work" 3 eT):FO P w K mg bs cl 6 fa fd ["_law_hall","_law_deed","_law_time"] 3 bR:=by
 have sc:FS ["_law_hall","_law_deed","_law_time","_law_was","_law_place","_law_letter"] 3 jG:=by walk_at "sc"
 walk_at "z3"
 delta cZ;walk_at "b"
theorem CM(F:FU K "_law_alike" vZ fa fd)(Sr:FB P w K mg bs cl 1 "_law_whole" 1 dI):FO P w K mg bs cl 2 fa fd ["_law_found","_law_due"] 2 mw:=by
 have sc:FS ["_law_found","_law_due"] 2 vZ:=by walk_at "sc"
 walk_at "z3"
 delta iR;walk_at "b"
theorem GB(F:FU K "_law_room" yr fa fd):FO P w K mg bs cl 1 fa fd ["_law_script","_law_most","_law_bound"] 3 rQ:=by
 have sc:FS ["_law_script","_law_most","_law_bound"] 3 yr:=by walk_at "sc"
 walk_at "z3"
 delta yt;walk_at "b"
theorem JV(F:FU K "law" tU fa fd)(Ur:FB P w K mg bs cl 10 "answers" 3 mn)(Ql:∀n,FB P w K mg bs cl (1+n) "_law_so" 2 (wC n))(TC:FB P w K mg bs cl 1 "_law_at" 2 xt)(T4:FB P w K mg bs cl 3 "_law_drawn" 3 nW)(Tq:FB P w K mg bs cl 11 "_law_all_told" 3 jO)(UK:FB P w K mg bs cl 1 "_law_new_hall" 2 jQ)(TF:FB P w K mg bs cl 6 "_law_due_answer" 3 bR)(UA:FB P w K mg bs cl 2 "_law_alike" 2 mw)(Ti:FB P w K mg bs cl 1 "_law_room" 3 rQ):FO P w K mg bs cl 12 fa fd ["_law_script"] 1 pL:=by
 have sc:FS ["_law_script","_law_count","_law_many","_law_deeds","_law_handed","_law_told","_law_hall","_law_k","_law_found"] 1 tU:=by walk_at "sc"
 walk_at "z3"
 delta D5;refine aD ?_ ?_;walk_at "y";refine aD ?_ ?_;walk_at "y";refine aD ?_ ?_;walk_at "y";refine aD ?_ ?_;walk_at "y";refine aD ?_ ?_;walk_at "y";refine aD ?_ ?_;walk_at "y";refine aD ?_ ?_;walk_at "y";refine aD ?_ ?_;walk_at "y";refine aD ?_ ?_;walk_at "y";refine aD ?_ ?_;refine qw ?_ ?_ ?_;exact(PW.pt (w_or (by walk_at "t") (Dv (w5 (By (x_call (Ql 9) (hr.mono (by decide)) iq (by walk_at "a")))))));walk_at "b";exact ky;refine aD ?_ ?_;refine qw ?_ ?_ ?_;exact(w5 (By (x_call (Ql 9) (hr.mono (by decide)) iq (by walk_at "a"))));walk_at "b";exact ky;refine bV ?_;refine y_ret ?_;exact(x_call (Ql 9) (hr.mono (by decide)) iq (by walk_at "a"))
end
def all_mk{l:PySem.W.OpenLaw}{K:PySem.W.Frag}{h:Heap}{mg:Str->Option Value}(X:K.In h)(G:h.Ns mainGlobals mg)(N7:mg "law"=some (.ref fa))
 (g_BEGINNING:GV K "BEGINNING" x_BEGINNING)
 (aC0:GV K "Hand" C0) (cC0:Cls K C0) (mk0:PySem.W.makesIn K C0=true) (kc0:PySem.W.keepIn K (.ref C0)=true)
 (na0:(nmL.all fun x=>PySem.W.findIn K (.ref C0) x==some none)=true)
 (aC1:GV K "Keeper" C1) (cC1:Cls K C1) (mk1:PySem.W.makesIn K C1=true) (kc1:PySem.W.keepIn K (.ref C1)=true)
 (na1:(nmL.all fun x=>PySem.W.findIn K (.ref C1) x==some none)=true)
 (aC2:GV K "Hall" C2) (cC2:Cls K C2) (mk2:PySem.W.makesIn K C2=true) (kc2:PySem.W.keepIn K (.ref C2)=true)
 (na2:(nmL.all fun x=>PySem.W.findIn K (.ref C2) x==some none)=true)
 (aC3:GV K "Work" C3) (cC3:Cls K C3) (mk3:PySem.W.makesIn K C3=true) (kc3:PySem.W.keepIn K (.ref C3)=true)
 (na3:(nmL.all fun x=>PySem.W.findIn K (.ref C3) x==some none)=true)
 (aC4:GV K "Story" C4) (cC4:Cls K C4) (mk4:PySem.W.makesIn K C4=true) (kc4:PySem.W.keepIn K (.ref C4)=true)
 (na4:(nmL.all fun x=>PySem.W.findIn K (.ref C4) x==some none)=true)
 (aX0:GV K "HalfError" X0) (ei0:PySem.W.excIn K X0 veM "ValueError.__new__"=true)
 (aX1:GV K "NoHand" X1) (ei1:PySem.W.excIn K X1 veM "ValueError.__new__"=true)
 (aX2:GV K "NoKeeper" X2) (ei2:PySem.W.excIn K X2 veM "ValueError.__new__"=true)
 (aX3:GV K "NoLetter" X3) (ei3:PySem.W.excIn K X3 veM "ValueError.__new__"=true)
 (aX4:GV K "Busy" X4) (ei4:PySem.W.excIn K X4 veM "ValueError.__new__"=true)
 (aX5:GV K "Idle" X5) (ei5:PySem.W.excIn K X5 veM "ValueError.__new__"=true)
 (em1:((clP [C0,C1,C2,C3,C4] [X0,X1,X2,X3,X4,X5]).all fun p=>PySem.W.exmOne K (.ref p.1) (.ref X1)==some (decide (p.2=1001)))=true)
 (em2:((clP [C0,C1,C2,C3,C4] [X0,X1,X2,X3,X4,X5]).all fun p=>PySem.W.exmOne K (.ref p.1) (.ref X2)==some (decide (p.2=1002)))=true)
 (em3:((clP [C0,C1,C2,C3,C4] [X0,X1,X2,X3,X4,X5]).all fun p=>PySem.W.exmOne K (.ref p.1) (.ref X3)==some (decide (p.2=1003)))=true)
 (em4:((clP [C0,C1,C2,C3,C4] [X0,X1,X2,X3,X4,X5]).all fun p=>PySem.W.exmOne K (.ref p.1) (.ref X4)==some (decide (p.2=1004)))=true)
 (em5:((clP [C0,C1,C2,C3,C4] [X0,X1,X2,X3,X4,X5]).all fun p=>PySem.W.exmOne K (.ref p.1) (.ref X5)==some (decide (p.2=1005)))=true)
 (a0:GV K "is_more" f0) (p0:FU K "is_more" oT f0 d0)
 (a1:GV K "newest" f1) (p1:FU K "newest" sx f1 d1)
 (a2:GV K "stamp_after" f2) (p2:FU K "stamp_after" iW f2 d2)
 (a3:MV K C0 "__init__" f3) (p3:Fun K "__init__" "Hand.__init__" kO f3 d3)
 (i3:IV K f3)
 (a4:MV K C0 "letters" f4) (p4:Fun K "letters" "Hand.letters" ik f4 d4)
 (i4:IV K f4)
 (a5:MV K C0 "begin_round" f5) (p5:Fun K "begin_round" "Hand.begin_round" eW f5 d5)
 (i5:IV K f5)
 (a6:MV K C0 "begin" f6) (p6:Fun K "begin" "Hand.begin" ke f6 d6)
 (i6:IV K f6)
 (a7:MV K C0 "begin_write" f7) (p7:Fun K "begin_write" "Hand.begin_write" fj f7 d7)
 (i7:IV K f7)
 (a8:MV K C0 "begin_read" f8) (p8:Fun K "begin_read" "Hand.begin_read" fN f8 d8)
 (i8:IV K f8)
 (a9:MV K C0 "refuse_idle" f9) (p9:Fun K "refuse_idle" "Hand.refuse_idle" fk f9 d9)
 (i9:IV K f9)
 (a10:MV K C0 "send_again" f10) (p10:Fun K "send_again" "Hand.send_again" fH f10 d10)
 (i10:IV K f10)
 (a11:MV K C0 "give_up" f11) (p11:Fun K "give_up" "Hand.give_up" iz f11 d11)
 (i11:IV K f11)
 (a12:MV K C0 "chosen" f12) (p12:Fun K "chosen" "Hand.chosen" jb f12 d12)
 (i12:IV K f12)
 (a13:MV K C0 "hear" f13) (p13:Fun K "hear" "Hand.hear" kJ f13 d13)
 (i13:IV K f13)
 (a14:MV K C1 "__init__" f14) (p14:Fun K "__init__" "Keeper.__init__" ji f14 d14)
 (i14:IV K f14)
 (a15:MV K C1 "stop" f15) (p15:Fun K "stop" "Keeper.stop" jc f15 d15)
 (i15:IV K f15)
 (a16:MV K C1 "wake" f16) (p16:Fun K "wake" "Keeper.wake" ja f16 d16)
 (i16:IV K f16)
 (a17:MV K C1 "keep" f17) (p17:Fun K "keep" "Keeper.keep" jh f17 d17)
 (i17:IV K f17)
 (a18:MV K C1 "answer_to" f18) (p18:Fun K "answer_to" "Keeper.answer_to" eQ f18 d18)
 (i18:IV K f18)
 (a19:MV K C2 "__init__" f19) (p19:Fun K "__init__" "Hall.__init__" lN f19 d19)
 (i19:IV K f19)
 (a20:MV K C2 "hand_of" f20) (p20:Fun K "hand_of" "Hall.hand_of" ib f20 d20)
 (i20:IV K f20)
 (a21:MV K C2 "keeper_of" f21) (p21:Fun K "keeper_of" "Hall.keeper_of" fZ f21 d21)
 (i21:IV K f21)
 (a22:MV K C2 "send" f22) (p22:Fun K "send" "Hall.send" lV f22 d22)
 (i22:IV K f22)
 (a23:MV K C2 "write" f23) (p23:Fun K "write" "Hall.write" jN f23 d23)
 (i23:IV K f23)
 (a24:MV K C2 "read" f24) (p24:Fun K "read" "Hall.read" kP f24 d24)
 (i24:IV K f24)
 (a25:MV K C2 "again" f25) (p25:Fun K "again" "Hall.again" jK f25 d25)
 (i25:IV K f25)
 (a26:MV K C2 "leave" f26) (p26:Fun K "leave" "Hall.leave" j8 f26 d26)
 (i26:IV K f26)
 (a27:MV K C2 "stop_keeper" f27) (p27:Fun K "stop_keeper" "Hall.stop_keeper" e9 f27 d27)
 (i27:IV K f27)
 (a28:MV K C2 "wake_keeper" f28) (p28:Fun K "wake_keeper" "Hall.wake_keeper" fm f28 d28)
 (i28:IV K f28)
 (a29:MV K C2 "come_to_keeper" f29) (p29:Fun K "come_to_keeper" "Hall.come_to_keeper" dD f29 d29)
 (i29:IV K f29)
 (a30:MV K C2 "come_to_hand" f30) (p30:Fun K "come_to_hand" "Hall.come_to_hand" eG f30 d30)
 (i30:IV K f30)
 (a31:MV K C2 "come" f31) (p31:Fun K "come" "Hall.come" lg f31 d31)
 (i31:IV K f31)
 (a32:MV K C2 "carry" f32) (p32:Fun K "carry" "Hall.carry" jJ f32 d32)
 (i32:IV K f32)
 (a33:MV K C2 "first_between" f33) (p33:Fun K "first_between" "Hall.first_between" dW f33 d33)
 (i33:IV K f33)
 (a34:MV K C2 "carry_between" f34) (p34:Fun K "carry_between" "Hall.carry_between" dX f34 d34)
 (i34:IV K f34)
 (a35:MV K C2 "sweep" f35) (p35:Fun K "sweep" "Hall.sweep" kg f35 d35)
 (i35:IV K f35)
 (a36:MV K C3 "__init__" f36) (p36:Fun K "__init__" "Work.__init__" lu f36 d36)
 (i36:IV K f36)
 (a37:MV K C3 "told" f37) (p37:Fun K "told" "Work.told" lK f37 d37)
 (i37:IV K f37)
 (a38:MV K C4 "__init__" f38) (p38:Fun K "__init__" "Story.__init__" jL f38 d38)
 (i38:IV K f38)
 (a39:MV K C4 "note_work" f39) (p39:Fun K "note_work" "Story.note_work" fG f39 d39)
 (i39:IV K f39)
 (a40:MV K C4 "note_end" f40) (p40:Fun K "note_end" "Story.note_end" fT f40 d40)
 (i40:IV K f40)
 (a41:MV K C4 "note_ends" f41) (p41:Fun K "note_ends" "Story.note_ends" fB f41 d41)
 (i41:IV K f41)
 (a42:MV K C4 "done" f42) (p42:Fun K "done" "Story.done" jH f42 d42)
 (i42:IV K f42)
 (a43:MV K C4 "done_or_refused" f43) (p43:Fun K "done_or_refused" "Story.done_or_refused" cL f43 d43)
 (i43:IV K f43)
 (a44:MV K C4 "note_stamps" f44) (p44:Fun K "note_stamps" "Story.note_stamps" eK f44 d44)
 (i44:IV K f44)
 (a45:MV K C4 "answer" f45) (p45:Fun K "answer" "Story.answer" hG f45 d45)
 (i45:IV K f45)
 (a46:GV K "answers" f46) (p46:FU K "answers" pe f46 d46)
 (a47:GV K "all_after" f47) (p47:FU K "all_after" lA f47 d47)
 (a48:GV K "_law_so" f48) (p48:FU K "_law_so" Lu f48 d48)
 (a49:GV K "_law_whole" f49) (p49:FU K "_law_whole" vo f49 d49)
 (a50:GV K "_law_at" f50) (p50:FU K "_law_at" Lo f50 d50)
 (a51:GV K "_law_value_by" f51) (p51:FU K "_law_value_by" m8 f51 d51)
 (a52:GV K "_law_deed_of" f52) (p52:FU K "_law_deed_of" pw f52 d52)
 (a53:GV K "_law_opening" f53) (p53:FU K "_law_opening" oY f53 d53)
 (a54:GV K "_law_drawn" f54) (p54:FU K "_law_drawn" u0 f54 d54)
 (a55:GV K "_law_is_stamp" f55) (p55:FU K "_law_is_stamp" nr f55 d55)
 (a56:GV K "_law_is_pair" f56) (p56:FU K "_law_is_pair" pA f56 d56)
 (a57:GV K "_law_is_work" f57) (p57:FU K "_law_is_work" pF f57 d57)
 (a58:GV K "_law_all_kinds" f58) (p58:FU K "_law_all_kinds" kQ f58 d58)
 (a59:GV K "_law_all_told" f59) (p59:FU K "_law_all_told" nj f59 d59)
 (a60:GV K "_law_new_hall" f60) (p60:FU K "_law_new_hall" nu f60 d60)
 (a61:GV K "_law_sent" f61) (p61:FU K "_law_sent" yE f61 d61)
 (a62:GV K "_law_second" f62) (p62:FU K "_law_second" rW f62 d62)
 (a63:GV K "_law_heard" f63) (p63:FU K "_law_heard" va f63 d63)
 (a64:GV K "_law_brought" f64) (p64:FU K "_law_brought" pG f64 d64)
 (a65:GV K "_law_due_many" f65) (p65:FU K "_law_due_many" nN f65 d65)
 (a66:GV K "_law_due_work" f66) (p66:FU K "_law_due_work" nA f66 d66)
 (a67:GV K "_law_due_answer" f67) (p67:FU K "_law_due_answer" jG f67 d67)
 (a68:GV K "_law_alike" f68) (p68:FU K "_law_alike" vZ f68 d68)
 (a69:GV K "_law_room" f69) (p69:FU K "_law_room" yr f69 d69)
 (a70:GV K "law" f70) (p70:FU K "law" tU f70 d70)
 (z_max:NV K "max")
 (z_range:NV K "range")
 (z_list:NV K "list")
 (z_len:NV K "len")
 (z_enumerate:NV K "enumerate")
 (z_bool:NV K "bool")
 (z_isinstance:NV K "isinstance")
 (z_int:NV K "int")
 (z_str:NV K "str")
 (z_dict:NV K "dict")
 (z_tuple:NV K "tuple")
 (l_BEGINNING_1:K.lookup x_BEGINNING_1=some ⟨.type "tuple",od_BEGINNING_1,.seq #[.int 0 t_BEGINNING_2,.int 0 t_BEGINNING_3] n_BEGINNING_1,sl_BEGINNING_1⟩)
 (l_BEGINNING:K.lookup x_BEGINNING=some ⟨.type "tuple",od_BEGINNING,.seq #[.ref x_BEGINNING_1,.int 0 t_BEGINNING_4] n_BEGINNING,sl_BEGINNING⟩):
 ∃fd:FuncData,(∀(s:Shared) (v:Value),BindsTo s fd ⟨[v],[]⟩ [("_law_script",v)])/\∃cl,∀bs:Heap,K.In bs->bs.Ns mainGlobals mg->cj l.prog w K mg bs CX0 12 fa fd ["_law_script"] (sp3 (TT cl) K 1 pL):=by
 have e:=N7.symm.trans (PySem.W.mg_of X G a70);cases e;have LO:∀c Ca,clF [C0,C1,C2,C3,C4] [X0,X1,X2,X3,X4,X5] c=some Ca->c < 1000->Ca∈ [C0,C1,C2,C3,C4]:=fun c Ca e hc=>J8 e hc;have hC:∀Ca,Ca∈ [C0,C1,C2,C3,C4]->Cls K Ca/\∀x∈nmL,jE K Ca x:=by
  intro Ca hm;simp only[qS_,List.not_mem_nil,or_false]at hm;rcases hm with rfl |rfl |rfl |rfl |rfl
  · exact⟨cC0,fun x hx=>eq_of_beq (List.all_eq_true.mp na0 x hx)⟩
  · exact⟨cC1,fun x hx=>eq_of_beq (List.all_eq_true.mp na1 x hx)⟩
  · exact⟨cC2,fun x hx=>eq_of_beq (List.all_eq_true.mp na2 x hx)⟩
  · exact⟨cC3,fun x hx=>eq_of_beq (List.all_eq_true.mp na3 x hx)⟩
  · exact⟨cC4,fun x hx=>eq_of_beq (List.all_eq_true.mp na4 x hx)⟩
 have M:∀{x:Str} {f:Addr},GV K x f->mg x=some (.ref f):=fun a=>PySem.W.mg_of X G a;have Z:Txt K mg (clF [C0,C1,C2,C3,C4] [X0,X1,X2,X3,X4,X5]):=⟨PySem.W.mg_none_of X G z_max,
  PySem.W.mg_none_of X G z_range,
  PySem.W.mg_none_of X G z_list,
  PySem.W.mg_none_of X G z_len,
  PySem.W.mg_none_of X G z_enumerate,
  PySem.W.mg_none_of X G z_bool,
  PySem.W.mg_none_of X G z_isinstance,
  PySem.W.mg_none_of X G z_int,
  PySem.W.mg_none_of X G z_str,
  PySem.W.mg_none_of X G z_dict,
  PySem.W.mg_none_of X G z_tuple,
  ⟨.ref x_BEGINNING,.ref x_BEGINNING,M g_BEGINNING,rfl,(z8 (ds:=[(.tup [(.int 0),(.int 0)]),(.int 0)]) l_BEGINNING (show 2<=sizeLine by decide) (vs:=[(.ref x_BEGINNING_1),(.int 0)]) (.cons rfl (.cons ⟨_,rfl⟩ .nil)) fun H μ=>⟨_,_,rfl,((z8 (ds:=[(.int 0),(.int 0)]) l_BEGINNING_1 (show 2<=sizeLine by decide) (vs:=[(.int 0),(.int 0)]) (.cons ⟨_,rfl⟩ (.cons ⟨_,rfl⟩ .nil)) fun H μ=>⟨_,_,rfl,rfl,⟨_,_,rfl,rfl,rfl⟩⟩) H μ),⟨_,_,rfl,rfl,rfl⟩⟩)⟩,
  fun _ hj=>Ly (L:=nmL) LO hC (by decide +kernel) (by decide +kernel) hj,
  ⟨X0,rfl,M aX0,ei0⟩,
  True.intro,
  ⟨X1,rfl,M aX1,ei1⟩,
  ⟨X1,M aX1,fun c Ca e=>nS em1 e⟩,
  ⟨X2,rfl,M aX2,ei2⟩,
  ⟨X2,M aX2,fun c Ca e=>nS em2 e⟩,
  ⟨X3,rfl,M aX3,ei3⟩,
  ⟨X3,M aX3,fun c Ca e=>nS em3 e⟩,
  ⟨X4,rfl,M aX4,ei4⟩,
  ⟨X4,M aX4,fun c Ca e=>nS em4 e⟩,
  ⟨X5,rfl,M aX5,ei5⟩,
  ⟨X5,M aX5,fun c Ca e=>nS em5 e⟩⟩
 obtain⟨oc,od,kV,dc,pm,an,cd,ct,sl,rfl,_,_⟩:=p70.ex;refine⟨PySem.W.fnOf "law" "law" (oF tU) (gO tU) (bu tU) .none kV dc pm an cd ct,fun s v=>.of_eq rfl,(clF [C0,C1,C2,C3,C4] [X0,X1,X2,X3,X4,X5]),fun bs _ _=>?_⟩;generalize l.prog=P;have RF:=cR (zd P w mg bs Z p0) p0 (M a0) (p0.binds (by walk_at "b2"));have RP:=cR (BB P w mg bs Z p1) p1 (M a1) (p1.binds (by walk_at "b1"));have Rz:=cR (rM P w mg bs Z p2) p2 (M a2) (p2.binds (by walk_at "b3"));have RN:=wJ (C:=0) (uE P w mg bs Z p3) rfl ⟨mk0,a3,i3,kc0⟩ (M aC0) (p3.binds (by walk_at "b3"));have Ox:=bA (C:=0) (qA P w mg bs Z p4) rfl cC0 ⟨a4,i4,p4.kp⟩ (p4.binds (by walk_at "b1")) (by walk_at "nm");have OP:=bA (C:=0) (mJ P w mg bs Z p5 Ox) rfl cC0 ⟨a5,i5,p5.kp⟩ (p5.binds (by walk_at "b2")) (by walk_at "nm");have N9:=bA (C:=0) (sS P w mg bs Z p6 OP) rfl cC0 ⟨a6,i6,p6.kp⟩ (p6.binds (by walk_at "b2")) (by walk_at "nm");have Ss:=bA (C:=0) (mL P w mg bs Z p7 N9) rfl cC0 ⟨a7,i7,p7.kp⟩ (p7.binds (by walk_at "b2")) (by walk_at "nm");have RH:=bA (C:=0) (ny P w mg bs Z p8 N9) rfl cC0 ⟨a8,i8,p8.kp⟩ (p8.binds (by walk_at "b1")) (by walk_at "nm");have OA:=bA (C:=0) (mT P w mg bs Z p9) rfl cC0 ⟨a9,i9,p9.kp⟩ (p9.binds (by walk_at "b1")) (by walk_at "nm");have Rf:=bA (C:=0) (nz P w mg bs Z p10 Ox OA) rfl cC0 ⟨a10,i10,p10.kp⟩ (p10.binds (by walk_at "b1")) (by walk_at "nm");have QE:=bA (C:=0) (qr P w mg bs Z p11 OA) rfl cC0 ⟨a11,i11,p11.kp⟩ (p11.binds (by walk_at "b1")) (by walk_at "nm");have Rb:=bA (C:=0) (rN P w mg bs Z p12 RP Rz) rfl cC0 ⟨a12,i12,p12.kp⟩ (p12.binds (by walk_at "b1")) (by walk_at "nm");have SX:=bA (C:=0) (vp P w mg bs Z p13 RF OP Rb) rfl cC0 ⟨a13,i13,p13.kp⟩ (p13.binds (by walk_at "b2")) (by walk_at "nm");have Q2:=wJ (C:=1) (sD P w mg bs Z p14) rfl ⟨mk1,a14,i14,kc1⟩ (M aC1) (p14.binds (by walk_at "b1"));have Qm:=bA (C:=1) (sA P w mg bs Z p15) rfl cC1 ⟨a15,i15,p15.kp⟩ (p15.binds (by walk_at "b1")) (by walk_at "nm");have Ri:=bA (C:=1) (sF P w mg bs Z p16) rfl cC1 ⟨a16,i16,p16.kp⟩ (p16.binds (by walk_at "b1")) (by walk_at "nm");have So:=bA (C:=1) (sg P w mg bs Z p17) rfl cC1 ⟨a17,i17,p17.kp⟩ (p17.binds (by walk_at "b2")) (by walk_at "nm");have Qq:=bA (C:=1) (mM P w mg bs Z p18 So) rfl cC1 ⟨a18,i18,p18.kp⟩ (p18.binds (by walk_at "b2")) (by walk_at "nm");have Ra:=wJ (C:=2) (vV P w mg bs Z p19 RN Q2) rfl ⟨mk2,a19,i19,kc2⟩ (M aC2) (p19.binds (by walk_at "b3"));have OQ:=bA (C:=2) (qj P w mg bs Z p20) rfl cC2 ⟨a20,i20,p20.kp⟩ (p20.binds (by walk_at "b2")) (by walk_at "nm");have QK:=bA (C:=2) (nX P w mg bs Z p21) rfl cC2 ⟨a21,i21,p21.kp⟩ (p21.binds (by walk_at "b2")) (by walk_at "nm");have Pg:=bA (C:=2) (vA P w mg bs Z p22) rfl cC2 ⟨a22,i22,p22.kp⟩ (p22.binds (by walk_at "b2")) (by walk_at "nm");have Qy:=bA (C:=2) (sL P w mg bs Z p23 Ss OQ Pg) rfl cC2 ⟨a23,i23,p23.kp⟩ (p23.binds (by walk_at "b3")) (by walk_at "nm");have RZ:=bA (C:=2) (uW P w mg bs Z p24 RH OQ Pg) rfl cC2 ⟨a24,i24,p24.kp⟩ (p24.binds (by walk_at "b2")) (by walk_at "nm");have Qg:=bA (C:=2) (tu P w mg bs Z p25 Rf OQ Pg) rfl cC2 ⟨a25,i25,p25.kp⟩ (p25.binds (by walk_at "b2")) (by walk_at "nm");have Rx:=bA (C:=2) (sO P w mg bs Z p26 QE OQ) rfl cC2 ⟨a26,i26,p26.kp⟩ (p26.binds (by walk_at "b2")) (by walk_at "nm");have R6:=bA (C:=2) (mQ P w mg bs Z p27 Qm QK) rfl cC2 ⟨a27,i27,p27.kp⟩ (p27.binds (by walk_at "b2")) (by walk_at "nm");have SR:=bA (C:=2) (mR P w mg bs Z p28 Ri QK) rfl cC2 ⟨a28,i28,p28.kp⟩ (p28.binds (by walk_at "b2")) (by walk_at "nm");have SN:=bA (C:=2) (jW P w mg bs Z p29 Qq) rfl cC2 ⟨a29,i29,p29.kp⟩ (p29.binds (by walk_at "b2")) (by walk_at "nm");have QF:=bA (C:=2) (lH P w mg bs Z p30 SX Pg) rfl cC2 ⟨a30,i30,p30.kp⟩ (p30.binds (by walk_at "b2")) (by walk_at "nm");have Q4:=bA (C:=2) (vd P w mg bs Z p31 SN QF) rfl cC2 ⟨a31,i31,p31.kp⟩ (p31.binds (by walk_at "b3")) (by walk_at "nm");have R5:=bA (C:=2) (tp P w mg bs Z p32 Q4) rfl cC2 ⟨a32,i32,p32.kp⟩ (p32.binds (by walk_at "b3")) (by walk_at "nm");have QJ:=bA (C:=2) (kG P w mg bs Z p33) rfl cC2 ⟨a33,i33,p33.kp⟩ (p33.binds (by walk_at "b3")) (by walk_at "nm");have Qs:=bA (C:=2) (kI P w mg bs Z p34 OQ QK Q4 QJ) rfl cC2 ⟨a34,i34,p34.kp⟩ (p34.binds (by walk_at "b3")) (by walk_at "nm");have Su:=bA (C:=2) (sW P w mg bs Z p35 Q4) rfl cC2 ⟨a35,i35,p35.kp⟩ (p35.binds (by walk_at "b1")) (by walk_at "nm");have Rn:=wJ (C:=3) (v5 P w mg bs Z p36) rfl ⟨mk3,a36,i36,kc3⟩ (M aC3) (p36.binds (by walk_at "b5"));have Q1:=bA (C:=3) (wg P w mg bs Z p37) rfl cC3 ⟨a37,i37,p37.kp⟩ (p37.binds (by walk_at "b1")) (by walk_at "nm");have OZ:=wJ (C:=4) (td P w mg bs Z p38 Ra) rfl ⟨mk4,a38,i38,kc4⟩ (M aC4) (p38.binds (by walk_at "b3"));have SD:=bA (C:=4) (nJ P w mg bs Z p39 Rn) rfl cC4 ⟨a39,i39,p39.kp⟩ (p39.binds (by walk_at "b4")) (by walk_at "nm");have RW:=bA (C:=4) (oJ P w mg bs Z p40) rfl cC4 ⟨a40,i40,p40.kp⟩ (p40.binds (by walk_at "b3")) (by walk_at "nm");have RE:=bA (C:=4) (m9 P w mg bs Z p41 RW) rfl cC4 ⟨a41,i41,p41.kp⟩ (p41.binds (by walk_at "b2")) (by walk_at "nm");have QL:=bA (C:=4) (sP P w mg bs Z p42 Qy RZ Qg Rx R6 SR R5 Qs Su SD RE) rfl cC4 ⟨a42,i42,p42.kp⟩ (p42.binds (by walk_at "b2")) (by walk_at "nm");have RV:=bA (C:=4) (iX P w mg bs Z p43 QL) rfl cC4 ⟨a43,i43,p43.kp⟩ (p43.binds (by walk_at "b2")) (by walk_at "nm");have R3:=bA (C:=4) (lJ P w mg bs Z p44) rfl cC4 ⟨a44,i44,p44.kp⟩ (p44.binds (by walk_at "b1")) (by walk_at "nm");have Ot:=bA (C:=4) (qt P w mg bs Z p45 RV R3) rfl cC4 ⟨a45,i45,p45.kp⟩ (p45.binds (by walk_at "b2")) (by walk_at "nm");have Ro:=cR (yX P w mg bs Z p46 OZ Ot) p46 (M a46) (p46.binds (by walk_at "b3"));have RC:=cR (uV P w mg bs Z p47 Q1 OZ Ot) p47 (M a47) (p47.binds (by walk_at "b3"));have Q9:=HU P w mg bs Z p48 (M a48) (p48.binds (by walk_at "b2"));have Pc:=cR (Dk P w mg bs Z p49) p49 (M a49) (p49.binds (by walk_at "b1"));have RA:=cR (Nc P w mg bs Z p50) p50 (M a50) (p50.binds (by walk_at "b2"));have S4:=cR (xm P w mg bs Z p51) p51 (M a51) (p51.binds (by walk_at "b2"));have Rp:=cR (yu P w mg bs Z p52 S4) p52 (M a52) (p52.binds (by walk_at "b4"));have Sh:=cR (yK P w mg bs Z p53) p53 (M a53) (p53.binds (by walk_at "b3"));have R7:=cR (C5 P w mg bs Z p54 Rp Sh) p54 (M a54) (p54.binds (by walk_at "b3"));have N8:=cR (xG P w mg bs Z p55 Pc) p55 (M a55) (p55.binds (by walk_at "b1"));have SA:=cR (yP P w mg bs Z p56 Pc N8) p56 (M a56) (p56.binds (by walk_at "b1"));have QV:=cR (yO P w mg bs Z p57 Pc) p57 (M a57) (p57.binds (by walk_at "b1"));have SG:=cR (uF P w mg bs Z p58 N8 SA QV) p58 (M a58) (p58.binds (by walk_at "b2"));have SU:=cR (wN P w mg bs Z p59 RC SG) p59 (M a59) (p59.binds (by walk_at "b3"));have Ru:=cR (xM P w mg bs Z p60) p60 (M a60) (p60.binds (by walk_at "b2"));have OI:=cR (F3 P w mg bs Z p61) p61 (M a61) (p61.binds (by walk_at "b2"));have QX:=cR (Bl P w mg bs Z p62 OI) p62 (M a62) (p62.binds (by walk_at "b2"));have Sq:=cR (D2 P w mg bs Z p63 QX) p63 (M a63) (p63.binds (by walk_at "b3"));have Oj:=cR (yV P w mg bs Z p64 Sq) p64 (M a64) (p64.binds (by walk_at "b3"));have QT:=cR (xu P w mg bs Z p65 Oj) p65 (M a65) (p65.binds (by walk_at "b3"));have Q5:=cR (xq P w mg bs Z p66 OI) p66 (M a66) (p66.binds (by walk_at "b3"));have Rl:=cR (sY P w mg bs Z p67 Oj QT Q5) p67 (M a67) (p67.binds (by walk_at "b3"));have Sf:=cR (CM P w mg bs Z p68 Pc) p68 (M a68) (p68.binds (by walk_at "b2"));have Qz:=cR (GB P w mg bs Z p69) p69 (M a69) (p69.binds (by walk_at "b3"));exact JV _ _ _ _ Z p70 Ro Q9 RA R7 SU Ru Rl Sf Qz
def walk{l:PySem.W.OpenLaw}{XP:(Str->Option Value)->Heap->Prop}{YP:World->Heap->Prop}{d:DefRec}{K:Params->PySem.W.Frag}(hn:l.most=some 63)(O1:d.params.defaults=[])
 (hY:∀(w:World) (h:Heap),YP w h->(K w.params).In h) (hl:∀ns:List Int,ns.length<=63->M3.run (pL [.ref 0]) [.frz (ns.map M3.D.int)] (fun d _=>d= .bl true) fun _ _=>False)
 (F:∀(w:World) (mg:Str->Option Value) (fa:Addr) (h:Heap),(K w.params).In h->h.Ns mainGlobals mg->mg d.name=some (.ref fa)->
   ∃fd:FuncData,(∀(s:Shared) (u:Value),BindsTo s fd ⟨[u],[]⟩ [("_law_script",u)])/\∃cl,∀bs:Heap,(K w.params).In bs->bs.Ns mainGlobals mg->cj l.prog w (K w.params) mg bs CX0 12 fa fd ["_law_script"] (sp3 (TT cl) (K w.params) 1 pL)):
 PySem.W.WalkO q loose XP YP l.row.toRowW d [] (fun f vs=>PySem.call f vs):=
 L2.Fv (n:=63) (k:=12) (x:="_law_script") (CX:=fun _=>CX0) (sp:=fun w=>DW nmF (K w.params) 1 pL) hn (by decide) O1 ⟨rfl,by decide,by decide⟩ hY (fun w mg fa h a b c=>let ⟨fd,h1,cl,h2⟩:=F w mg fa h a b c;⟨fd,h1,fun bs h3 h4=>KU (h2 bs h3 h4)⟩) (fun _ _ a ns h1 h2 h3=>Hm (nm:=nmF) (f:=pL) (n:=63) (by with_reducible exact hl) h1 h2 h3) fun _ _ _ _ _ z=>z
end LK
open PySem PySem.W PyProof.Rows
namespace PySem.W.Fast
def tw4690899245495064661:=0
def tw14993820071087861310:=0
def tw2821589701099616707:=0
def tw10531288889028831855:=0
def tw4601054040971676847:=0
def tw6451683910362279754:=0
def tw6390829648558517393:=0
def tw2419837343639401909:=0
def tw12572695683048985578:=0
def tw7441048872545968250:=0
def tw13471813885252164619:=0
def tw13782616100720085618:=0
def tw14758608436304637884:=0
def tw5243050466023924383:=0
def tw8135100442374568600:=0
def tw17212817878788668671:=0
def tw15969024058255205177:=0
def tw9760520246263567895:=0
def tw8084290319131440680:=0
def tw7916172712149195360:=0
def tw6323960462993756502:=0
def tw10185565840469031419:=0
def tw8620391494149131301:=0
def tw16022177236579465543:=0
def tw9267054812284150032:=0
def tw10638626583376002702:=0
def tw12499956101118528441:=0
def tw13040955924322105671:=0
def tw5597839711757358657:=0
def tw14917006003509967652:=0
def tw15174445348125574413:=0
def tw9712292191857995363:=0
def tw4874930487257602625:=0
def tw10531927641837259149:=0
def tw17687955303861602485:=0
def tw17488962056187598601:=0
def tw11333180467653522836:=0
def tw10064733107646050393:=0
def tw4172615250385516281:=0
def tw2961809731297111364:=0
def tw10747658404337717859:=0
def tw153970414076687351:=0
def tw3292059145547860372:=0
def tw4401802121160853367:=0
def tw1465997184724542157:=0
def tw16142098042593055303:=0
def tw17128772813826601077:=0
def tw11047060883723368926:=0
def tw10533294220349391687:=0
def tw10522267629206018382:=0
def tw7831155338419765508:=0
def tw8383401683429357469:=0
def tw13052189009538466840:=0
def tw5583581814321702847:=0
def tw12539773284483660638:=0
def tw4908630552056134834:=0
def tw8524305675811231258:=0
def tw17143518092469372651:=0
def tw17254291869647393672:=0
def tw17603688344897197062:=0
def tw6264074618605559978:=0
def tw11934401320703464208:=0
def tw16445998255372852848:=0
def tw14182464782753094469:=0
def tw17881604419040625403:=0
def tw13685306616043120709:=0
def tw5009992494253022002:=0
def tw12830444878454576110:=0
def tw17182471457279281884:=0
def tw7727764725038287769:=0
def tw12149482547545952236:=0
def tw8502093564615334493:=0
def tw18260981359913806641:=0
def tw1510945582922986758:=0
def tw12799939714433318272:=0
def tw16964110872456049115:=0
def tw14486044456395019419:=0
def tw8338360213708116321:=0
def tw2867197268550813175:=0
def tw10697715172194057972:=0
def tw13358286897830363310:=0
def tw17624343161818948824:=0
def tw219785299750611276:=0
def tw14130181726817135064:=0
def tw11734597523667040806:=0
def tw17367947678263709956:=0
def tw10196554986780733704:=0
def tw9219395002311278331:=0
def tw15822347323114041158:=0
def tw12287010170802665857:=0
def tw8221841930205232801:=0
def tw5478053303986571247:=0
def tw10006060054419473470:=0
def tw9733073045939592563:=0
def tw27454327597920666:=0
def tw2695082131897543900:=0
def tw8772671979479253000:=0
def tw1714319741510466388:=0
def tw13337458444056166169:=0
def tw1060408007921933980:=0
def tw15229667884778104342:=0
def tw3489872718862399921:=0
def tw6425303860773591074:=0
def tw17902768588943405916:=0
def tw12000798265388771866:=0
def tw13563210083526820866:=0
def tw14575839050477103834:=0
def tw4894252971061248722:=0
def tw865420414882420792:=0
def tw403651990991643231:=0
def tw3358443477485710932:=0
def tw18425676038679735305:=0
def tw9769415779738672052:=0
def tw1838664217725488808:=0
def tw2135475885103096789:=0
def tw12586824609231523495:=0
def tw6077975720079082356:=0
def tw11201780832571977942:=0
def tw12081384546720781311:=0
def tw4784181425848179332:=0
def tw5938845325388546762:=0
def tw3358105467083068260:=0
def tw10893241665339197171:=0
def tw7429485775831902863:=0
def tw110745059747603054:=0
def tw503097842492240753:=0
def tw2072374906496015246:=0
def tw7400238852615702516:=0
def tw10481664066575630243:=0
def tw6123532869370752506:=0
def tw15848647062696873597:=0
def tw1335852922474268580:=0
def tw2496700155540616052:=0
def tw31989881675575956:=0
def tw12928985628948115298:=0
def tw11841384528422385178:=0
def tw14379798748548277082:=0
def tw18238371636500842725:=0
def tw8860753802694926591:=0
def tw14329433814686345978:=0
def tw1697948845889857011:=0
def tw3858423648590072387:=0
def tw13056699871732831970:=0
def tw9712500978774583110:=0
def tw5412166368286861113:=0
def tw5179408713673763581:=0
def tw1812181069259849200:=0
def tw8941346832949574351:=0
def tw7524720462843813969:=0
def tw1372442399544747654:=0
def tw10490772840187760727:=0
def tw3636945457519080560:=0
def tw13496860569934296205:=0
def tw16532955826560521334:=0
def tw15280127743377768976:=0
def tw2873952165656418537:=0
def tw15379586173076289647:=0
def tw10373630772430922187:=0
def tw5285098751667915208:=0
def tw16571142674216416760:=0
def tw11736449800842829353:=0
def tw57213001305122512:=0
def tw11597618214829699747:=0
def tw8993702642283096543:=0
def tw183272666897306009:=0
def tw17324540232798649141:=0
def tw2322271546523811644:=0
def tw5553723976871622375:=0
def tw4302388569648812872:=0
def tw4889512244693866930:=0
def tw15056862869289373151:=0
def tw18425666334346038253:=0
def tw1088086237782380667:=0
def tw6319656077958486795:=0
def tw2986430894956000261:=0
def tw8318442614759949370:=0
def tw6454788296188768306:=0
def tw18122032546610757837:=0
def tw1788922735828660646:=0
def tw18032965717331743241:=0
def tw8568123608159814071:=0
def tw16896808507403513261:=0
def tw3828010045051910482:=0
def tw6375900944857141513:=0
def tw5071738320104330427:=0
def tw8084556367065424392:=0
def tw16661497284140722716:=0
def tw4434256996413992199:=0
def tw758566478316113939:=0
def tw5066218812863890170:=0
def tw3888806438030004061:=0
def tw10323143407270594781:=0
def tw5262954716657373675:=0
def tw5108455873652920833:=0
def tw3331586765806745403:=0
def tw3079226934333932317:=0
def tw3098002126311400117:=0
def tw10774585050564156034:=0
def tw2639061744488543620:=0
def tw12079867906680184660:=0
def tw202912980821441530:=0
def tw11593878418099804064:=0
def tw16670184242894031779:=0
def tw2850567055631046178:=0
def tw12678402797407552127:=0
def tw17745929882932685901:=0
def tw15129916213367870529:=0
def tw8101182477487943726:=0
def tw17920842402773562084:=0
def tw2236698448931912253:=0
def tw15841353147455408848:=0
def tw15462873952532489416:=0
def tw42593745438617272:=0
def tw18410504326693102927:=0
def tw7427437550043860596:=0
def tw13209028936051642930:=0
def tw6086717121630128340:=0
def tw1711788360707297183:=0
def tw2022737241844753747:=0
def tw14015028310417726968:=0
def tw9758288839854806739:=0
def tw9505730758896336985:=0
def tw15457947818251576999:=0
def tw6827220199068883883:=0
def tw5362105980484713694:=0
def tw220390957075194938:=0
def tw12749601679218027972:=0
def tw8588042431967071841:=0
def tw14457447473051703295:=0
def tw18414512484234998874:=0
def tw4015326508384584517:=0
def tw2875822662857950864:=0
def tw16190893141663032682:=0
def tw12197033531462893196:=0
def tw17438197669562695531:=0
def tw1796537378207345917:=0
def tw8960038360027468887:=0
def tw669515604860159551:=0
def tw6113308520621919555:=0
def tw14431126384504963989:=0
def tw2947594555929109681:=0
def tw15310385416495756761:=0
def tw9161037811305518274:=0
def tw11994618961119888622:=0
def tw15935311054142071679:=0
def tw14443838365609662202:=0
def tw9153549225945616133:=0
def tw13032919218531469347:=0
def tw9329546971533611380:=0
def tw14294383387684216441:=0
def tw2014804798360598052:=0
def tw9709431815092071256:=0
def tw2282615882565914494:=0
def tw5557538060064431339:=0
def tw15669655411727546250:=0
def tw15171165918388002390:=0
def tw6799957425350090822:=0
def tw15010209130886205910:=0
def tw4150440967967390294:=0
def tw14081457910468769110:=0
def tw5636699999045887953:=0
def tw8359608239115904936:=0
def tw6220873173770887595:=0
def tw5402690984853968692:=0
def tw5576110065894746360:=0
def tw16196325519087543852:=0
def tw10324140503833039561:=0
def tw4074886500456676242:=0
def tw8587609008072799805:=0
def tw13347978010450924744:=0
def tw10984603746793683445:=0
def tw7937433625514298711:=0
def tw7278994268093659212:=0
def tw9429281185549568876:=0
def tw15149208333740570048:=0
def tw518118270581198378:=0
def tw5806561547330958991:=0
def tw11239196938073804166:=0
def tw6779287962267409330:=0
def tw11388459028044367183:=0
def tw5833206904334920109:=0
def tw12090449053984431359:=0
def tw16360848684210257074:=0
def tw12944797491593585640:=0
def tw1735048888871210984:=0
def tw3257885829101113603:=0
def tw10500690168214060177:=0
def tw5503100927415716456:=0
def tw17796133511215233492:=0
def tw5180535711842714664:=0
def tw18389476510257879313:=0
def tw8609881147571665543:=0
def tw11905260634174371472:=0
def tw2188525092241924828:=0
def tw10751409699225361971:=0
def tw15146580065073333836:=0
def tw15738378369930847349:=0
def tw2026703983404530634:=0
def tw10281415985924851438:=0
def tw9470677531130505262:=0
def tw4919947537581231337:=0
def tw13950643517074461721:=0
def tw11747910628229600237:=0
def tw2524664808491636040:=0
def tw18137656916385143814:=0
def tw14388056874352164096:=0
def tw8496928033150774851:=0
def tw6414622268928848474:=0
def tw12119374153035859005:=0
def tw2576527644047811378:=0
def tw1811416217901569401:=0
def tw14033481310792682560:=0
def tw12866504872257050741:=0
def tw1296157701547101891:=0
def tw5287362178192450976:=0
def tw16096000103887768587:=0
def tw15088681439543816439:=0
def tw809031451871862427:=0
def tw724401817394373121:=0
def tw12947620120419877731:=0
def tw10002459117547445820:=0
def tw7159702355304452157:=0
def tw6880899552011431747:=0
def tw2947913759093506005:=0
def tw18359205745880080078:=0
def tw16932293030601608395:=0
def tw15395020566793944666:=0
def tw12081603731312345129:=0
def tw11780993861014107039:=0
def tw1548819483086465703:=0
def tw12354117214015565055:=0
def tw6976697541963376236:=0
def tw4843768266299669597:=0
def tw4154006506603782219:=0
def tw16818752339662892762:=0
def tw618669668791752443:=0
def tw13044225112671984209:=0
def tw16845743837284008298:=0
def tw5281618334790114445:=0
def tw686079730497572763:=0
def tw13740252416615941198:=0
def tw9004160356878081577:=0
def tw8366327369932288250:=0
def tw7083100939540133252:=0
def tw5074108109847662179:=0
def tw4437190865911366394:=0
def tw17002750080236562264:=0
def tw5858218360945260527:=0
def tw13817420874434790094:=0
def tw1337760119644198987:=0
def tw1553639040053513400:=0
def tw7763256551182861513:=0
def tw6314237716758560346:=0
def tw17701721164927724267:=0
def tw7977999230411721006:=0
def tw4936930950832328823:=0
def tw5613060628433167391:=0
def tw13641422424414496508:=0
def tw9851417408212182021:=0
def tw7816599501951274484:=0
def tw13283318731468383000:=0
def tw787785958011291199:=0
def tw6851231313470178498:=0
def tw3937094496928224481:=0
def tw2642999538979140088:=0
def tw16530397725023783535:=0
def tw14633936074469677179:=0
def tw14160677686616267282:=0
def tw12938933519967856375:=0
def tw11582723840919902671:=0
def tw8469075451320529370:=0
def tw15943225285178764079:=0
def tw9845514011994175369:=0
def tw13398854695884975470:=0
def tw10106691475214072037:=0
def tw11838936255915802667:=0
def tw7006659781181420527:=0
def tw296028701446526519:=0
def tw5485980534404497456:=0
def tw16500184091027935040:=0
def tw145467639186499314:=0
def tw8406490435167032756:=0
def tw7069952814398469340:=0
def tw13894023928798486489:=0
def tw12459654326078679387:=0
def tw9662781661942735521:=0
def tw7322635517901481425:=0
def tw5986053344858040832:=0
def tw5749004947404589944:=0
def tw2372789285761494076:=0
def tw16640285522947655283:=0
def tw11836029140259033075:=0
def tw10472418931978413968:=0
def tw10020986475210494221:=0
def tw8361078777917346993:=0
def tw4785092427994807023:=0
def tw416076051721306419:=0
def tw8134033961167187058:=0
def tw17180873878848245695:=0
def tw7046165500534157395:=0
def tw1541191001280557999:=0
def tw11474685264463675628:=0
def tw10476089728656107974:=0
def tw462236272818814951:=0
def tw12233197409507599066:=0
def tw4559734932527598703:=0
def tw2480665163917065960:=0
def tw8623607937440573363:=0
def tw9775518122895603242:=0
def tw8037042591411127845:=0
end PySem.W.Fast
set_option maxRecDepth 100000 in
set_option maxHeartbeats 0 in
theorem PySem.Challenge.cw_halfask_k07_plain_story_holds : PySem.Challenge.rw_halfask_k07_plain_story.Holds := by
 w_on;o_law;k_head;(case hw=>w_witness2)
 k_fill
 refine LK.walk (l:=PySem.Challenge.rw_halfask_k07_plain_story) rfl rfl (fun w h Y=>PySem.W.kIn_of Y) (by with_reducible exact KS.D4) ?F
 case F=>
  intro w mg fa h KX G Og
  refine' LK.all_mk KX G Og ?g_BEGINNING ?aC0 ?cC0 ?mk0 ?kc0 ?na0 ?aC1 ?cC1 ?mk1 ?kc1 ?na1 ?aC2 ?cC2 ?mk2 ?kc2 ?na2 ?aC3 ?cC3 ?mk3 ?kc3 ?na3 ?aC4 ?cC4 ?mk4 ?kc4 ?na4 ?aX0 ?ei0 ?aX1 ?ei1 ?aX2 ?ei2 ?aX3 ?ei3 ?aX4 ?ei4 ?aX5 ?ei5 ?em1 ?em2 ?em3 ?em4 ?em5 ?a0 ?p0 ?a1 ?p1 ?a2 ?p2 ?a3 ?p3 ?i3 ?a4 ?p4 ?i4 ?a5 ?p5 ?i5 ?a6 ?p6 ?i6 ?a7 ?p7 ?i7 ?a8 ?p8 ?i8 ?a9 ?p9 ?i9 ?a10 ?p10 ?i10 ?a11 ?p11 ?i11 ?a12 ?p12 ?i12 ?a13 ?p13 ?i13 ?a14 ?p14 ?i14 ?a15 ?p15 ?i15 ?a16 ?p16 ?i16 ?a17 ?p17 ?i17 ?a18 ?p18 ?i18 ?a19 ?p19 ?i19 ?a20 ?p20 ?i20 ?a21 ?p21 ?i21 ?a22 ?p22 ?i22 ?a23 ?p23 ?i23 ?a24 ?p24 ?i24 ?a25 ?p25 ?i25 ?a26 ?p26 ?i26 ?a27 ?p27 ?i27 ?a28 ?p28 ?i28 ?a29 ?p29 ?i29 ?a30 ?p30 ?i30 ?a31 ?p31 ?i31 ?a32 ?p32 ?i32 ?a33 ?p33 ?i33 ?a34 ?p34 ?i34 ?a35 ?p35 ?i35 ?a36 ?p36 ?i36 ?a37 ?p37 ?i37 ?a38 ?p38 ?i38 ?a39 ?p39 ?i39 ?a40 ?p40 ?i40 ?a41 ?p41 ?i41 ?a42 ?p42 ?i42 ?a43 ?p43 ?i43 ?a44 ?p44 ?i44 ?a45 ?p45 ?i45 ?a46 ?p46 ?a47 ?p47 ?a48 ?p48 ?a49 ?p49 ?a50 ?p50 ?a51 ?p51 ?a52 ?p52 ?a53 ?p53 ?a54 ?p54 ?a55 ?p55 ?a56 ?p56 ?a57 ?p57 ?a58 ?p58 ?a59 ?p59 ?a60 ?p60 ?a61 ?p61 ?a62 ?p62 ?a63 ?p63 ?a64 ?p64 ?a65 ?p65 ?a66 ?p66 ?a67 ?p67 ?a68 ?p68 ?a69 ?p69 ?a70 ?p70 ?z_max ?z_range ?z_list ?z_len ?z_enumerate ?z_bool ?z_isinstance ?z_int ?z_str ?z_dict ?z_tuple ?l_BEGINNING_1 ?l_BEGINNING
  (case g_BEGINNING |l_BEGINNING |l_BEGINNING_1 |aC0 |aC1 |aC2 |aC3 |aC4 |aX0 |aX1 |aX2 |aX3 |aX4 |aX5=>(first |delta LK.GV |delta LK.MV |delta LK.IV |delta LK.NV |skip);k_is)
  (case na0 |na1 |na2 |na3 |na4 |ei0 |ei1 |ei2 |ei3 |ei4 |ei5 |em1 |em2 |em3 |em4 |em5=>kernel_rfl)
  (case cC0 |cC1 |cC2 |cC3 |cC4=>(refine⟨?_,?_,?_,?_⟩ <;> k_is))
  (case a0 |a1 |a2 |a3 |a4 |a5 |a6 |a7 |a8 |a9 |a10 |a11 |a12 |a13 |a14 |a15 |a16 |a17 |a18 |a19 |a20 |a21 |a22 |a23 |a24 |a25 |a26 |a27 |a28 |a29 |a30 |a31 |a32 |a33 |a34 |a35 |a36 |a37 |a38 |a39 |a40 |a41 |a42 |a43 |a44 |a45 |a46 |a47 |a48 |a49 |a50 |a51 |a52 |a53 |a54 |a55 |a56 |a57 |a58 |a59 |a60 |a61 |a62 |a63 |a64 |a65 |a66 |a67 |a68 |a69 |a70=>(first |delta LK.GV |delta LK.MV |delta LK.IV |delta LK.NV |skip);k_is)
  (case p0 |p1 |p2 |p3 |p4 |p5 |p6 |p7 |p8 |p9 |p10 |p11 |p12 |p13 |p14 |p15 |p16 |p17 |p18 |p19 |p20 |p21 |p22 |p23 |p24 |p25 |p26 |p27 |p28 |p29 |p30 |p31 |p32 |p33 |p34 |p35 |p36 |p37 |p38 |p39 |p40 |p41 |p42 |p43 |p44 |p45 |p46 |p47 |p48 |p49 |p50 |p51 |p52 |p53 |p54 |p55 |p56 |p57 |p58 |p59 |p60 |p61 |p62 |p63 |p64 |p65 |p66 |p67 |p68 |p69 |p70=>(refine' L2.J5 ?l ?c ?k;(case l=>k_is);(case c=>k_is);(case k=>k_is)))
  (case mk0 |kc0 |mk1 |kc1 |mk2 |kc2 |mk3 |kc3 |mk4 |kc4 |i3 |i4 |i5 |i6 |i7 |i8 |i9 |i10 |i11 |i12 |i13 |i14 |i15 |i16 |i17 |i18 |i19 |i20 |i21 |i22 |i23 |i24 |i25 |i26 |i27 |i28 |i29 |i30 |i31 |i32 |i33 |i34 |i35 |i36 |i37 |i38 |i39 |i40 |i41 |i42 |i43 |i44 |i45 |z_max |z_range |z_list |z_len |z_enumerate |z_bool |z_isinstance |z_int |z_str |z_dict |z_tuple=>(first |delta LK.GV |delta LK.MV |delta LK.IV |delta LK.NV |skip);k_is)

