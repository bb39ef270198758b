import PyProof.Rows.All
import Wide.All
import OpenK.AllK
import Wide.FinOn
import PyProof.EqAt
import PyProof.EqKinds
import PyProof.TupleCall
import KE.BitLaws
import KE.KTryMore
import KE.KLam
import KE.KSortKeySt
import KE.KSortTupG
import KE.KDictList
import Open.SpecLaws
import KE.OsHead
import KE.OsGo
import PyWrewaj
import PyFlatLaws
import PyProof.AutoSeq1
import KE.KNest
import PyProof.ExcBaseAll.Exception
import PySem.Challenge.RW_keptversions_s01_answers
set_option Elab.async false
set_option linter.all false
set_option maxRecDepth 100000
set_option maxHeartbeats 4000000
open Array renaming getElem?_eq_getElem → Ui
open Bool renaming false_ne_true → iY,false_and → GF,and_eq_true → lB,and_eq_true_iff → gB,not_eq_true' → GR,not_eq_true → uV,true_and → LQ
open Coll renaming Value → aQ,size → iK,proper → mW,valueOk → iV,Entry → aN,Ver → bC,room → bY,State → bu,one → o9,hasKey → jK,kindOk → qC,entryValue → qD,Answer → mX,Call → bA,step → bJ,refuse → uF,small → fH,joined → jL,sortIn → rQ,mayFollow → IV,propers → zN,entryOf → xQ,entriesOf → iW,digits → JT
open Coll.State renaming two → zM
open CollNeutral renaming told → IK,nat → dH,whole → dR,callOf → h_,asked1 → ig,step → o_,valuesN → jA,value → jB,valueN → aZ
open Int renaming lt_trichotomy → Ul,mul_assoc → GQ
open List renaming getElem?_drop → Bt,drop_drop → vD,take_length → lC,filterMap_cons → JL,mem_cons_self → fY,mem_cons_of_mem → dU,mem_cons → bU,mem_append → j9,mem_append_left → Bw,getElem?_eq_some_iff → gn,mem_append_right → iD,length_cons → pD,map_cons → cU,length_map → aW,append_nil → vI,nodup_cons → Qp,length_take → lR,getElem?_map → gw,mem_of_getElem? → fZ,length_append → dN,length_nil → BJ,size_toArray → iG,length_drop → qm,map_nil → GK,any_cons → GP,getD_eq_getElem?_getD → JN,lookup_cons → Qs,mem_map → uU,all_eq_true → wU,filter_cons → wV,mem_singleton → rN,map_map → BK,map_congr_left → Qt,pairwise_iff_getElem → Uj,take_add_one → mY,getElem?_eq_getElem → pF,map_append → fP,append_assoc → ud,flatMap_cons → Qu,flatMap_append → LC,sum_cons → qH,mem_filter → yU,not_mem_nil → Um,take_append_drop → LK,filter_cons_of_pos → XZ,pairwise_cons → jX,take_zero → JR,drop_succ_cons → X3,filter_eq_self → X4,filter_append → Uo,filter_eq_nil_iff → X5,Pairwise → GX,any_eq_true → Up,mem_of_mem_drop → Qv
open List.Pairwise renaming sublist → Qw
open Nat renaming min_eq_left → zL,le_trans → mR,le_of_lt → qz,le_refl → cF,zero_le → j_,lt_succ_self → Ug,lt_of_lt_of_le → wQ,lt_irrefl → RK,ne_of_lt → rR
open Option renaming isSome_iff_exists → Qq
open Option.some renaming inj → dJ
open Prod.mk renaming inj → fJ
open PyFlat renaming put → cG,putRows → rP
open PySem renaming mainGlobals → lA,sizeLine → dM,wpAny_mono → qF,wpAny_pure → bW,wpAny_bind → aR,sizeLine_eq → Es,mem_of_lookup → qG,boot_len → jC
open PySem.Builtin.List renaming listTooLong → XX
open PySem.F renaming plainAttrs_list → jJ,slot_list_append → vG,type_list_append → vH,slot_list_extend → Bu,type_list_extend → Bv,slot_dict_keyiterator_next → Uh
open PySem.Heap renaming get?_push_of_some → jW,get?_push_size → uc,size_push → Bx,lt_size → jZ
open PySem.Heap.SameBut renaming update → JQ
open PySem.Obj renaming mapSeq → kh
open PySem.Paired renaming length → gC
open PySem.Str renaming ofString → GJ
open PySem.W renaming instObj → Wy,findIn → Qn,emptyDict → JM,keepIn → Qo,fnOf → Lz,Frag → bw
open PyWrewaj renaming shape → pW
namespace L2
theorem wl0{α:Type}{l:List α}(h:0=l.length):l=[]:=List.length_eq_zero_iff.mp h.symm
theorem wl1{α:Type}:∀{l:List α},1=l.length->∃x0,l=[x0]
 |[x0],_=>⟨x0,rfl⟩
theorem wl2{α:Type}:∀{l:List α},2=l.length->∃x0 x1,l=[x0,x1]
 |[x0,x1],_=>⟨x0,x1,rfl⟩
theorem wl3{α:Type}:∀{l:List α},3=l.length->∃x0 x1 x2,l=[x0,x1,x2]
 |[x0,x1,x2],_=>⟨x0,x1,x2,rfl⟩
theorem wl4{α:Type}:∀{l:List α},4=l.length->∃x0 x1 x2 x3,l=[x0,x1,x2,x3]
 |[x0,x1,x2,x3],_=>⟨x0,x1,x2,x3,rfl⟩
theorem wl5{α:Type}:∀{l:List α},5=l.length->∃x0 x1 x2 x3 x4,l=[x0,x1,x2,x3,x4]
 |[x0,x1,x2,x3,x4],_=>⟨x0,x1,x2,x3,x4,rfl⟩
theorem wl6{α:Type}:∀{l:List α},6=l.length->∃x0 x1 x2 x3 x4 x5,l=[x0,x1,x2,x3,x4,x5]
 |[x0,x1,x2,x3,x4,x5],_=>⟨x0,x1,x2,x3,x4,x5,rfl⟩
end L2
local macro_rules | `(tactic| walk_at "rd") => `(tactic| repeat (first | refine ⟨_, rfl, ?_⟩ | refine ⟨_, _, rfl, rfl, ?_⟩ | refine ⟨rfl, ?_⟩))
local macro_rules | `(tactic| walk_at "sc") => `(tactic| exact ⟨rfl, rfl, rfl, by decide +kernel, rfl, by decide +kernel, by decide +kernel⟩)
local macro_rules | `(tactic| walk_at "b1") => `(tactic| exact fun _ _ _ _ _ _ us hl => by obtain ⟨_, e⟩ := L2.wl1 hl.symm; subst e; rfl)
local macro_rules | `(tactic| walk_at "b2") => `(tactic| exact fun _ _ _ _ _ _ us hl => by obtain ⟨_, _, e⟩ := L2.wl2 hl.symm; subst e; rfl)
local macro_rules | `(tactic| walk_at "b3") => `(tactic| exact fun _ _ _ _ _ _ us hl => by obtain ⟨_, _, _, e⟩ := L2.wl3 hl.symm; subst e; rfl)
local macro_rules | `(tactic| walk_at "b4") => `(tactic| exact fun _ _ _ _ _ _ us hl => by obtain ⟨_, _, _, _, e⟩ := L2.wl4 hl.symm; subst e; rfl)
local macro_rules | `(tactic| walk_at "b5") => `(tactic| exact fun _ _ _ _ _ _ us hl => by obtain ⟨_, _, _, _, _, e⟩ := L2.wl5 hl.symm; subst e; rfl)
local macro_rules | `(tactic| walk_at "b6") => `(tactic| exact fun _ _ _ _ _ _ us hl => by obtain ⟨_, _, _, _, _, _, e⟩ := L2.wl6 hl.symm; subst e; rfl)
namespace L2
open PySem PySem.Spec PyProof.Rows
abbrev Key:=Sum Int Str
def Q7:Key->Value->Bool
 | .inl k,v=>Value.isInt k v
 | .inr x,v=>Value.isStrOf x v
def aoz(w:World):Key->Int
 | .inl k=>hashInt k
 | .inr x=>hashStr w x
theorem jF:∀{k:Key} {v:Value},Q7 k v=true->(∃i t,k=Sum.inl i/\v=Value.int i t)\/(∃x t,k=Sum.inr x/\v=Value.str x t)
 | .inl i,v,h=>by
  obtain⟨t,e⟩:=Value.isInt_shape (k:=i) (v:=v) h
  exact .inl ⟨i,t,rfl,e⟩
 | .inr x,v,h=>by
  obtain⟨t,e⟩:=Value.isStrOf_shape (x:=x) (v:=v) h
  exact .inr ⟨x,t,rfl,e⟩
theorem aY(i:Int)(t:Tok):Q7 (.inl i) (.int i t)=true:=by simp[Q7,Value.isInt]
theorem Z1(x:Str)(t:Tok):Q7 (.inr x) (.str x t)=true:=by simp[Q7,Value.isStrOf]
theorem ae5(a b:Int):decide ((Sum.inl a:Key)=Sum.inl b)=(a==b):=by
 by_cases e:a=b
 .subst e;simp
 .have h:¬(Sum.inl a:Key)=Sum.inl b:=fun q=>e (Sum.inl.inj q)
  rw[decide_eq_false h]
  exact(beq_eq_false_iff_ne.mpr e).symm
theorem ae8(a b:Str):decide ((Sum.inr a:Key)=Sum.inr b)=decide (a=b):=by
 by_cases e:a=b
 .subst e;simp
 .have h:¬(Sum.inr a:Key)=Sum.inr b:=fun q=>e (Sum.inr.inj q)
  rw[decide_eq_false h,decide_eq_false e]
theorem ae6(a:Int)(b:Str):decide ((Sum.inl a:Key)=Sum.inr b)=false:=decide_eq_false (fun q=>nomatch q)
theorem ae7(a:Str)(b:Int):decide ((Sum.inr a:Key)=Sum.inl b)=false:=decide_eq_false (fun q=>nomatch q)
def jm(prog:Program)(w:World):PySem.KeyKind prog w Key where
 is:=Q7
 hash:=aoz w
 inj:=fun v a b ha hb=>by
  rcases jF ha with⟨i,t,rfl,rfl⟩|⟨x,t,rfl,rfl⟩
  .rcases jF hb with⟨j,u,rfl,e⟩|⟨y,u,rfl,e⟩
   .injection e with e1 _;rw[e1]
   .exact nomatch e
  .rcases jF hb with⟨j,u,rfl,e⟩|⟨y,u,rfl,e⟩
   .exact nomatch e
   .injection e with e1 _;rw[e1]
 byValue:=fun k v h=>by
  rcases jF h with⟨i,t,rfl,rfl⟩|⟨x,t,rfl,rfl⟩<;>rfl
 pyHash:=fun hv h=>by
  rcases jF hv with⟨i,t,rfl,rfl⟩|⟨x,t,rfl,rfl⟩
  .exact wpAny_pyHash_int h
  .exact wpAny_pyHash_str h
 eqBool:=fun hu hv h=>by
  rcases jF hu with⟨i,t,rfl,rfl⟩|⟨x,t,rfl,rfl⟩
  .rcases jF hv with⟨j,u,rfl,rfl⟩|⟨y,u,rfl,rfl⟩
   .rw[ae5] at h;exact wpAny_eqBool_int h
   .rw[ae6] at h;exact SeqAt.EqAt.int_str i t y u _ _ _ _ h
  .rcases jF hv with⟨j,u,rfl,rfl⟩|⟨y,u,rfl,rfl⟩
   .rw[ae7] at h;exact SeqAt.EqAt.str_int x t j u _ _ _ _ h
   .rw[ae8] at h;exact wpAny_eqBool_str h
 «strs»:=fun k x t v h=>by
  rcases jF h with⟨i,u,rfl,e⟩|⟨y,u,rfl,e⟩
  .exact nomatch e
  .injection e with e1 _
   subst e1
   cases v<;>rfl
theorem Vl(prog:Program)(w:World)(i:Int)(t:Tok):(jm prog w).is (.inl i) (.int i t)=true:=aY i t
theorem Vm(prog:Program)(w:World)(x:Str)(t:Tok):(jm prog w).is (.inr x) (.str x t)=true:=Z1 x t
inductive V where
 |non|bl(b:Bool)|int(i:Int)|str(x:Str)|Wf(b:Array UInt8)|flt(b:UInt64)|ref(a:Addr)|ty(n:String)
 deriving DecidableEq
def RelV:V->Value->Prop
 | .non,u=>u=Value.none
 | .bl b,u=>u=Value.bool b
 | .int i,u=>∃t,u=Value.int i t
 | .str x,u=>∃t,u=Value.str x t
 | .Wf b,u=>∃t,u=Value.bytes b t
 | .flt b,u=>∃t,u=Value.float b t
 | .ref a,u=>u=Value.ref a
 | .ty n,u=>u=Value.type n
abbrev Vals:List V->List Value->Prop:=Paired RelV
theorem Vals.length{xs:List V}{us:List Value}(r:Vals xs us):xs.length=us.length:=gC r
theorem Vals.get:∀{xs:List V} {us:List Value} {i:Nat} {x:V},Vals xs us->xs[i]? =some x->∃u,us[i]? =some u/\RelV x u
 |_,_,_,_,.nil,e=>by simp at e
 |_,_,0,_,.cons r _,e=>by simp at e;subst e;exact⟨_,rfl,r⟩
 |_,_,i+1,x,.cons _ t,e=>by
  obtain⟨u,h1,h2⟩:=Vals.get (i:=i) (x:=x) t (by simpa using e)
  exact⟨u,by simpa using h1,h2⟩
theorem Vals.set{x:V}{u:Value}(r:RelV x u):∀{xs:List V} {us:List Value} (i:Nat),Vals xs us->Vals (xs.set i x) (us.set i u)
 |_,_,_,.nil=> .nil
 |_,_,0,.cons _ t=> .cons r t
 |_,_,i+1,.cons q t=> .cons q (Vals.set r i t)
theorem Vals.append:∀{xs ys:List V} {us ws:List Value},Vals xs us->Vals ys ws->Vals (xs++ys) (us++ws)
 |_,_,_,_,.nil,s=>s
 |_,_,_,_,.cons r t,s=> .cons r (Vals.append t s)
theorem Vals.take:∀{xs:List V} {us:List Value} (n:Nat),Vals xs us->Vals (xs.take n) (us.take n)
 |_,_,0,_=> .nil
 |_,_,_+1,.nil=> .nil
 |_,_,n+1,.cons r t=> .cons r (Vals.take n t)
theorem Vals.drop:∀{xs:List V} {us:List Value} (n:Nat),Vals xs us->Vals (xs.drop n) (us.drop n)
 |_,_,0,r=>r
 |_,_,_+1,.nil=> .nil
 |_,_,n+1,.cons _ t=>Vals.drop n t
def GC:Option V->Option Value->Prop
 |some v,some u=>RelV v u
 |none,none=>True
 |_,_=>False
def KV{κ:Type}:List (κ×V)->List (κ×Value)->Prop:=Paired fun(p:κ×V) (q:κ×Value)=>p.1=q.1/\RelV p.2 q.2
def kV:Key->V
 | .inl i=> .int i
 | .inr x=> .str x
inductive HO where
 |lst(xs:List V)
 |tup(xs:List V)
 |dK(kvs:List (Key×V))|dT(kvs:List (List Key×V))
 |set(S:Int->Bool)(n:Nat)
 |ins(C dx:Addr)(fs:List (Str×V))
 |own(x:Addr)
 |xd(fs:List (Str×V))
 |met(f x:Addr)
 |rng(lo hi:Int)
 |QV(o:Obj)(u:HO)
 |Ls(ps:Array Value)
 |ext(φ:Heap->Prop)
abbrev Hp:=Addr->Option HO
def upd(H:Hp)(a:Addr)(o:HO):Hp:=fun b=>if b=a then some o else H b
theorem ao{H:Hp}{a:Addr}{o:HO}:upd H a o a=some o:=by unfold upd;rw[if_pos rfl]
theorem aD{H:Hp}{a b:Addr}{o:HO}(h:b≠a):upd H a o b=H b:=by unfold upd;rw[if_neg h]
theorem Ua{H:Hp}{a:Addr}{o u:HO}:upd (upd H a o) a u=upd H a u:=by
 funext b;unfold upd;split<;>rfl
theorem vX{H:Hp}{a b:Addr}{o u:HO}(h:H a=some o)(h':H b=some u)(d:o≠u):a≠b:=by
 intro e;subst e;rw[h] at h';exact d (dJ h')
theorem aJ{H:Hp}{a b:Addr}{o:HO}(h:H a=some o)(h':H b=none):a≠b:=by
 intro e;subst e;rw[h] at h';cases h'
section
variable(P:Program)(w:World)
def iC(H:Hp)(h:Heap)(a:Addr):HO->Prop
 | .lst xs=>xs.length<=dM/\∃(its:List Value) (n:Nat),Vals xs its/\h.get? a=some {cls:= .type "list",data:= .seq its.toArray n}
 | .tup xs=>xs.length<=dM/\∃its:List Value,Vals xs its/\IsTup h a its.toArray
 | .dK kvs=>kvs.length<=dM/\(a==sysModules)=false/\∃vs,KV kvs vs/\h.DictOf (jm P w) a vs
 | .dT kvs=>kvs.length<=dM/\(a==sysModules)=false/\∃xs:List (List Key×Addr×Value),
   Paired (fun(p:List Key×V) (q:List Key×Addr×Value)=>p.1=q.1/\H q.2.1=some (.tup (p.1.map kV))/\RelV p.2 q.2.2) kvs xs/\
   ∃o es ep,h.get? a=some o/\o.ExactDict/\o.data= .dict es ep/\es.toList=xs.map (entryOfKey (tupleKind (jm P w)))/\(xs.map (·.1)).Nodup
 | .set S n=>h.SetOf (intKind P w) a S n
 | .ins C dx fs=>H dx=some (.own a)/\fs.length<=1000/\dx≠a/\h.get? a=some (Wy C dx)/\
   ∃mA,h.Ns1 dx mA/\(∀f,GC (fs.lookup f) (mA f))/\PySem.Within mA (fs.map (·.1))
 | .own _=>∃o,h.get? a=some o
 | .xd fs=>∃mA,h.Ns1 a mA/\∀f,GC (fs.lookup f) (mA f)
 | .rng lo hi=>∃t u v,h.get? a=some {cls:= .type "range",data:= .fields #[.int lo t,.int hi u,.int 1 v]}
 | .QV o u=>h.get? a=some o/\iC H h a u
 | .Ls ps=>h.get? a=some {cls:= .none,data:= .fields ps}
 | .met f x=>h.get? a=some (PySem.W.methodObj (.ref f) (.ref x))
 | .ext φ=>φ h/\(∃o,h.get? a=some o)/\∀h1 h2:Heap,φ h1->(∀o,h1.get? a=some o->h2.get? a=some o)->φ h2
def xO(H:Hp)(h:Heap):Prop:=∀a o,H a=some o->iC P w H h a o
end
section
variable{P:Program}{w:World}{H H':Hp}{h h':Heap}{a:Addr}{o:HO}
theorem iC.lt(x:iC P w H h a o):a<h.objs.size:=by
 cases o with
 |lst xs=>obtain⟨_,_,_,_,e⟩:=x;exact jZ e
 |tup xs=>obtain⟨_,_,_,p⟩:=x;exact p.lt
 |dK kvs=>obtain⟨_,_,_,_,o,_,_,e,_⟩:=x;exact jZ e
 |dT kvs=>obtain⟨_,_,_,_,o,_,_,e,_⟩:=x;exact jZ e
 |set S n=>obtain⟨o,_,_,_,e,_⟩:=x;exact jZ e
 |ins C dx fs=>obtain⟨_,_,_,e,_⟩:=x;exact jZ e
 |own y=>obtain⟨_,e⟩:=x;exact jZ e
 |xd fs=>obtain⟨_,⟨_,_,_,e,_⟩,_⟩:=x;exact jZ e
 |rng lo hi=>obtain⟨_,_,_,e⟩:=x;exact jZ e
 |QV ob u=>obtain⟨e,_⟩:=x;exact jZ e
 |Ls ps=>exact jZ (show h.get? a=some _ from x)
 |met f y=>exact jZ (show h.get? a=some _ from x)
 |ext φ=>obtain⟨_,⟨_,e⟩,_⟩:=x;exact jZ e
theorem Paired.iM{α β:Type}{F G:α->β->Prop}:∀{l₁:List α} {l₂:List β},Paired F l₁ l₂->(∀a b,F a b->G a b)->Paired G l₁ l₂
 |_,_,.nil,_=> .nil
 |_,_,.cons r t,f=> .cons (f _ _ r) (Paired.iM t f)
theorem iC.stay(x:iC P w H h a o)(k:∀b u,(b=a\/H b=some (.own a))->h.get? b=some u->h'.get? b=some u)
  (ho:∀b,H b=some (.own a)->H' b=some (.own a))(ht:∀b xs,H b=some (.tup xs)->H' b=some (.tup xs)):iC P w H' h' a o:=by
 induction o with
 |lst xs=>obtain⟨z,its,n,r,e⟩:=x;exact⟨z,its,n,r,k _ _ (.inl rfl) e⟩
 |tup xs=>obtain⟨z,its,r,ob,e,c⟩:=x;exact⟨z,its,r,ob,k _ _ (.inl rfl) e,c⟩
 |dK kvs=>obtain⟨z,y,vs,r,ob,es,ep,e,c⟩:=x;exact⟨z,y,vs,r,ob,es,ep,k _ _ (.inl rfl) e,c⟩
 |dT kvs=>
  obtain⟨z,y,xs,r,ob,es,ep,e,c⟩:=x
  exact⟨z,y,xs,Paired.iM r fun p q z=>⟨z.1,ht _ _ z.2.1,z.2.2⟩,ob,es,ep,k _ _ (.inl rfl) e,c⟩
 |set S n=>obtain⟨ob,es,ep,t,e,c⟩:=x;exact⟨ob,es,ep,t,k _ _ (.inl rfl) e,c⟩
 |ins C dx fs=>
  obtain⟨d,z,ne,e,mA,⟨od,es,ep,e2,c⟩,r⟩:=x
  exact⟨ho _ d,z,ne,k _ _ (.inl rfl) e,mA,⟨od,es,ep,k _ _ (.inr d) e2,c⟩,r⟩
 |own y=>obtain⟨ob,e⟩:=x;exact⟨ob,k _ _ (.inl rfl) e⟩
 |xd fs=>obtain⟨mA,⟨od,es,ep,e,c⟩,r⟩:=x;exact⟨mA,⟨od,es,ep,k _ _ (.inl rfl) e,c⟩,r⟩
 |rng lo hi=>obtain⟨t,u,v,e⟩:=x;exact⟨t,u,v,k _ _ (.inl rfl) e⟩
 |QV ob u ih=>obtain⟨e,q⟩:=x;exact⟨k _ _ (.inl rfl) e,ih q⟩
 |Ls ps=>
  have e:h.get? a=some {cls:= .none,data:= .fields ps}:=x
  show h'.get? a=some {cls:= .none,data:= .fields ps}
  exact k a _ (.inl rfl) e
 |met f y=>
  have e:h.get? a=some (PySem.W.methodObj (.ref f) (.ref y)):=x
  show h'.get? a=some (PySem.W.methodObj (.ref f) (.ref y))
  exact k a _ (.inl rfl) e
 |ext φ=>obtain⟨p,⟨o,e⟩,st⟩:=x;exact⟨st _ _ p fun o q=>k _ _ (.inl rfl) q,⟨o,k _ _ (.inl rfl) e⟩,st⟩
theorem xO.lt(x:xO P w H h)(e:H a=some o):a<h.objs.size:=(x a o e).lt
theorem xO.fresh(x:xO P w H h)(e:h.objs.size<=a):H a=none:=by
 cases q:H a with
 |none=>rfl
 |some u=>exact absurd (wQ (x.lt q) e) (RK _)
theorem xO.kept(x:xO P w H h)(k:∀b u,h.get? b=some u->h'.get? b=some u):xO P w H h':=fun a o e=>
 (x a o e).stay (fun b u _ q=>k b u q) (fun _ q=>q) fun _ _ q=>q
theorem xO.laid(x:xO P w H h)(k:∀b u,h.get? b=some u->h'.get? b=some u)(hp:h.objs.size<=a)(new:iC P w (upd H a o) h' a o):xO P w (upd H a o) h':=fun b u e=>by
 have hn:=x.fresh hp
 by_cases hb:b=a
 .subst hb;rw[ao] at e;cases e;exact new
 .rw[aD hb] at e
  exact(x b u e).stay (fun c v _ q=>k c v q) (fun c q=>by rw[aD (aJ q hn)];exact q) fun c xs q=>by rw[aD (aJ q hn)];exact q
end
def Rd(H:Hp)(a:Addr)(u:HO):Prop:=H a=some u\/∃o,H a=some (.QV o u)
theorem Rd.ok{P:Program}{w:World}{H:Hp}{h:Heap}{a:Addr}{u:HO}(r:Rd H a u)(x:xO P w H h):iC P w H h a u:=by
 rcases r with r|⟨o,r⟩
 .exact x a u r
 .obtain⟨_,q⟩:=x a _ r
  exact q
def Mut:Option HO->Prop
 |some (.lst _)=>True
 |some (.dK _)=>True
 |some (.dT _)=>True
 |some (.set _ _)=>True
 |some (.ins _ _ _)=>True
 |some (.ext _)=>True
 |_=>False
section
variable{P:Program}{w:World}{H:Hp}{h h':Heap}{x e:Addr}{o':HO}
theorem xO.write(ok:xO P w H h)(mu:Mut (H x))(he:e=x\/H e=some (.own x))(k:∀b u,b≠e->h.get? b=some u->h'.get? b=some u)(heo:∃u,h'.get? e=some u)
  (new:iC P w (upd H x o') h' x o'):xO P w (upd H x o') h':=fun b u q=>by
 have agz:∀c y,H c=some (.own y)->c≠x:=fun c y r z=>by subst z;rw[r] at mu;exact mu
 have aoD:∀c xs,H c=some (.tup xs)->c≠x:=fun c xs r z=>by subst z;rw[r] at mu;exact mu
 by_cases hb:b=x
 .subst hb;rw[ao] at q;cases q;exact new
 .rw[aD hb] at q
  by_cases hbe:b=e
  .have q':H b=some (.own x):=by
    rcases he with z|z
    .exact absurd (hbe.trans z) hb
    .rw[hbe];exact z
   rw[q] at q';cases q'
   obtain⟨v,hv⟩:=heo
   exact⟨v,by rw[hbe];exact hv⟩
  .refine(ok b u q).stay (fun c v hc r=>k c v ?_ r) (fun c r=>by rw[aD (agz c b r)];exact r) fun c xs r=>by rw[aD (aoD c xs r)];exact r
   rcases hc with rfl|hc
   .exact hbe
   .rintro rfl
    rcases he with z|z
    .exact agz c b hc z
    .rw[hc] at z;cases z;exact hb rfl
end
structure Un(fs ex:List Addr)(H H':Hp)(h h':Heap):Prop where
 keep:∀b o,h.get? b=some o->H b=none->b∉fs->b∉ex->h'.get? b=some o
 slot:∀b o,h.get? b=some o->H b=none->b∈fs->b∉ex->∃sl,h'.get? b=some {o with slots:=sl}
 free:∀b o,h.get? b=some o->H b=none->b∉ex->H' b=none
 there:∀b o,h.get? b=some o->b∉ex->∃o',h'.get? b=some o'
 tups:∀b xs,H b=some (.tup xs)->H' b=some (.tup xs)
 Mw:∀b o u,H b=some (.QV o u)->H' b=some (.QV o u)
 O5:∀b ps,H b=some (.Ls ps)->∃more,H' b=some (.Ls (ps++more))
section
variable{fs fs' ex ex':List Addr}{H H1 H2:Hp}{h h1 h2 h':Heap}{a x e:Addr}{o:HO}
theorem Un.any(u:Un fs ex H H1 h h1){b:Addr}{ob:Obj}(q:h.get? b=some ob)(n:H b=none)(hx:b∉ex):∃sl,h1.get? b=some {ob with slots:=sl}:=by
 by_cases hb:b∈fs
 .exact u.slot b ob q n hb hx
 .exact⟨ob.slots,u.keep b ob q n hb hx⟩
theorem Un.kept(k:∀b u,h.get? b=some u->h'.get? b=some u):Un fs ex H H h h':=
 ⟨fun b ob q _ _ _=>k b ob q,fun b ob q _ _ _=>⟨ob.slots,k b ob q⟩,fun _ _ _ n _=>n,fun b ob q _=>⟨ob,k b ob q⟩,fun _ _ q=>q,fun _ _ _ q=>q,fun _ ps q=>⟨#[],by rw[q];simp⟩⟩
theorem Un.refl:Un fs ex H H h h:=Un.kept fun _ _ q=>q
theorem Un.laid(k:∀b u,h.get? b=some u->h'.get? b=some u)(hp:h.objs.size<=a)(hn:H a=none):Un fs ex H (upd H a o) h h' where
 keep:=fun b u q _ _ _=>k b u q
 slot:=fun b u q _ _ _=>⟨u.slots,k b u q⟩
 free:=fun b u q n _=>by rw[aD (rR (wQ (jZ q) hp))];exact n
 there:=fun b u q _=>⟨u,k b u q⟩
 tups:=fun b xs q=>by rw[aD (aJ q hn)];exact q
 Mw:=fun b u xs q=>by rw[aD (aJ q hn)];exact q
 O5:=fun b ps q=>⟨#[],by rw[aD (aJ q hn),q];simp⟩
theorem Un.write(mu:Mut (H x))(he:e=x\/H e=some (.own x))(k:∀b u,b≠e->h.get? b=some u->h'.get? b=some u)(heo:∃u,h'.get? e=some u):Un fs ex H (upd H x o) h h':=by
 have hx:∀b,H b=none->b≠x:=fun b n z=>by subst z;rw[n] at mu;exact mu
 have hb:∀b,H b=none->b≠e:=fun b n z=>by
  subst z
  rcases he with r|r
  .exact hx b n r
  .rw[n] at r;cases r
 have hm:∀b u,H b=some u->¬Mut (some u)->b≠x:=fun b u q nm z=>by subst z;rw[q] at mu;exact nm mu
 refine⟨fun b u q n _ _=>k b u (hb b n) q,fun b u q n _ _=>⟨u.slots,k b u (hb b n) q⟩,fun b u q n _=>by rw[aD (hx b n)];exact n,fun b u q _=>?_,
  fun b xs q=>by rw[aD (hm b _ q fun z=>z)];exact q,fun b u xs q=>by rw[aD (hm b _ q fun z=>z)];exact q,fun b ps q=>⟨#[],by rw[aD (hm b _ q fun z=>z),q];simp⟩⟩
 by_cases hbe:b=e
 .subst hbe;exact heo
 .exact⟨u,k b u hbe q⟩
end
def trk(h:Heap)(H:Hp):List Addr:=(List.range h.objs.size).filter fun a=>(H a).isSome
def Pj(h:Heap)(H:Hp):Heap:=PySem.W.hideAll h (trk h H)
theorem ZQ(h:Heap)(H:Hp):(Pj h H).objs.size=h.objs.size:=PySem.W.hideAll_size _ _
theorem abv{h:Heap}{H:Hp}{b:Addr}{o:Obj}(e:h.get? b=some o)(n:H b=none):(Pj h H).get? b=some o:=
 PySem.W.hideAll_get _ e fun hm=>by
  have q:(H b).isSome=true:=(yU.mp hm).2
  rw[n] at q;simp at q
theorem adH{h:Heap}{H:Hp}{b:Addr}{o:Obj}(e:(Pj h H).get? b=some o):h.get? b=some o/\H b=none:=by
 have e':h.get? b=some o:=PySem.W.of_hideAll (trk h H) e
 refine⟨e',?_⟩
 cases q:H b with
 |none=>rfl
 |some x=>
  have hm:b∈trk h H:=yU.mpr ⟨List.mem_range.mpr (jZ e'),by simp[q]⟩
  have z:(Pj h H).get? b=none:=PySem.W.hideAll_none (trk h H) hm
  rw[z] at e;cases e
def ac2(g h:Heap)(L:Addr):List (Addr×Obj):=(List.range h.objs.size).filterMap fun a=>if a=L\/(g.get? a).isSome=true then none else(h.get? a).map fun o=>(a,o)
def rest(g h:Heap)(L d:Addr):List (Addr×Obj):=(ac2 g h L).filter fun p=>decide (p.1≠d)
structure Mod(K:bw)(mg:Str->Option Value)(base:Heap):Prop where
 kin:K.In base
 glob:base.Ns lA mg
 blt:∃mb,base.Ns builtinsNs mb/\∀x:Str,x≠"__name__"->mb x=bootBuiltins x
 nolimit:base.NoLimit
structure Cx where
 prog:Program
 w:World
 K:bw
 mg:Str->Option Value
 base:Heap
 A:Around
 N:List Str
 Gz:Shared
 H_0:Hp
 env:Env
 outer:List Env
 stack:List Env
 ex:List Addr
 fn:Str->Bool
 calm:Bool
 pn:List (Addr×Obj)
 xe:Value->Shared->Prop
def frs(l:List Env):List Addr:=l.filterMap (·.frame)
abbrev Cx.fs(X:Cx):List Addr:=frs X.outer
def Vis(sc:Scope)(x:Str):Prop:=sc.names.lookup x=some .local\/sc.names.lookup x=some .cell\/sc.names.lookup x=some .free
def Loc(sc:Scope)(x:Str):Prop:=sc.names.lookup x=some .local\/sc.names.lookup x=some .cell
def Look(env:Env)(h:Heap)(m:Str->Option Value)(x:Str)(u:Value):Prop:=
 (env.kindOf x=some .local/\m x=some u)\/((env.kindOf x=some .cell\/env.kindOf x=some .free)/\∃c,env.cells.lookup x=some c/\h.IsCell c (some u))
structure Cx.Ok(X:Cx):Prop where
 mod:Mod X.K X.mg X.base
 kind:X.env.scope.kind= .function
 glob:X.env.globals=lA
 blt:X.env.builtins=builtinsNs
 above:X.Gz.heap.objs.size<=X.env.locals
 inj:∀x y c,X.env.cells.lookup x=some c->X.env.cells.lookup y=some c->x=y
 has:∀x,(X.env.kindOf x=some .cell\/X.env.kindOf x=some .free)->∃c,X.env.cells.lookup x=some c
 cab:∀x c,X.fn x=true->X.env.cells.lookup x=some c->X.Gz.heap.objs.size<=c
 hd:X.calm=true->X.A.handled=none
 frames:X.A.frames=some X.stack
 stk:X.stack=X.outer\/(X.stack=X.env::X.outer/\X.env.frame=some X.env.locals)
 exf:∀b∈X.ex,b≠X.env.locals/\∀x c,X.env.cells.lookup x=some c->c≠b
 bs:∀b o,X.base.get? b=some o->X.Gz.heap.get? b=some o/\X.H_0 b=none
 bsz:X.base.objs.size<=X.Gz.heap.objs.size
 Z7:∀b o,X.base.get? b=some o->b∉X.ex
 ZC:∀b∈X.ex,b∉X.fs
 Fj:X.Gz.heap.FunFrames X.base X.outer
 frf:∀b∈X.fs,X.H_0 b=none
structure Inv(X:Cx)(pins:List (Addr×Obj))(σ:List (Option V))(H:Hp)(s:Shared):Prop where
 ok:X.Ok
 os:s.os=X.Gz.os
 bare:AllBare s.gens
 base:Un X.fs X.ex X.H_0 H X.Gz.heap s.heap
 loc:∃m,s.heap.Ns X.env.locals m/\∀(i:Nat) (x:Str) (v:V),X.N[i]? =some x->σ[i]? =some (some v)->Vis X.env.scope x->∃u,RelV v u/\Look X.env s.heap m x u
 cell:∀x c,X.env.cells.lookup x=some c->∃v,s.heap.IsCell c v
 free:H X.env.locals=none
 xg:∀x c,X.env.cells.lookup x=some c->H c=none
 pin:∀p∈X.pn++pins,s.heap.get? p.1=some p.2/\H p.1=none/\p.1≠X.env.locals/\p.1∉X.fs/\∀v,p.2.data≠ .cell v
 hok:xO X.prog X.w H s.heap
 len:σ.length=X.N.length
section
variable{X:Cx}{pins:List (Addr×Obj)}{σ:List (Option V)}{H H':Hp}{s:Shared}{h':Heap}
theorem Cx.Ok.aoB(ok:X.Ok){b:Addr}{o:Obj}(e:X.base.get? b=some o):b∉X.fs:=fun hb=>by
 have:=(ok.Fj.mem hb).1
 rw[e] at this;cases this
theorem Inv.bs(I:Inv X pins σ H s):∀b o,X.base.get? b=some o->s.heap.get? b=some o/\H b=none:=fun b o e=>
 ⟨I.base.keep b o (I.ok.bs b o e).1 (I.ok.bs b o e).2 (I.ok.aoB e) (I.ok.Z7 b o e),I.base.free b o (I.ok.bs b o e).1 (I.ok.bs b o e).2 (I.ok.Z7 b o e)⟩
theorem Inv.bk(I:Inv X pins σ H s):∀b o,X.base.get? b=some o->s.heap.get? b=some o:=fun b o e=>(I.bs b o e).1
theorem Inv.mod(I:Inv X pins σ H s):Mod X.K X.mg X.base:=I.ok.mod
theorem Inv.R7(I:Inv X pins σ H s):X.K.In s.heap:=I.ok.mod.kin.keeps I.bk
theorem Inv.nolimit(I:Inv X pins σ H s):s.heap.NoLimit:=I.ok.mod.nolimit.keeps I.bk
theorem Inv.fr(I:Inv X pins σ H s):∃m,Fr X.base X.env.locals s.heap m:=
 let⟨m,hn,_⟩:=I.loc
 ⟨m,hn,I.bk,mR I.ok.bsz I.ok.above⟩
theorem Inv.lt(I:Inv X pins σ H s):X.env.locals<s.heap.objs.size:=let⟨_,hn,_⟩:=I.loc;hn.lt
theorem Inv.sz(I:Inv X pins σ H s):X.Gz.heap.objs.size<=s.heap.objs.size:=mR I.ok.above (qz I.lt)
theorem Inv.aoC(I:Inv X pins σ H s){a:Addr}(h:s.heap.objs.size<=a):a∉X.fs:=fun hb=>by
 obtain⟨_,o,ho,_⟩:=I.ok.Fj.mem hb
 exact absurd (wQ (jZ ho) (mR I.sz h)) (RK _)
theorem Inv.cne(I:Inv X pins σ H s):∀x c,X.env.cells.lookup x=some c->c≠X.env.locals:=fun x c e z=>by
 obtain⟨v,o,ho,hd⟩:=I.cell x c e
 obtain⟨m,⟨o',es,ep,ho',hd',_⟩,_⟩:=I.loc
 rw[z,ho'] at ho;cases ho;rw[hd'] at hd;cases hd
theorem Inv.Fj(I:Inv X pins σ H s):s.heap.FunFrames X.base X.outer:=by
 have all:∀(l:List Env),(∀b∈frs l,b∈X.fs)->X.Gz.heap.FunFrames X.base l->s.heap.FunFrames X.base l:=by
  intro l
  induction l with
  |nil=>intro _ _;trivial
  |cons env r ih=>
   intro hs hl
   obtain⟨hk,⟨L,o,hf,hn,ho,hd⟩,hr⟩:=hl
   have hL:L∈X.fs:=hs L (by unfold frs;rw[JL,hf];exact fY)
   obtain⟨sl,e⟩:=I.base.slot L o ho (I.ok.frf L hL) hL fun z=>I.ok.ZC L z hL
   exact⟨hk,⟨L,_,hf,hn,e,hd⟩,ih (fun b hb=>hs b (by unfold frs;rw[JL,hf];exact dU _ hb)) hr⟩
 exact all X.outer (fun _ hb=>hb) I.ok.Fj
theorem Inv.stack(I:Inv X pins σ H s):s.heap.FunFrames X.base X.stack:=by
 rcases I.ok.stk with e|⟨e,hf⟩
 .rw[e];exact I.Fj
 .rw[e]
  obtain⟨m,hn,_⟩:=I.loc
  refine .cons (by rw[I.ok.kind];decide) hf hn ?_ I.Fj
  exact Heap.get?_none_of_le (mR I.ok.bsz I.ok.above)
theorem Inv.T7(I:Inv X pins σ H s):∀b∈frs X.stack,b∈X.env.locals::X.fs:=fun b hb=>by
 rcases I.ok.stk with e|⟨e,hf⟩
 .rw[e] at hb;exact dU _ hb
 .rw[e] at hb
  unfold frs at hb
  rw[JL,hf] at hb
  exact hb
theorem Inv.Lr(I:Inv X pins σ H s):∀b∈frs X.stack,H b=none:=fun b hb=>by
 rcases bU.mp (I.T7 b hb) with e|hb
 .rw[e];exact I.free
 .obtain⟨_,o,ho,_⟩:=I.ok.Fj.mem hb
  exact I.base.free b o ho (I.ok.frf b hb) fun z=>I.ok.ZC b z hb
theorem Inv.step{g':Array GenState}{t':Nat}{d':Drawn}{ch:List Addr}(I:Inv X pins σ H s)
  (hch:∀b∈ch,(b∈X.ex\/X.Gz.heap.objs.size<=b)/\b≠X.env.locals/\(∀x c,X.env.cells.lookup x=some c->c≠b)/\∀p∈X.pn++pins,p.1≠b)
  (keep:∀b o,b≠X.env.locals->b∉X.fs->b∉ch->s.heap.get? b=some o->H b=none->h'.get? b=some o)
  (slot:∀b o,b≠X.env.locals->b∈X.fs->b∉ch->s.heap.get? b=some o->H b=none->∃sl,h'.get? b=some {o with slots:=sl})(free:∀b o,b∉ch->s.heap.get? b=some o->H b=none->H' b=none)
  (there:∀b o,b∉ch->s.heap.get? b=some o->∃o',h'.get? b=some o')
  (tups:∀b xs,H b=some (.tup xs)->H' b=some (.tup xs))(Mw:∀b o u,H b=some (.QV o u)->H' b=some (.QV o u))(O5:∀b ps,H b=some (.Ls ps)->∃more,H' b=some (.Ls (ps++more)))
  (ns:∀m,s.heap.Ns X.env.locals m->h'.Ns X.env.locals m)(hok:xO X.prog X.w H' h')(hg:AllBare g'):
  Inv X pins σ H' {s with heap:=h',gens:=g',drawn:=d',toks:=t'}:=by
 have neL:∀b o,X.Gz.heap.get? b=some o->b≠X.env.locals:=fun b o e=>rR (wQ (jZ e) I.ok.above)
 have neC:∀b o,X.Gz.heap.get? b=some o->b∉X.ex->b∉ch:=fun b o e hx hb=>by
  rcases(hch b hb).1 with z|z
  .exact hx z
  .exact absurd (wQ (jZ e) z) (RK _)
 have cellK:∀x c,X.env.cells.lookup x=some c->∀v,s.heap.IsCell c v->h'.IsCell c v:=fun x c e v ⟨o,ho,hd⟩=>by
  have nch:c∉ch:=fun z=>(hch c z).2.2.1 x c e rfl
  by_cases hc:c∈X.fs
  .obtain⟨sl,q⟩:=slot c o (I.cne x c e) hc nch ho (I.xg x c e)
   exact⟨_,q,hd⟩
  .exact⟨o,keep c o (I.cne x c e) hc nch ho (I.xg x c e),hd⟩
 refine⟨I.ok,I.os,hg,⟨fun b o e n hb hx=>?_,fun b o e n hb hx=>?_,fun b o e n hx=>?_,fun b o e hx=>?_,fun b xs e=>tups b xs (I.base.tups b xs e),fun b o xs e=>Mw b o xs (I.base.Mw b o xs e),fun b ps e=>?_⟩,?_,fun x c e=>?_,?_,fun x c e=>?_,fun p hp=>?_,hok,I.len⟩
 .exact keep b o (neL b o e) hb (neC b o e hx) (I.base.keep b o e n hb hx) (I.base.free b o e n hx)
 .obtain⟨sl,e1⟩:=I.base.slot b o e n hb hx
  obtain⟨sl',e2⟩:=slot b _ (neL b o e) hb (neC b o e hx) e1 (I.base.free b o e n hx)
  exact⟨sl',e2⟩
 .obtain⟨o',e1⟩:=I.base.there b o e hx
  exact free b o' (neC b o e hx) e1 (I.base.free b o e n hx)
 .obtain⟨o',e1⟩:=I.base.there b o e hx
  exact there b o' (neC b o e hx) e1
 .obtain⟨m1,e1⟩:=I.base.O5 b ps e
  obtain⟨m2,e2⟩:=O5 b _ e1
  exact⟨m1++m2,by rw[e2,Array.append_assoc]⟩
 .obtain⟨m,hn,hl⟩:=I.loc
  refine⟨m,ns m hn,fun i x v e1 e2 e3=>?_⟩
  obtain⟨u,r,l⟩:=hl i x v e1 e2 e3
  refine⟨u,r,?_⟩
  rcases l with l|⟨k,c,e,z⟩
  .exact .inl l
  .exact .inr ⟨k,c,e,cellK x c e _ z⟩
 .obtain⟨v,z⟩:=I.cell x c e
  exact⟨v,cellK x c e v z⟩
 .obtain⟨m,⟨o,_,_,ho,_⟩,_⟩:=I.loc
  exact free _ o (fun z=>(hch _ z).2.1 rfl) ho I.free
 .obtain⟨v,o,ho,hd⟩:=I.cell x c e
  exact free c o (fun z=>(hch c z).2.2.1 x c e rfl) ho (I.xg x c e)
 .obtain⟨e,n,ne,nf,d⟩:=I.pin p hp
  have nch:p.1∉ch:=fun z=>(hch p.1 z).2.2.2 p hp rfl
  exact⟨keep p.1 p.2 ne nf nch e n,free p.1 p.2 nch e n,ne,nf,d⟩
theorem Inv.un{t':Nat}(I:Inv X pins σ H s)(u:Un X.fs [] H H' s.heap h')(hok:xO X.prog X.w H' h'):Inv X pins σ H' {s with heap:=h',toks:=t'}:=by
 obtain⟨m,⟨o,es,ep,ho,r⟩,_⟩:=id I.loc
 obtain⟨sl,hL⟩:=u.any ho I.free (by simp)
 exact I.step (g':=s.gens) (d':=s.drawn) (ch:=[]) (fun _ z=>nomatch z) (fun b o _ hb _ e n=>u.keep b o e n hb (by simp)) (fun b o _ hb _ e n=>u.slot b o e n hb (by simp)) (fun b o _ e n=>u.free b o e n (by simp)) (fun b o _ e=>u.there b o e (by simp)) u.tups u.Mw u.O5 (fun m' hm=>by
  obtain⟨o',es',ep',ho',r'⟩:=hm
  rw[ho] at ho';cases ho'
  exact⟨_,es',ep',hL,r'⟩) hok I.bare
theorem Inv.call{g':Array GenState}{t':Nat}{d':Drawn}{ch:List Addr}(I:Inv X pins σ H s)(u:Un (frs X.stack) ch H H' s.heap h')(hok:xO X.prog X.w H' h')(hg:AllBare g')
  (hch:∀b∈ch,(b∈X.ex\/X.Gz.heap.objs.size<=b)/\b≠X.env.locals/\(∀x c,X.env.cells.lookup x=some c->c≠b)/\∀p∈X.pn++pins,p.1≠b):
  Inv X pins σ H' {s with heap:=h',gens:=g',drawn:=d',toks:=t'}:=by
 obtain⟨m,⟨o,es,ep,ho,r⟩,_⟩:=id I.loc
 obtain⟨sl,hL⟩:=u.any ho I.free fun z=>(hch _ z).2.1 rfl
 exact I.step (ch:=ch) hch (fun b o hL hb hc e n=>u.keep b o e n (fun z=>(bU.mp (I.T7 b z)).elim hL hb) hc) (fun b o _ _ hc e n=>u.any e n hc) (fun b o hc e n=>u.free b o e n hc) (fun b o hc e=>u.there b o e hc) u.tups u.Mw u.O5 (fun m' hm=>by
  obtain⟨o',es',ep',ho',r'⟩:=hm
  rw[ho] at ho';cases ho'
  exact⟨_,es',ep',hL,r'⟩) hok hg
theorem Inv.turned{t':Nat}{it:Addr}(I:Inv X pins σ H s)(k:∀b o,b≠it->s.heap.get? b=some o->h'.get? b=some o)(hn:H it=none)(hL:it≠X.env.locals)
  (h1:it∈X.ex\/X.Gz.heap.objs.size<=it)(h2:∀x c,X.env.cells.lookup x=some c->c≠it)(h3:∀p∈X.pn++pins,p.1≠it):Inv X pins σ H {s with heap:=h',toks:=t'}:=by
 have nit:∀b u,H b=some u->b≠it:=fun b u e z=>by rw[z,hn] at e;cases e
 refine I.step (g':=s.gens) (d':=s.drawn) (ch:=[it]) (fun b hb=>?_) (fun b o _ _ hc e _=>k b o (fun z=>hc (by simp[z])) e) (fun b o _ _ hc e _=>⟨o.slots,k b o (fun z=>hc (by simp[z])) e⟩) (fun _ _ _ _ n=>n)
  (fun b o hc e=>⟨o,k b o (fun z=>hc (by simp[z])) e⟩) (fun _ _ e=>e) (fun _ _ _ e=>e) (fun b ps e=>⟨#[],by rw[e];simp⟩) (fun m hm=>?_) (fun b u e=>?_) I.bare
 .have e:b=it:=by simpa using hb
  subst e
  exact⟨h1,hL,h2,h3⟩
 .obtain⟨o,es,ep,ho,r⟩:=hm
  exact⟨o,es,ep,k _ o (Ne.symm hL) ho,r⟩
 .refine(I.hok b u e).stay (fun c v hc q=>k c v ?_ q) (fun _ q=>q) fun _ _ q=>q
  rcases hc with z|z
  .rw[z];exact nit b u e
  .exact nit c _ z
theorem Inv.tok(I:Inv X pins σ H s)(t:Nat):Inv X pins σ H {s with toks:=t}:=I.un (h':=s.heap) (t':=t) Un.refl I.hok
theorem Inv.kept{t':Nat}(I:Inv X pins σ H s)(k:∀b u,s.heap.get? b=some u->h'.get? b=some u):Inv X pins σ H {s with heap:=h',toks:=t'}:=I.un (Un.kept k) (I.hok.kept k)
theorem Inv.laid{a:Addr}{o:HO}{t':Nat}(I:Inv X pins σ H s)(k:∀b u,s.heap.get? b=some u->h'.get? b=some u)(hp:s.heap.objs.size<=a)(new:iC X.prog X.w (upd H a o) h' a o):
  Inv X pins σ (upd H a o) {s with heap:=h',toks:=t'}:=I.un (Un.laid k hp (I.hok.fresh hp)) (I.hok.laid k hp new)
theorem Inv.write{x e:Addr}{o:HO}{t':Nat}(I:Inv X pins σ H s)(mu:Mut (H x))(he:e=x\/H e=some (.own x))(k:∀b u,b≠e->s.heap.get? b=some u->h'.get? b=some u)(heo:∃u,h'.get? e=some u)
  (new:iC X.prog X.w (upd H x o) h' x o):Inv X pins σ (upd H x o) {s with heap:=h',toks:=t'}:=I.un (Un.write mu he k heo) (I.hok.write mu he k heo new)
theorem Inv.weak{σ':List (Option V)}(I:Inv X pins σ H s)(hl:σ'.length=σ.length)(w:∀(i:Nat) v,σ'[i]? =some (some v)->σ[i]? =some (some v)):Inv X pins σ' H s:=
 ⟨I.ok,I.os,I.bare,I.base,let⟨m,hn,hl'⟩:=I.loc;⟨m,hn,fun i x v e1 e2 e3=>hl' i x v e1 (w i v e2) e3⟩,I.cell,I.free,I.xg,I.pin,I.hok,hl.trans I.len⟩
theorem Inv.H_{ux:List (Addr×Obj)}(I:Inv X pins σ H s)(h:∀p∈ux,s.heap.get? p.1=some p.2/\H p.1=none/\p.1≠X.env.locals/\p.1∉X.fs/\∀v,p.2.data≠ .cell v):Inv X ux σ H s:=
 ⟨I.ok,I.os,I.bare,I.base,I.loc,I.cell,I.free,I.xg,fun p hp=>(j9.mp hp).elim (fun z=>I.pin p (Bw _ z)) (h p),I.hok,I.len⟩
theorem M5{N:List Str}(hN:N.Nodup){i j:Nat}{x:Str}(a:N[i]? =some x)(b:N[j]? =some x):i=j:=by
 obtain⟨h1,e1⟩:=gn.mp a
 obtain⟨h2,e2⟩:=gn.mp b
 exact(List.getElem_inj hN).mp (e1.trans e2.symm)
theorem Rv{M:Model}{A:Around}{E:Value->Shared->Prop}{i:Nat}{x:Str}{v:V}{u:Value}{Q:Unit->Shared->Prop}(I:Inv X pins σ H s)(hN:X.N.Nodup)(hi:X.N[i]? =some x)(hx:Loc X.env.scope x)(r:RelV v u)
  (h:∀s',Inv X pins (σ.set i (some v)) H s'->(∃a,Heap.SameBut a s.heap s'.heap/\(a=X.env.locals\/X.env.cells.lookup x=some a))->Q () s')(hf:X.fn x=true\/X.env.scope.names.lookup x=some .local:=by first|exact .inl rfl|exact .inr rfl|assumption):wpAny M A (storeName X.env x u) Q E s:=by
 obtain⟨m,hn,hl⟩:=id I.loc
 have hcls:(X.env.scope.kind== .class||(X.env.scope.kind== .module&&X.env.locals !=X.env.globals))=false:=by rw[I.ok.kind];rfl
 have ao8:i<σ.length:=by rw[I.len];exact(gn.mp hi).1
 have cne:=I.cne
 have tracked:∀{a:Addr} {h':Heap},(∃o,s.heap.get? a=some o/\H a=none)->Heap.SameBut a s.heap h'->xO X.prog X.w H h':=fun{a h'} ha hs b ob e=>by
  obtain⟨_,_,hfree⟩:=ha
  refine(I.hok b ob e).stay (fun c w' hc q=>(hs.2 c ?_).trans q) (fun _ q=>q) fun _ _ q=>q
  rintro rfl
  rcases hc with rfl|hc
  .rw[hfree] at e;cases e
  .rw[hfree] at hc;cases hc
 rcases hx with hk|hk
 .refine wpAny_storeName_local hk hn (fun h' hn' hs=>?_) hcls
  obtain⟨oL,_,_,hoL,_⟩:=id hn
  refine h _ ⟨I.ok,I.os,I.bare,⟨fun b o e n hb hx=>?_,fun b o e n hb hx=>?_,I.base.free,fun b o e hx=>?_,I.base.tups,I.base.Mw,I.base.O5⟩,⟨_,hn',fun j y v' e1 e2 e3=>?_⟩,fun y c e=>?_,I.free,I.xg,fun p hp=>?_,tracked ⟨oL,hoL,I.free⟩ hs,by simpa using I.len⟩ ⟨_,hs,.inl rfl⟩
  .exact(hs.2 b (rR (wQ (jZ e) I.ok.above))).trans (I.base.keep b o e n hb hx)
  .obtain⟨sl,e1⟩:=I.base.slot b o e n hb hx
   exact⟨sl,(hs.2 b (rR (wQ (jZ e) I.ok.above))).trans e1⟩
  .obtain⟨o',e1⟩:=I.base.there b o e hx
   exact⟨o',(hs.2 b (rR (wQ (jZ e) I.ok.above))).trans e1⟩
  .by_cases hj:j=i
   .subst hj
    rw[hi] at e1;cases e1
    rw[List.getElem?_set_self ao8] at e2
    cases e2
    exact⟨u,r,.inl ⟨hk,by simp⟩⟩
   .rw[List.getElem?_set_ne (Ne.symm hj)] at e2
    obtain⟨u',r',q⟩:=hl j y v' e1 e2 e3
    refine⟨u',r',?_⟩
    rcases q with⟨k,e⟩|⟨k,c,e,z⟩
    .refine .inl ⟨k,?_⟩
     have:y≠x:=fun e=>hj (M5 hN e1 (e▸hi))
     simp[this,e]
    .exact .inr ⟨k,c,e,z.sameBut hs (cne y c e)⟩
  .obtain⟨w',z⟩:=I.cell y c e
   exact⟨w',z.sameBut hs (cne y c e)⟩
  .obtain⟨e,n,ne,nf,d⟩:=I.pin p hp
   exact⟨(hs.2 p.1 ne).trans e,n,ne,nf,d⟩
 .have hfn:X.fn x=true:=by
   rcases hf with z|z
   .exact z
   .rw[z] at hk;cases hk
  obtain⟨c,hc⟩:=I.ok.has x (.inl hk)
  obtain⟨w',z⟩:=I.cell x c hc
  refine wpAny_storeName_cell I.ok.kind hk hc z (fun h' hc' hs=>?_)
  obtain⟨oc,hoc,aos⟩:=id z
  refine h {s with heap:=h'} ⟨I.ok,I.os,I.bare,⟨fun b o e n hb hx=>?_,fun b o e n hb hx=>?_,I.base.free,fun b o e hx=>?_,I.base.tups,I.base.Mw,I.base.O5⟩,⟨m,hn.sameBut hs (Ne.symm (cne x c hc)),fun j y v' e1 e2 e3=>?_⟩,fun y c' e=>?_,I.free,I.xg,fun p hp=>?_,tracked ⟨oc,hoc,I.xg x c hc⟩ hs,by simpa using I.len⟩ ⟨c,hs,.inr hc⟩
  .exact(hs.2 b (rR (wQ (jZ e) (I.ok.cab x c hfn hc)))).trans (I.base.keep b o e n hb hx)
  .obtain⟨sl,e1⟩:=I.base.slot b o e n hb hx
   exact⟨sl,(hs.2 b (rR (wQ (jZ e) (I.ok.cab x c hfn hc)))).trans e1⟩
  .obtain⟨o',e1⟩:=I.base.there b o e hx
   exact⟨o',(hs.2 b (rR (wQ (jZ e) (I.ok.cab x c hfn hc)))).trans e1⟩
  .by_cases hj:j=i
   .subst hj
    rw[hi] at e1;cases e1
    rw[List.getElem?_set_self ao8] at e2
    cases e2
    exact⟨u,r,.inr ⟨.inl hk,c,hc,hc'⟩⟩
   .rw[List.getElem?_set_ne (Ne.symm hj)] at e2
    obtain⟨u',r',q⟩:=hl j y v' e1 e2 e3
    refine⟨u',r',?_⟩
    rcases q with q|⟨k,c',e,z'⟩
    .exact .inl q
    .refine .inr ⟨k,c',e,z'.sameBut hs ?_⟩
     rintro rfl
     exact hj (M5 hN e1 (I.ok.inj _ _ _ e hc▸hi))
  .by_cases hcc:c'=c
   .subst hcc;exact⟨_,hc'⟩
   .obtain⟨w2,z2⟩:=I.cell y c' e
    exact⟨w2,z2.sameBut hs hcc⟩
  .obtain⟨e,n,ne,nf,d⟩:=I.pin p hp
   refine⟨(hs.2 p.1 ?_).trans e,n,ne,nf,d⟩
   intro q
   rw[q,hoc] at e
   have q':oc=p.2:=dJ e
   exact d w' (by rw[<-q'];exact aos)
theorem O2{M:Model}{A:Around}{E:Value->Shared->Prop}{i:Nat}{x:Str}{v:V}{u:Value}{Q:Unit->Shared->Prop}(I:Inv X pins σ H s)(hN:X.N.Nodup)(hi:X.N[i]? =some x)(hx:Loc X.env.scope x)(r:RelV v u)
  (h:∀s',Inv X pins (σ.set i (some v)) H s'->Q () s')(hf:X.fn x=true\/X.env.scope.names.lookup x=some .local:=by first|exact .inl rfl|exact .inr rfl|assumption):wpAny M A (storeName X.env x u) Q E s:=
 Rv I hN hi hx r (fun s' I' _=>h s' I') hf
theorem Inv.call'{s':Shared}{ch:List Addr}(I:Inv X pins σ H s)(ho:s'.os=s.os)(u:Un (frs X.stack) ch H H' s.heap s'.heap)(hok:xO X.prog X.w H' s'.heap)(hg:AllBare s'.gens)
  (hch:∀b∈ch,(b∈X.ex\/X.Gz.heap.objs.size<=b)/\b≠X.env.locals/\(∀x c,X.env.cells.lookup x=some c->c≠b)/\∀p∈X.pn++pins,p.1≠b):Inv X pins σ H' s':=by
 obtain⟨h',g',d',t',o'⟩:=s'
 have e:o'=s.os:=ho
 subst e
 exact I.call (g':=g') (t':=t') (d':=d') u hok hg hch
end
abbrev XK:=Value->Option Addr->Hp->Prop
abbrev St:=List (Option V)
abbrev VK:=V->Hp->Prop
abbrev TE:=St->Hp->VK->Prop
abbrev TT:=St->Hp->(Bool->Hp->Prop)->Prop
abbrev TA:=St->Hp->(List V->Hp->Prop)->Prop
structure Ends where
 nx:St->Hp->Prop
 rt:VK
 bk:St->Hp->Prop:=fun _ _=>False
 ct:St->Hp->Prop:=fun _ _=>False
abbrev TS:=Ends->St->Hp->Prop
inductive IEP(X:Cx)(pins:List (Addr×Obj))(σ:St)(Q:VK)(u:Value)(s':Shared):Prop
 |mk (v:_) (H':_) (lq:Inv X pins σ H' s') (hh1:RelV v u) (nY:Q v H')
def EP(X:Cx)(pins:List (Addr×Obj))(σ:St)(Q:VK)(u:Value)(s':Shared):Prop:=IEP X pins σ Q u s'
def TP(X:Cx)(pins:List (Addr×Obj))(σ:St)(Q:Bool->Hp->Prop)(b:Bool)(s':Shared):Prop:=∃H',Inv X pins σ H' s'/\Q b H'
inductive IAP(X:Cx)(pins:List (Addr×Obj))(σ:St)(Q:List V->Hp->Prop)(us:List Value)(s':Shared):Prop
 |mk (vs:_) (H':_) (lq:Inv X pins σ H' s') (hh1:Vals vs us) (nY:Q vs H')
def AP(X:Cx)(pins:List (Addr×Obj))(σ:St)(Q:List V->Hp->Prop)(us:List Value)(s':Shared):Prop:=IAP X pins σ Q us s'
def SP(X:Cx)(pins:List (Addr×Obj))(D:Ends)(f:Flow)(s':Shared):Prop:=
 match f with
 | .next=>∃σ' H',Inv X pins σ' H' s'/\D.nx σ' H'
 | .brk=>∃σ' H',Inv X pins σ' H' s'/\D.bk σ' H'
 | .cont=>∃σ' H',Inv X pins σ' H' s'/\D.ct σ' H'
 | .ret u=>∃v σ' H',Inv X pins σ' H' s'/\RelV v u/\D.rt v H'
def PE(X:Cx)(e:Expr)(t:TE):Prop:=
 ∀(pins:List (Addr×Obj)) (s:Shared) (σ:St) (H:Hp) (Q:VK),Inv X pins σ H s->t σ H Q->wpAny (model X.prog X.w) X.A (eval e X.env) (EP X pins σ Q) X.xe s
def PT(X:Cx)(e:Expr)(t:TT):Prop:=
 ∀(pins:List (Addr×Obj)) (s:Shared) (σ:St) (H:Hp) (Q:Bool->Hp->Prop),Inv X pins σ H s->t σ H Q->wpAny (model X.prog X.w) X.A (isTrue e X.env (eval e X.env)) (TP X pins σ Q) X.xe s
def PW(X:Cx)(e:Expr)(t:TT):Prop:=
 ∀(whole:Sem Value) (pins:List (Addr×Obj)) (s:Shared) (σ:St) (H:Hp) (Q:Bool->Hp->Prop),Inv X pins σ H s->t σ H Q->wpAny (model X.prog X.w) X.A (isTrue e X.env whole) (TP X pins σ Q) X.xe s
theorem PW.pt{X:Cx}{e:Expr}{t:TT}(h:PW X e t):PT X e t:=h _
def PA(X:Cx)(es:List Expr)(t:TA):Prop:=
 ∀(pos:Pos) (pins:List (Addr×Obj)) (s:Shared) (σ:St) (H:Hp) (Q:List V->Hp->Prop),Inv X pins σ H s->t σ H Q->wpAny (model X.prog X.w) X.A (spliced (backTo pos (starEach es X.env))) (AP X pins σ Q) X.xe s
def PS(X:Cx)(st:Stmt)(t:TS):Prop:=
 ∀(pins:List (Addr×Obj)) (s:Shared) (σ:St) (H:Hp) (D:Ends),Inv X pins σ H s->t D σ H->wpAny (model X.prog X.w) X.A (exec st X.env) (SP X pins D) X.xe s
def Zo(X:Cx)(st:List Stmt)(t:TS):Prop:=
 ∀(pins:List (Addr×Obj)) (s:Shared) (σ:St) (H:Hp) (D:Ends),Inv X pins σ H s->t D σ H->wpAny (model X.prog X.w) X.A (execs st X.env) (SP X pins D) X.xe s
theorem jk{α:Type}{t:Sem α}{Q Q':α->Shared->Prop}{M:Model}{A:Around}{E:Value->Shared->Prop}{s:Shared}(h:wpAny M A t Q E s)(hQ:∀a s,Q a s->Q' a s):wpAny M A t Q' E s:=qF h hQ fun _ _ x=>x
section
variable{X:Cx}
theorem bin{a b:Expr}{ta tb:TE}(ha:PE X a ta)(hb:PE X b tb){pins:List (Addr×Obj)}{s:Shared}{σ:St}{H:Hp}{R:V->V->Hp->Prop}(I:Inv X pins σ H s)(h:ta σ H fun x H1=>tb σ H1 fun y H2=>R x y H2)
  {α:Type}{Q:α->Shared->Prop}{f:Value->Value->Sem α}
  (hf:∀v u s2 x y H2,Inv X pins σ H2 s2->RelV x v->RelV y u->R x y H2->wpAny (model X.prog X.w) X.A (f v u) Q X.xe s2):
  wpAny (model X.prog X.w) X.A (eval a X.env) (fun v s₁=>wpAny (model X.prog X.w) X.A (eval b X.env) (fun u s₂=>wpAny (model X.prog X.w) X.A (f v u) Q X.xe s₂) X.xe s₁) X.xe s:=by
 refine jk (ha pins s σ H _ I h) fun v s1 ⟨x,H1,I1,r1,q1⟩=>?_
 refine jk (hb pins s1 σ H1 _ I1 q1) fun u s2 ⟨y,H2,I2,r2,q2⟩=>?_
 exact hf v u s2 x y H2 I2 r1 r2 q2
inductive af_(i:Nat)(σ:St)(H:Hp)(Q:VK):Prop
 |mk (v:_) (lq:σ[i]? =some (some v)) (hh1:Q v H)
def vd(i:Nat):TE:=fun σ H Q=>af_ i σ H Q
def tC(v:V):TE:=fun _ H Q=>Q v H
theorem ab1{i:Nat}{x:Str}{pos:Pos}(hN:X.N[i]? =some x)(hv:Vis X.env.scope x)(hd:(x==("__debug__":Str))=false:=by decide)(hcd:(x==("__classdict__":Str))=false:=by decide):PE X (.Name x pos) (vd i):=by
 intro pins s σ H Q I h
 obtain⟨v,e,h⟩:=h
 obtain⟨m,hn,hl⟩:=I.loc
 obtain⟨u,r,l⟩:=hl i x v hN e hv
 have fin:EP X pins σ Q u s:=⟨v,H,I,r,h⟩
 rcases l with⟨hk,hm⟩|⟨hk,c,hc,hcell⟩
 .exact wpAny_Name (wpAny_loadName_local I.ok.kind hk hn hm fin) hd
 .rcases hk with hk|hk
  .exact wpAny_Name (wpAny_loadName_cell I.ok.kind hk hc hcell fin) hd
  .exact wpAny_Name (wpAny_loadName_free I.ok.kind hk hc hcell fin hcd) hd
theorem aB{i j pos}:PE X (.Constant (.int i) j pos) (tC (.int i)):=fun _ _ _ H _ I h=>wpAny_Constant_int ⟨.int i,H,I.tok _,⟨_,rfl⟩,h⟩
theorem NB{b j pos}:PE X (.Constant (.bool b) j pos) (tC (.bl b)):=fun _ _ _ H _ I h=>Constant_bool ⟨.bl b,H,I,rfl,h⟩
theorem Xy{j pos}:PE X (.Constant .none j pos) (tC .non):=fun _ _ _ H _ I h=>Constant_none ⟨.non,H,I,rfl,h⟩
def Gl(X:Cx)(x:Str):Prop:=X.env.kindOf x=some .globalImplicit
theorem Hx{E:Value->Shared->Prop}{pins:List (Addr×Obj)}{s:Shared}{σ:St}{H:Hp}{x:Str}{u:Value}{pos:Pos}{Q:Value->Shared->Prop}(I:Inv X pins σ H s)(hg:Gl X x)(hm:X.mg x=some u)(h:Q u s)
  (hd:(x==("__debug__":Str))=false:=by decide):wpAny (model X.prog X.w) X.A (eval (.Name x pos) X.env) Q E s:=
 Calls.Name_function_global I.ok.kind hg (Calls.loadGlobal_global (by rw[I.ok.glob];exact I.mod.glob.keeps I.bk) hm h) hd
theorem Sh{E:Value->Shared->Prop}{pins:List (Addr×Obj)}{s:Shared}{σ:St}{H:Hp}{x:Str}{u:Value}{pos:Pos}{Q:Value->Shared->Prop}(I:Inv X pins σ H s)(hg:Gl X x)(hm:X.mg x=none)(hv:bootBuiltins x=some u)(h:Q u s)
  (hn:x≠"__name__":=by decide)(hd:(x==("__debug__":Str))=false:=by decide):wpAny (model X.prog X.w) X.A (eval (.Name x pos) X.env) Q E s:=by
 obtain⟨mb,h1,h2⟩:=I.mod.blt
 exact Calls.Name_function_global I.ok.kind hg (Calls.loadGlobal_builtin (by rw[I.ok.glob];exact I.mod.glob.keeps I.bk) hm (by rw[I.ok.blt];exact h1.keeps I.bk) ((h2 x hn).trans hv) h) hd
theorem Lj{x:Str}{v:V}{u:Value}{pos:Pos}(hg:Gl X x)(hm:X.mg x=some u)(r:RelV v u)(hd:(x==("__debug__":Str))=false:=by decide):PE X (.Name x pos) (tC v):=
 fun _ _ _ H _ I h=>Hx I hg hm ⟨v,H,I,r,h⟩ hd
variable{a b:Expr}{ta tb:TE}{pos:Pos}
def PC(X:Cx)(op:CmpOp)(a b:Expr)(t:TE):Prop:=
 ∀(pins:List (Addr×Obj)) (s:Shared) (σ:St) (H:Hp) (Q:VK),Inv X pins σ H s->t σ H Q->
  wpAny (model X.prog X.w) X.A (eval a X.env) (fun v s₁=>wpAny (model X.prog X.w) X.A (eval b X.env) (fun u s₂=>wpAny (model X.prog X.w) X.A (compareOp op v u) (EP X pins σ Q) X.xe s₂) X.xe s₁) X.xe s
theorem abN(b:Expr){op:CmpOp}(h:op≠ .In)(h2:op≠ .NotIn):behindInMarks op b=false:=by
 have e1:(op==CmpOp.In)=false:=by cases op<;>first|rfl|exact absurd rfl h
 have e2:(op==CmpOp.NotIn)=false:=by cases op<;>first|rfl|exact absurd rfl h2
 cases b<;>simp[behindInMarks,e1,e2]
inductive ItB(Q:Bool->Hp->Prop)(x:V)(H1:Hp):Prop
 |mk (c:_) (lq:x= .bl c) (hh1:Q c H1)
def tB(t:TE):TT:=fun σ H Q=>t σ H fun x H1=>ItB Q x H1
theorem N6{op:CmpOp}{t:TE}(h:PC X op a b t)(h1:behindInMarks op b=false:=by first|exact abN _ (by decide) (by decide)|rfl):PT X (.Compare a [op] [b] pos) (tB t):=by
 intro pins s σ H Q I hw
 refine wpAny_isTrue_Compare1 (jk (h pins s σ H _ I hw) fun v s1 h1=>jk h1 fun u s2 h2=>jk h2 fun c s3 ⟨x,H1,I1,r1,q1⟩=>?_) h1
 obtain⟨d,rfl,q⟩:=q1
 cases r1
 exact wpAny_truthy_bool ⟨H1,I1,q⟩
theorem vY{e:Expr}{t:TE}(h:PE X e t)(he:∀whole,isTrue e X.env whole=(do let v<-whole;standAt e.pos;holding [v] (truthy v)):=by intro _;rfl):PT X e (tB t):=by
 intro pins s σ H Q I hw
 refine isTrue_plain (jk (h pins s σ H _ I hw) fun v s1 ⟨x,H1,I1,r1,q1⟩=>?_) (he _)
 obtain⟨d,rfl,q⟩:=q1
 cases r1
 exact wpAny_truthy_bool ⟨H1,I1,q⟩
variable{tA tB':TT}{rest:List Expr}
def aoX(t u:TT):TT:=fun σ H Q=>t σ H fun c H1=>if c=true then u σ H1 Q else Q false H1
def tOr(t u:TT):TT:=fun σ H Q=>t σ H fun c H1=>if c=true then Q true H1 else u σ H1 Q
def ao1(t:TT):TT:=fun σ H Q=>t σ H fun c H1=>Q (!c) H1
theorem Ie(ha:PT X a tA):PW X (.BoolOp .And [a] pos) tA:=by
 intro wh pins s σ H Q I h
 refine isTrue_and (jk (ha pins s σ H Q I h) fun c s1 e=>?_)
 cases c with
 |true=>exact isTrue_and_nil e
 |false=>exact e
theorem Fy(ha:PT X a tA):PW X (.BoolOp .Or [a] pos) tA:=by
 intro wh pins s σ H Q I h
 refine isTrue_or (jk (ha pins s σ H Q I h) fun c s1 e=>?_)
 cases c with
 |false=>exact isTrue_or_nil e
 |true=>exact e
theorem N8(ha:PT X a tA)(hb:PW X (.BoolOp .And (b::rest) pos) tB'):PW X (.BoolOp .And (a::b::rest) pos) (aoX tA tB'):=by
 intro wh pins s σ H Q I h
 refine isTrue_and (jk (ha pins s σ H _ I h) fun c s1 ⟨H1,I1,q1⟩=>?_)
 cases c with
 |true=>exact hb wh pins s1 σ H1 Q I1 q1
 |false=>exact⟨H1,I1,q1⟩
theorem Ig(ha:PT X a tA)(hb:PW X (.BoolOp .Or (b::rest) pos) tB'):PW X (.BoolOp .Or (a::b::rest) pos) (tOr tA tB'):=by
 intro wh pins s σ H Q I h
 refine isTrue_or (jk (ha pins s σ H _ I h) fun c s1 ⟨H1,I1,q1⟩=>?_)
 cases c with
 |true=>exact⟨H1,I1,q1⟩
 |false=>exact hb wh pins s1 σ H1 Q I1 q1
theorem yp(ha:PT X a tA):PT X (.UnaryOp .Not a pos) (ao1 tA):=by
 intro pins s σ H Q I h
 exact isTrue_not (ha pins s σ H (fun c H1=>Q (!c) H1) I h)
def agQ(ta tb:TE):TE:=fun σ H Q=>ta σ H fun x H1=>∃c,x= .bl c/\if c=true then tb σ H1 Q else Q (.bl false) H1
theorem NP{op}{t:TE}(h:PE X a t):PE X (.BoolOp op [a] pos) t:=fun pins s σ H Q I hw=>BoolOp_one (h pins s σ H Q I hw)
theorem Nz(ha:PE X a ta)(hb:PE X (.BoolOp .And (b::rest) pos) tb):PE X (.BoolOp .And (a::b::rest) pos) (agQ ta tb):=by
 intro pins s σ H Q I h
 refine BoolOp_and (jk (ha pins s σ H _ I h) fun v s1 ⟨x,H1,I1,r1,q1⟩=>?_)
 obtain⟨c,rfl,q1⟩:=q1
 cases r1
 refine wpAny_truthy_bool ?_
 cases c with
 |true=>exact hb pins s1 σ H1 Q I1 q1
 |false=>exact⟨.bl false,H1,I1,rfl,q1⟩
def tIf(t:TT)(ta tb:TE):TE:=fun σ H Q=>t σ H fun c H1=>if c=true then ta σ H1 Q else tb σ H1 Q
theorem VD{c:Expr}(hc:PT X c tA)(ha:PE X a ta)(hb:PE X b tb):PE X (.IfExp c a b pos) (tIf tA ta tb):=by
 intro pins s σ H Q I h
 refine wpAny_IfExp (jk (hc pins s σ H _ I h) fun d s1 ⟨H1,I1,q1⟩=>?_)
 cases d with
 |true=>exact ha pins s1 σ H1 Q I1 q1
 |false=>exact hb pins s1 σ H1 Q I1 q1
end
def bN(K:bw)(H:Hp)(a:Addr)(xs:List V):Prop:=
 Rd H a (.lst xs)\/
  ∃(o:Obj) (its:Array Value) (n:Nat),K.lookup a=some o/\o.cls= .type "list"/\o.dict=none/\o.data= .seq its n/\its.size<=dM/\Vals xs its.toList
def eV(K:bw)(H:Hp)(a:Addr)(xs:List V):Prop:=
 Rd H a (.tup xs)\/
  ∃(o:Obj) (its:Array Value) (n:Nat),K.lookup a=some o/\o.cls= .type "tuple"/\o.data= .seq its n/\its.size<=dM/\Vals xs its.toList
def ag3:Value->Option V
 | .none=>some .non
 | .bool b=>some (.bl b)
 | .int i _=>some (.int i)
 | .str x _=>some (.str x)
 | .bytes b _=>some (.Wf b)
 | .float b _=>some (.flt b)
 | .ref a=>some (.ref a)
 | .type n=>some (.ty n)
 |_=>none
theorem RelV.abs{x:V}{u:Value}(r:RelV x u):ag3 u=some x:=by
 cases x with
 |non=>cases r;rfl
 |bl _=>cases r;rfl
 |int _=>obtain⟨t,rfl⟩:=r;rfl
 |str _=>obtain⟨t,rfl⟩:=r;rfl
 |Wf _=>obtain⟨t,rfl⟩:=r;rfl
 |flt _=>obtain⟨t,rfl⟩:=r;rfl
 |ref _=>cases r;rfl
 |ty _=>cases r;rfl
theorem RelV.inj{x y:V}{u:Value}(r:RelV x u)(q:RelV y u):x=y:=dJ (r.abs.symm.trans q.abs)
theorem Vals.inj:∀{xs ys:List V} {us:List Value},Vals xs us->Vals ys us->xs=ys
 |_,_,_,.nil,.nil=>rfl
 |_,_,_,.cons r t,.cons r' t'=>by rw[r.inj r',Vals.inj t t']
section
variable{X:Cx}{pins:List (Addr×Obj)}{σ:St}{H:Hp}{s:Shared}{a:Addr}{xs ys:List V}
theorem bN.of{K:bw}(h:H a=some (.lst xs)):bN K H a xs:= .inl (.inl h)
theorem eV.of{K:bw}(h:H a=some (.tup xs)):eV K H a xs:= .inl (.inl h)
theorem Inv.list(I:Inv X pins σ H s)(h:bN X.K H a xs):∃its:List Value,Vals xs its/\PlainL s.heap a its.toArray/\xs.length<=dM:=by
 rcases h with h|⟨o,its,n,hk,hc,hd,hs,hz,r⟩
 .obtain⟨z,its,n,r,e⟩:=h.ok I.hok
  exact⟨its,r,⟨_,n,e,rfl,rfl,rfl⟩,z⟩
 .refine⟨its.toList,r,⟨o,n,I.R7 a o hk,hc,hd,by simpa using hs⟩,?_⟩
  have e:=r.length
  simp only[Array.length_toList] at e
  omega
theorem Inv.tuple(I:Inv X pins σ H s)(h:eV X.K H a xs):∃its:List Value,Vals xs its/\IsTup s.heap a its.toArray/\xs.length<=dM:=by
 rcases h with h|⟨o,its,n,hk,hc,hs,hz,r⟩
 .obtain⟨z,its,r,p⟩:=h.ok I.hok
  exact⟨its,r,p,z⟩
 .refine⟨its.toList,r,⟨o,I.R7 a o hk,hc,n,by simpa using hs⟩,?_⟩
  have e:=r.length
  simp only[Array.length_toList] at e
  omega
theorem Inv.MT(I:Inv X pins σ H s)(h:bN X.K H a xs)(h':bN X.K H a ys):xs=ys:=by
 obtain⟨its,r,⟨o,n,e,_,_,d⟩,_⟩:=I.list h
 obtain⟨its',r',⟨o',n',e',_,_,d'⟩,_⟩:=I.list h'
 rw[e] at e';cases e'
 rw[d] at d'
 injection d' with d1 _
 have:its=its':=by simpa using congrArg Array.toList d1
 subst this
 exact r.inj r'
end
section
variable{X:Cx}{st:Stmt}{rest:List Stmt}{t u:TS}{e:Expr}{te:TE}{pos:Pos}
def V9:TS:=fun D σ H=>D.nx σ H
def aav(t u:TS):TS:=fun D σ H=>t {D with nx:=u D} σ H
theorem bF:Zo X [] V9:=fun _ _ σ H _ I h=>wpAny_execs_nil ⟨σ,H,I,h⟩
theorem ak(h1:PS X st t)(h2:Zo X rest u):Zo X (st::rest) (aav t u):=by
 intro pins s σ H D I h
 refine wpAny_execs_cons (jk (h1 pins s σ H {D with nx:=u D} I h) fun f s1 q=>?_)
 cases f with
 |next=>
  obtain⟨σ',H',I',q⟩:=q
  exact h2 pins s1 σ' H' D I' q
 |ret v=>exact q
 |brk=>exact q
 |cont=>exact q
theorem au(h1:PS X st t):Zo X [st] t:=by
 intro pins s σ H D I h
 refine wpAny_execs_cons (jk (h1 pins s σ H D I h) fun f s1 q=>?_)
 cases f with
 |next=>exact wpAny_execs_nil q
 |ret v=>exact q
 |brk=>exact q
 |cont=>exact q
theorem Inv.quiet{pins:List (Addr×Obj)}{σ:St}{H:Hp}{s:Shared}(I:Inv X pins σ H s):interactive X.env=false:=by simp[interactive,I.ok.kind]
def aeo(te:TE):TS:=fun D σ H=>te σ H fun _ H1=>D.nx σ H1
theorem cZ(he:PE X e te)(hs:swapsWith e none pos.line X.env=pure false:=by rfl):PS X (.Expr e pos) (aeo te):=by
 intro pins s σ H D I h
 exact wpAny_Expr_any (jk (he pins s σ H _ I h) fun v s1 ⟨x,H1,I1,r1,q1⟩=>⟨σ,H1,I1,q1⟩) I.quiet hs
def ad_(te:TE):TS:=fun D σ H=>te σ H D.rt
theorem aL(he:PE X e te):PS X (.Return (some e) pos) (ad_ te):=by
 intro pins s σ H D I h
 exact wpAny_Return_some (jk (he pins s σ H _ I h) fun v s1 ⟨x,H1,I1,r1,q1⟩=>⟨x,σ,H1,I1,r1,q1⟩)
def ad8(c:TT)(t u:TS):TS:=fun D σ H=>c σ H fun b H1=>if b=true then t D σ H1 else u D σ H1
theorem cJ{c:Expr}{a b:List Stmt}{tc:TT}(hc:PT X c tc)(ha:Zo X a t)(hb:Zo X b u):PS X (.If c a b pos) (ad8 tc t u):=by
 intro pins s σ H D I h
 refine wpAny_If (jk (hc pins s σ H _ I h) fun d s1 ⟨H1,I1,q1⟩=>?_)
 cases d with
 |true=>exact ha pins s1 σ H1 D I1 q1
 |false=>exact hb pins s1 σ H1 D I1 q1
end
abbrev TG:=V->St->Hp->(St->Hp->Prop)->Prop
abbrev TGs:=List V->St->Hp->(St->Hp->Prop)->Prop
def PG(X:Cx)(target:Expr)(t:TG):Prop:=
 ∀(pins:List (Addr×Obj)) (s:Shared) (σ:St) (H:Hp) (v:V) (u:Value) (Q:St->Hp->Prop),Inv X pins σ H s->RelV v u->t v σ H Q->
  wpAny (model X.prog X.w) X.A (assign target X.env u) (fun _ s'=>∃σ' H',Inv X pins σ' H' s'/\Q σ' H') X.xe s
def PGs(X:Cx)(ts:List Expr)(t:TGs):Prop:=
 ∀(pins:List (Addr×Obj)) (s:Shared) (σ:St) (H:Hp) (vs:List V) (us:List Value) (Q:St->Hp->Prop),Inv X pins σ H s->Vals vs us->t vs σ H Q->
  wpAny (model X.prog X.w) X.A (assignInOrder ((assignEach ts X.env).map (·.2)) us) (fun _ s'=>∃σ' H',Inv X pins σ' H' s'/\Q σ' H') X.xe s
abbrev aeB:=V->V->V->Hp->(Hp->Prop)->Prop
def aga(X:Cx)(t:aeB):Prop:=
 ∀(pins:List (Addr×Obj)) (s:Shared) (σ:St) (H:Hp) (o i v:V) (ov iv u:Value) (Q:Hp->Prop),Inv X pins σ H s->RelV o ov->RelV i iv->RelV v u->t o i v H Q->
  wpAny (model X.prog X.w) X.A (setItem ov iv u) (fun _ s'=>∃H',Inv X pins σ H' s'/\Q H') X.xe s
abbrev TIp:=V->V->Hp->VK->Prop
def PIp(X:Cx)(op:Operator)(t:TIp):Prop:=
 ∀(pins:List (Addr×Obj)) (s:Shared) (σ:St) (H:Hp) (x y:V) (v u:Value) (Q:VK),Inv X pins σ H s->RelV x v->RelV y u->t x y H Q->
  wpAny (model X.prog X.w) X.A (inplaceOp op v u) (EP X pins σ Q) X.xe s
section
variable{X:Cx}{pos:Pos}
def QX(i:Nat):TG:=fun v σ H Q=>Q (σ.set i (some v)) H
theorem gH{i:Nat}{x:Str}(hN:X.N.Nodup)(hi:X.N[i]? =some x)(hx:Loc X.env.scope x)(hf:X.fn x=true\/X.env.scope.names.lookup x=some .local:=by first|exact .inl rfl|exact .inr rfl|assumption):PG X (.Name x pos) (QX i):=by
 intro pins s σ H v u Q I r h
 exact wpAny_assign_Name (O2 I hN hi hx r (fun s' I'=>⟨_,H,I',h⟩) hf)
def aod:TGs:=fun vs σ H Q=>vs=[]/\Q σ H
def agh(t:TG)(u:TGs):TGs:=fun vs σ H Q=>∃v r,vs=v::r/\t v σ H fun σ' H'=>u r σ' H' Q
theorem adL:PGs X [] aod:=by
 intro pins s σ H vs us Q I r h
 obtain⟨e,h⟩:=h
 subst e
 cases r
 exact assignInOrder_nil ⟨σ,H,I,h⟩
theorem VG{e:Expr}{es:List Expr}{t:TG}{u:TGs}(h1:PG X e t)(h2:PGs X es u)
  (hs:(assignEach (e::es) X.env).map (·.2)=assign e X.env::(assignEach es X.env).map (·.2):=by rfl):PGs X (e::es) (agh t u):=by
 intro pins s σ H vs us Q I r h
 obtain⟨v,vr,e1,h⟩:=h
 subst e1
 cases r with
 |cons r rr=>
  rw[hs]
  refine assignInOrder_cons (jk (h1 pins s σ H _ _ _ I r h) fun _ s1 ⟨σ1,H1,I1,q1⟩=>?_)
  exact h2 pins s1 σ1 H1 _ _ Q I1 rr q1
def aoe(K:bw)(n:Nat)(t:TGs):TG:=fun v σ H Q=>∃a xs,v= .ref a/\eV K H a xs/\xs.length=n/\t xs σ H Q
theorem afo{es:List Expr}{k:Nat}{t:TGs}{n:Nat}(hc:X.calm=true)(h:PGs X es t)
  (hn:(assignEach es X.env).length=n:=by rfl)(hst:(assignEach es X.env).findIdx? (·.1)=none:=by rfl):PG X (.Tuple es k pos) (aoe X.K n t):=by
 intro pins s σ H v u Q I r hw
 obtain⟨a,xs,e1,hq,hl,hw⟩:=hw
 subst e1
 cases r
 obtain⟨its,rv,ht,hz⟩:=I.tuple hq
 refine assign_Tuple_tuple (I.ok.hd hc) ht (by simp[hn,<-hl,rv.length]) hst fun h' hx=>?_
 have I1:Inv X pins σ H {s with heap:=h'}:=I.kept (t':=s.toks) fun b o e=>hx b o (rR (jZ e)) e
 exact h pins _ σ H xs _ Q I1 (by simpa using rv) hw
def afP(te:TE)(g:TG):TS:=fun D σ H=>te σ H fun x H1=>g x σ H1 D.nx
theorem aK{i:Nat}{x:Str}{e:Expr}{te:TE}{pos':Pos}(hN:X.N.Nodup)(hi:X.N[i]? =some x)(hx:Loc X.env.scope x)(he:PE X e te)(hs:swapsWith e (some (.Name x pos')) pos.line X.env=pure false:=by rfl)(hf:X.fn x=true\/X.env.scope.names.lookup x=some .local:=by first|exact .inl rfl|exact .inr rfl|assumption):
  PS X (.Assign [.Name x pos'] e pos) (afP te (QX i)):=by
 intro pins s σ H D I h
 refine wpAny_Assign_Name (jk (he pins s σ H _ I h) fun v s1 ⟨y,H1,I1,r1,q1⟩=>?_) hs
 exact O2 I1 hN hi hx r1 (fun s2 I2=>⟨_,H1,I2,q1⟩) hf
def aoY(i:Nat)(te:TE)(ti:TIp):TS:=fun D σ H=>∃x,σ[i]? =some (some x)/\te σ H fun y H1=>ti x y H1 fun z H2=>D.nx (σ.set i (some z)) H2
theorem XC{i:Nat}{x:Str}{e:Expr}{te:TE}{op:Operator}{ti:TIp}{pos':Pos}(hN:X.N.Nodup)(hi:X.N[i]? =some x)(hx:Loc X.env.scope x)(he:PE X e te)(ho:PIp X op ti)(hf:X.fn x=true\/X.env.scope.names.lookup x=some .local:=by first|exact .inl rfl|exact .inr rfl|assumption):
  PS X (.AugAssign (.Name x pos') op e pos) (aoY i te ti):=by
 intro pins s σ H D I h
 obtain⟨v,e1,h⟩:=h
 obtain⟨m,hn,hl⟩:=I.loc
 have vis:Vis X.env.scope x:=by rcases hx with k|k;exact .inl k;exact .inr (.inl k)
 obtain⟨u,r,l⟩:=hl i x v hi e1 vis
 refine wpAny_AugAssign_Name ?_
 have go:wpAny (model X.prog X.w) X.A (eval e X.env) (fun w s₂=>wpAny (model X.prog X.w) X.A (inplaceOp op u w) (fun r s₃=>wpAny (model X.prog X.w) X.A (storeName X.env x r) (fun _=>SP X pins D .next) X.xe s₃) X.xe s₂) X.xe s:=by
  refine jk (he pins s σ H _ I h) fun w s1 ⟨y,H1,I1,r1,q1⟩=>?_
  refine jk (ho pins s1 σ H1 v y u w _ I1 r r1 q1) fun z s2 ⟨zv,H2,I2,r2,q2⟩=>?_
  exact O2 I2 hN hi hx r2 (fun s3 I3=>⟨_,H2,I3,q2⟩) hf
 rcases l with⟨hk,hm⟩|⟨hk,c,hc,hcell⟩
 .exact wpAny_loadName_local I.ok.kind hk hn hm go
 .rcases hk with hk|hk
  .exact wpAny_loadName_cell I.ok.kind hk hc hcell go
  .rcases hx with k|k
   .have:X.env.scope.names.lookup x=some .free:=hk
    rw[k] at this;cases this
   .have:X.env.scope.names.lookup x=some .free:=hk
    rw[k] at this;cases this
def agR(to ti te:TE)(aeb:V->V->Hp->VK->Prop)(tip:TIp)(aed:aeB):TS:=fun D σ H=>to σ H fun o H1=>ti σ H1 fun i H2=>aeb o i H2 fun x H3=>te σ H3 fun y H4=>tip x y H4 fun z H5=>aed o i z H5 fun H6=>D.nx σ H6
def af'(X:Cx)(t:V->V->Hp->VK->Prop):Prop:=
 ∀(pins:List (Addr×Obj)) (s:Shared) (σ:St) (H:Hp) (o i:V) (ov iv:Value) (Q:VK),Inv X pins σ H s->RelV o ov->RelV i iv->t o i H Q->
  wpAny (model X.prog X.w) X.A (getItem ov iv) (EP X pins σ Q) X.xe s
theorem adN{o i e:Expr}{to ti te:TE}{aeb:V->V->Hp->VK->Prop}{tip:TIp}{aed:aeB}{op:Operator}{tpos:Pos}(ho:PE X o to)(hi:PE X i ti)(hg:af' X aeb)(he:PE X e te)(hp:PIp X op tip)(hs:aga X aed)
  (ha:∀ov iv new,augStore i ov iv new=(do holding [new,ov,iv] (setItem ov iv new);release [new,ov,iv] [];pure .next):=by intros;rfl):PS X (.AugAssign (.Subscript o i tpos) op e pos) (agR to ti te aeb tip aed):=by
 intro pins s σ H D I h
 refine wpAny_AugAssign_SubscriptAny (jk (ho pins s σ H _ I h) fun ov s1 ⟨x1,H1,I1,r1,q1⟩=>?_) ha
 refine jk (hi pins s1 σ H1 _ I1 q1) fun iv s2 ⟨x2,H2,I2,r2,q2⟩=>?_
 refine jk (hg pins s2 σ H2 x1 x2 ov iv _ I2 r1 r2 q2) fun old s3 ⟨x3,H3,I3,r3,q3⟩=>?_
 refine jk (he pins s3 σ H3 _ I3 q3) fun v s4 ⟨x4,H4,I4,r4,q4⟩=>?_
 refine jk (hp pins s4 σ H4 x3 x4 old v _ I4 r3 r4 q4) fun new s5 ⟨x5,H5,I5,r5,q5⟩=>?_
 exact jk (hs pins s5 σ H5 x1 x2 x5 ov iv new _ I5 r1 r2 r5 q5) fun _ s6 ⟨H6,I6,q6⟩=>⟨σ,H6,I6,q6⟩
def ipI(f:Int->Int->Int):TIp:=fun x y H Q=>∃i j,x= .int i/\y= .int j/\Q (.int (f i j)) H
theorem abB:PIp X .Add (ipI fun i j=>i+j):=by
 intro pins s σ H x y v u Q I r1 r2 h
 obtain⟨i,j,e1,e2,q⟩:=h
 subst e1;subst e2
 obtain⟨t,rfl⟩:=r1
 obtain⟨t',rfl⟩:=r2
 exact iadd_int ⟨.int _,H,I.tok _,⟨_,rfl⟩,q⟩
theorem abC:PIp X .Sub (ipI fun i j=>i-j):=by
 intro pins s σ H x y v u Q I r1 r2 h
 obtain⟨i,j,e1,e2,q⟩:=h
 subst e1;subst e2
 obtain⟨t,rfl⟩:=r1
 obtain⟨t',rfl⟩:=r2
 exact isub_int ⟨.int _,H,I.tok _,⟨_,rfl⟩,q⟩
def acA(c:TT)(tb:TS):TS:=fun D σ H=>∃W:Nat->St->Hp->Prop,(∃m,W m σ H)/\∀m σ H,W m σ H->
 c σ H fun b H1=>if b=true then ∃N:St->Hp->Prop,(∀σ' H',N σ' H'->∃m',m'<m/\W m' σ' H')/\tb {D with nx:=N,ct:=N,bk:=D.nx} σ H1 else D.nx σ H1
theorem pN{c:Expr}{body:List Stmt}{tc:TT}{tb:TS}(hp:PassesOwn (model X.prog X.w) X.A X.env X.xe)(hc:PT X c tc)(hb:Zo X body tb):PS X (.While c body [] pos) (acA tc tb):=by
 intro pins s σ H D I h
 obtain⟨W,⟨m0,w0⟩,turn⟩:=h
 refine wpAny_While (codeAny_whileLoop (fun n s'=>∃σ' H',Inv X pins σ' H' s'/\W n σ' H') ?_ m0 ⟨σ,H,I,w0⟩)
 rintro n s1 ⟨σ1,H1,I1,w1⟩
 refine wpAny_passesOwn hp (jk (hc pins s1 σ1 H1 _ I1 (turn n σ1 H1 w1)) fun b s2 ⟨H2,I2,q2⟩=>?_)
 cases b with
 |true=>
  obtain⟨N,hN,q2⟩:=q2
  rw[if_pos rfl]
  refine wpAny_passesOwn hp (jk (hb pins s2 σ1 H2 _ I2 q2) fun f s3 q3=>?_)
  cases f with
  |next=>
   obtain⟨σ3,H3,I3,n3⟩:=q3
   obtain⟨m',hm,w3⟩:=hN σ3 H3 n3
   exact⟨m',hm,σ3,H3,I3,w3⟩
  |cont=>
   obtain⟨σ3,H3,I3,n3⟩:=q3
   obtain⟨m',hm,w3⟩:=hN σ3 H3 n3
   exact⟨m',hm,σ3,H3,I3,w3⟩
  |brk=>exact q3
  |ret v=>exact q3
 |false=>
  rw[if_neg iY]
  exact wpAny_execs_nil ⟨σ1,H2,I2,q2⟩
end
structure It where
 go:Nat->Hp->Prop
 yld:Nat->Hp->V->Hp->Prop
 stop:Nat->Hp->Prop
def Em(X:Cx)(pins:List (Addr×Obj))(H:Hp)(b:Addr):Prop:=
 H b=none/\b≠X.env.locals/\b∉X.fs/\(b∈X.ex\/X.Gz.heap.objs.size<=b)/\(∀x c,X.env.cells.lookup x=some c->c≠b)/\∀p∈X.pn++pins,p.1≠b
theorem Inv.abm{X:Cx}{pins:List (Addr×Obj)}{σ:St}{H H':Hp}{s:Shared}{b:Addr}(I:Inv X pins σ H s)(hb:s.heap.objs.size<=b)(hn:H' b=none):Em X pins H' b:=by
 refine⟨hn,Nat.ne_of_gt (wQ I.lt hb),I.aoC hb,.inr (mR I.sz hb),fun x c e z=>?_,fun p hp z=>?_⟩
 .obtain⟨v,q⟩:=I.cell x c e
  exact absurd (wQ q.lt (by rw[z];exact hb)) (RK _)
 .exact absurd (wQ (jZ (I.pin p hp).1) (by rw[z];exact hb)) (RK _)
structure Turn(P:Program)(w:World)(K:bw)(tg:Expr)(J:It)(fp:List Addr)(it:Addr)(tn:Nat->Heap->Prop):Prop where
 mem:it∈fp
 obj:∀i h,tn i h->∀b∈fp,∃o,h.get? b=some o/\∀v,o.data≠ .cell v
 keep:∀i h h',tn i h->(∀b∈fp,∀o,h.get? b=some o->h'.get? b=some o)->tn i h'
 item:∀(X:Cx),X.prog=P->X.w=w->X.K=K->X.calm=true->∀(i:Nat) (pins:List (Addr×Obj)) (s:Shared) (σ:St) (H:Hp) (E:Value->Shared->Prop),Inv X pins σ H s->(∀b∈fp,Em X pins H b)->tn i s.heap->J.go i H->
  wpAny (model P w) X.A (pyNext (.ref it)) (fun r s1=>∃u,r=some u/\
   wpAny (model P w) X.A (letOwnedTupleGo tg (.ref it) u) (fun _ s2=>∃x H',Inv X pins σ H' s2/\RelV x u/\J.yld i H x H'/\tn (i+1) s2.heap/\∀b∈fp,H' b=none) E s1) E s
 done:∀(X:Cx),X.prog=P->X.w=w->X.K=K->X.calm=true->∀(i:Nat) (pins:List (Addr×Obj)) (s:Shared) (σ:St) (H:Hp) (E:Value->Shared->Prop),Inv X pins σ H s->(∀b∈fp,Em X pins H b)->tn i s.heap->J.stop i H->
  wpAny (model P w) X.A (pyNext (.ref it)) (fun r s1=>r=none/\Inv X pins σ H s1) E s
 self:∀(A:Around) (i:Nat) (s:Shared) (Q:Value->Shared->Prop) (E:Value->Shared->Prop),tn i s.heap->Q (.ref it) s->wpAny (model P w) A (pyIter (.ref it)) Q E s
abbrev TI:=St->Hp->(It->Hp->Prop)->Prop
def PIE(X:Cx)(pins:List (Addr×Obj))(σ:St)(tg:Expr)(R:It->Hp->Prop)(itv:Value)(s2:Shared):Prop:=
 ∃(it:Addr) (fp:List Addr) (tn:Nat->Heap->Prop) (J:It) (H':Hp),itv= .ref it/\Inv X pins σ H' s2/\Turn X.prog X.w X.K tg J fp it tn/\tn 0 s2.heap/\(∀b∈fp,Em X pins H' b)/\R J H'
def PI(X:Cx)(tg iter:Expr)(wi:TI):Prop:=
 ∀(pins:List (Addr×Obj)) (s:Shared) (σ:St) (H:Hp) (R:It->Hp->Prop),Inv X pins σ H s->wi σ H R->
  wpAny (model X.prog X.w) X.A (eval iter X.env) (fun v s1=>wpAny (model X.prog X.w) X.A (pyIter v) (PIE X pins σ tg R) X.xe s1) X.xe s
theorem agi{M:Model}{A:Around}{E:Value->Shared->Prop}{s:Shared}{tg:Expr}{it:Addr}{u:Value}{o:Obj}{n:String}{vs:Array Value}{Q:Unit->Shared->Prop}(ho:s.heap.get? it=some o)(hc:o.cls= .type n)(hd:o.data= .fields vs)
  (hn:["enumerate","zip","dict_itemiterator","dict_reverseitemiterator","odict_iterator","itertools.zip_longest","itertools.pairwise"].contains n=false)(hQ:Q () s):wpAny M A (letOwnedTupleGo tg (.ref it) u) Q E s:=by
 unfold letOwnedTupleGo
 cases tg<;>first
  |exact bW hQ
  |(cases u<;>first
    |exact bW hQ
    |(refine aR (wpAny_load ho ?_)
      rw[hc,hd]
      show wpAny M A (if(["enumerate","zip","dict_itemiterator","dict_reverseitemiterator","odict_iterator","itertools.zip_longest","itertools.pairwise"].contains n&&vs[0]? ==some (rawInt _))=true then _ else _) Q E s
      rw[if_neg (by intro h;rw[hn,GF] at h;cases h)]
      exact bW hQ))
def Itl(K:bw)(a:Addr):It:=
 ⟨fun i H=>∃xs x,bN K H a xs/\xs[i]? =some x,fun i H x H'=>H'=H/\∀xs,bN K H a xs->xs[i]? =some x,fun i H=>∃xs,bN K H a xs/\xs.length<=i⟩
theorem aax{P:Program}{w:World}{K:bw}{tg:Expr}(a it:Addr):Turn P w K tg (Itl K a) [it] it (fun i h=>h.IsListIter it a i) where
 mem:=by simp
 obj:=fun i h st b hb=>by
  have e:b=it:=by simpa using hb
  subst e
  obtain⟨o,e,c,d⟩:=st
  exact⟨o,e,fun v z=>by rw[d] at z;cases z⟩
 keep:=fun i h h' st k=>st.at fun o e=>k it (by simp) o e
 item:=by
  intro X hP hw hK hc i pins s σ H E I hf st hg
  subst hP hw hK
  obtain⟨xs,x,hq,hx⟩:=hg
  obtain⟨its,rv,p,hz⟩:=I.list hq
  obtain⟨u,hu,ru⟩:=rv.get hx
  obtain⟨f0,f1,f2,f3,f4,f5⟩:=hf it (by simp)
  refine wpAny_pyNext_list_item st p.isList (x:=u) (by simpa using hu) fun h' st' sb=>?_
  have I1:Inv X pins σ H {s with heap:=h'}:=I.turned (t':=s.toks) (fun b o hb e=>(sb.2 b hb).trans e) f0 f1 f3 f4 f5
  obtain⟨o,e,c,d⟩:=id st'
  exact⟨u,rfl,agi (s:={s with heap:=h'}) e c d (by decide) ⟨x,H,I1,ru,⟨rfl,fun ys hy=>by rw[I.MT hy hq];exact hx⟩,st',fun b hb=>(hf b hb).1⟩⟩
 done:=by
  intro X hP hw hK hc i pins s σ H E I hf st hg
  subst hP hw hK
  obtain⟨xs,hq,hx⟩:=hg
  obtain⟨its,rv,p,hz⟩:=I.list hq
  obtain⟨f0,f1,f2,f3,f4,f5⟩:=hf it (by simp)
  have hl:=rv.length
  exact wpAny_pyNext_list_end (I.ok.hd hc) st p.isList (by simp;omega) fun h' eb=>⟨rfl,I.turned (t':=s.toks) (fun b o hb e=>eb b o hb e) f0 f1 f3 f4 f5⟩
 self:=fun _ _ _ _ _ st h=>wpAny_pyIter_listiter st h
section
variable{X:Cx}{tg:Expr}
def ags(K:bw)(tl:TE):TI:=fun σ H R=>tl σ H fun x H1=>∃a,x= .ref a/\(∃xs,bN K H1 a xs)/\R (Itl K a) H1
theorem iQ{l:Expr}{tl:TE}(hl:PE X l tl):PI X tg l (ags X.K tl):=by
 intro pins s σ H R I h
 refine jk (hl pins s σ H _ I h) fun v s1 ⟨x,H1,I1,r1,q1⟩=>?_
 obtain⟨a,e,⟨xs,hq⟩,q⟩:=q1
 subst e
 cases r1
 obtain⟨its,rv,p,hz⟩:=I1.list hq
 refine wpAny_pyIter_list p.isList ?_
 refine⟨s1.heap.objs.size,[s1.heap.objs.size],_,_,H1,rfl,I1.kept (t':=s1.toks) fun b o e=>jW _ e,aax a _,⟨_,uc _ rfl,rfl,rfl⟩,fun b hb=>?_,q⟩
 have e:b=s1.heap.objs.size:=by simpa using hb
 subst e
 exact I1.abm (cF _) (I1.hok.fresh (cF _))
def ao0(wi:TI)(g:TG)(tb:TS):TS:=fun D σ H=>wi σ H fun J H1=>∃W:Nat->Nat->St->Hp->Prop,(∃m,W 0 m σ H1)/\∀i m σ H,W i m σ H->
 (J.stop i H/\D.nx σ H)\/(J.go i H/\∃N:St->Hp->Prop,(∀σ' H',N σ' H'->∃m',m'<m/\W (i+1) m' σ' H')/\∀x H',J.yld i H x H'->g x σ H' fun σ2 H2=>tb {D with nx:=N,ct:=N,bk:=D.nx} σ2 H2)
def NT(fp:List Addr)(h:Heap):List (Addr×Obj):=fp.filterMap fun b=>(h.get? b).map fun o=>(b,o)
theorem Fv{fp:List Addr}{h:Heap}{b:Addr}{o:Obj}(hb:b∈fp)(e:h.get? b=some o):(b,o)∈NT fp h:=List.mem_filterMap.mpr ⟨b,hb,by rw[e];rfl⟩
theorem Z9{fp:List Addr}{h:Heap}{p:Addr×Obj}(hp:p∈NT fp h):p.1∈fp/\h.get? p.1=some p.2:=by
 obtain⟨b,hb,e⟩:=List.mem_filterMap.mp hp
 cases q:h.get? b with
 |none=>rw[q] at e;cases e
 |some o=>
  rw[q] at e
  have e':(b,o)=p:=dJ e
  subst e'
  exact⟨hb,q⟩
theorem Inv.pinned{pins:List (Addr×Obj)}{σ:St}{H:Hp}{s:Shared}{fp:List Addr}(I:Inv X pins σ H s)(hf:∀b∈fp,Em X pins H b)(ho:∀b∈fp,∃o,s.heap.get? b=some o/\∀v,o.data≠ .cell v):Inv X (pins++NT fp s.heap) σ H s:=
 I.H_ fun p hp=>(j9.mp hp).elim (fun z=>I.pin p (iD _ z)) fun z=>by
  obtain⟨hb,e⟩:=Z9 z
  obtain⟨f0,f1,f2,_⟩:=hf p.1 hb
  obtain⟨o,e',d⟩:=ho p.1 hb
  rw[e] at e';cases e'
  exact⟨e,f0,f1,f2,d⟩
theorem Inv.Ir{pins pl:List (Addr×Obj)}{σ:St}{H:Hp}{s:Shared}(I:Inv X (pins++pl) σ H s):Inv X pins σ H s:=I.H_ fun p hp=>I.pin p (iD _ (Bw _ hp))
theorem qZ{iter:Expr}{body:List Stmt}{wi:TI}{g:TG}{tb:TS}{pos:Pos}(hp:PassesOwn (model X.prog X.w) X.A X.env X.xe)(hc:X.calm=true)(hi:PI X tg iter wi)(hg:PG X tg g)(hb:Zo X body tb)
  (hs:∀x,foldedSetIterable iter X.env x=pure x:=by intro _;rfl):PS X (.For tg iter body [] pos) (ao0 wi g tb):=by
 intro pins s σ H D I h
 refine wpAny_For (jk (hi pins s σ H _ I h) fun v s1 h1=>jk h1 fun itv s2 h2=>?_) hs
 obtain⟨it,fp,tn,J,H2,e,I2,T,st2,f2,W,⟨m0,w0⟩,turn⟩:=h2
 subst e
 have stat:∀{H':Hp},(∀b∈fp,H' b=none)->∀b∈fp,Em X pins H' b:=fun hn b hb=>⟨hn b hb,(f2 b hb).2⟩
 refine codeAny_forLoop_any (fun n s'=>∃i σ' H',Inv X pins σ' H' s'/\tn i s'.heap/\(∀b∈fp,H' b=none)/\W i n σ' H') ?_ m0 ⟨0,σ,H2,I2,st2,fun b hb=>(f2 b hb).1,w0⟩
 rintro n s3 ⟨i,σ3,H3,I3,st3,fr3,w3⟩
 rcases turn i n σ3 H3 w3 with⟨stop,qn⟩|⟨go,N,hN,step⟩
 .refine wpAny_passesOwn hp (jk (T.done X rfl rfl rfl hc i pins s3 σ3 H3 X.xe I3 (stat fr3) st3 stop) fun r s4 ⟨hr,I4⟩=>?_)
  subst hr
  exact wpAny_execs_nil ⟨σ3,H3,I4,qn⟩
 .refine wpAny_passesOwn hp (jk (T.item X rfl rfl rfl hc i pins s3 σ3 H3 X.xe I3 (stat fr3) st3 go) fun r s4 ⟨u,hr,h4⟩=>?_)
  subst hr
  refine wpAny_passesOwn hp (jk h4 fun _ s5 ⟨x,H5,I5,r5,y5,st5,fr5⟩=>?_)
  have I5':=I5.pinned (stat fr5) (T.obj _ _ st5)
  refine wpAny_passesOwn hp (jk (hg _ s5 σ3 H5 x u _ I5' r5 (step x H5 y5)) fun _ s6 ⟨σ6,H6,I6,q6⟩=>?_)
  refine wpAny_passesOwn hp (jk (hb _ s6 σ6 H6 _ I6 q6) fun f s7 q7=>?_)
  have again:∀{σ7:St} {H7:Hp},Inv X (pins++NT fp s5.heap) σ7 H7 s7->N σ7 H7->∃m,m<n/\∃i σ' H',Inv X pins σ' H' s7/\tn i s7.heap/\(∀b∈fp,H' b=none)/\W i m σ' H':=fun{σ7 H7} I7 n7=>by
   obtain⟨m',hm,w7⟩:=hN σ7 H7 n7
   refine⟨m',hm,i+1,σ7,H7,I7.Ir,T.keep _ _ _ st5 fun b hb o e=>(I7.pin (b,o) (iD _ (iD _ (Fv hb e)))).1,fun b hb=>?_,w7⟩
   obtain⟨o,e,d⟩:=T.obj _ _ st5 b hb
   exact(I7.pin (b,o) (iD _ (iD _ (Fv hb e)))).2.1
  cases f with
  |next=>obtain⟨σ7,H7,I7,n7⟩:=q7;exact again I7 n7
  |cont=>obtain⟨σ7,H7,I7,n7⟩:=q7;exact again I7 n7
  |brk=>obtain⟨σ7,H7,I7,q7⟩:=q7;exact⟨σ7,H7,I7.Ir,q7⟩
  |ret v=>obtain⟨x7,σ7,H7,I7,r7,q7⟩:=q7;exact⟨x7,σ7,H7,I7.Ir,r7,q7⟩
end
theorem kZ{K:bw}{a:Addr}{xs:List V}{g:TG}{tb:TS}{D:Ends}{σ:St}{H:Hp}(Pv:Nat->St->Hp->Prop)(h0:Pv 0 σ H)(hl:∀i σ H,i<=xs.length->Pv i σ H->bN K H a xs)
  (hs:∀i x σ H,xs[i]? =some x->Pv i σ H->g x σ H fun σ2 H2=>tb {D with nx:=Pv (i+1),ct:=Pv (i+1),bk:=D.nx} σ2 H2)(hd:∀σ H,Pv xs.length σ H->D.nx σ H):
  ∃W:Nat->Nat->St->Hp->Prop,(∃m,W 0 m σ H)/\∀i m σ H,W i m σ H->
   ((Itl K a).stop i H/\D.nx σ H)\/((Itl K a).go i H/\∃N:St->Hp->Prop,(∀σ' H',N σ' H'->∃m',m'<m/\W (i+1) m' σ' H')/\∀x H',(Itl K a).yld i H x H'->g x σ H' fun σ2 H2=>tb {D with nx:=N,ct:=N,bk:=D.nx} σ2 H2):=by
 refine⟨fun i m σ H=>m=xs.length-i/\i<=xs.length/\Pv i σ H,⟨xs.length,by simp,j_ _,h0⟩,?_⟩
 rintro i m σ H ⟨rfl,hi,p⟩
 have q:=hl i σ H hi p
 by_cases hlt:i<xs.length
 .refine .inr ⟨⟨xs,xs[i],q,by simp[hlt]⟩,Pv (i+1),fun σ' H' p'=>⟨xs.length-(i+1),by omega,rfl,hlt,p'⟩,fun x H' y=>?_⟩
  obtain⟨e,y⟩:=y
  subst e
  exact hs i x σ _ (y xs q) p
 .have e:i=xs.length:=by omega
  subst e
  exact .inl ⟨⟨xs,q,cF _⟩,hd σ H p⟩
theorem pP{c:TT}{tb:TS}{D:Ends}{σ:St}{H:Hp}(Pv:St->Hp->Prop)(μ:St->Hp->Nat)(h0:Pv σ H)
  (hs:∀σ H,Pv σ H->c σ H fun b H1=>if b=true then tb {D with nx:=fun σ' H'=>Pv σ' H'/\μ σ' H'<μ σ H,ct:=fun σ' H'=>Pv σ' H'/\μ σ' H'<μ σ H,bk:=D.nx} σ H1 else D.nx σ H1)
  (mono:∀σ H Q Q',(∀b H1,Q b H1->Q' b H1)->c σ H Q->c σ H Q'):acA c tb D σ H:=by
 refine⟨fun m σ H=>m=μ σ H/\Pv σ H,⟨_,rfl,h0⟩,?_⟩
 rintro m σ H ⟨rfl,p⟩
 refine mono σ H _ _ (fun b H1 q=>?_) (hs σ H p)
 cases b with
 |true=>exact⟨_,fun σ' H' ⟨p',l⟩=>⟨_,l,rfl,p'⟩,q⟩
 |false=>exact q
abbrev R2:=V->V->Hp->VK->Prop
def Gw(X:Cx)(f:Value->Value->Sem Value)(r:R2):Prop:=
 ∀(pins:List (Addr×Obj)) (s:Shared) (σ:St) (H:Hp) (x y:V) (v u:Value) (Q:VK),Inv X pins σ H s->RelV x v->RelV y u->r x y H Q->
  wpAny (model X.prog X.w) X.A (f v u) (EP X pins σ Q) X.xe s
def UnR(X:Cx)(f:Value->Sem Value)(r:V->Hp->VK->Prop):Prop:=
 ∀(pins:List (Addr×Obj)) (s:Shared) (σ:St) (H:Hp) (x:V) (v:Value) (Q:VK),Inv X pins σ H s->RelV x v->r x H Q->
  wpAny (model X.prog X.w) X.A (f v) (EP X pins σ Q) X.xe s
def yR(X:Cx)(f:Value)(r:List V->Hp->VK->Prop):Prop:=
 ∀(pins:List (Addr×Obj)) (s:Shared) (σ:St) (H:Hp) (xs:List V) (us:List Value) (Q:VK),Inv X pins σ H s->Vals xs us->r xs H Q->
  wpAny (model X.prog X.w) X.A (call f us) (EP X pins σ Q) X.xe s
def tOp(r:R2)(ta tb:TE):TE:=fun σ H Q=>ta σ H fun x H1=>tb σ H1 fun y H2=>r x y H2 Q
def tUn(r:V->Hp->VK->Prop)(ta:TE):TE:=fun σ H Q=>ta σ H fun x H1=>r x H1 Q
def rI(C:Int->Int->Prop)(g:Int->Int->V):R2:=fun x y H Q=>∃i j,x= .int i/\y= .int j/\C i j/\Q (g i j) H
inductive ag2(g:Int->Int->V)(x:V)(y:V)(H:Hp)(Q:VK):Prop
 |mk (i:_) (j:_) (lq:x= .int i) (hh1:y= .int j) (nY:Q (g i j) H)
def rI0(g:Int->Int->V):R2:=fun x y H Q=>ag2 g x y H Q
def rU(g:Int->V):V->Hp->VK->Prop:=fun x H Q=>∃i,x= .int i/\Q (g i) H
section
variable{X:Cx}{a b c:Expr}{ta tb tc:TE}{pos:Pos}
theorem aeD(ha:PE X a ta)(hb:PE X b tb){pins:List (Addr×Obj)}{s:Shared}{σ:St}{H:Hp}{R:V->V->Hp->Prop}(I:Inv X pins σ H s)
  (h:ta σ H fun x H1=>tb σ H1 fun y H2=>R x y H2){Q:Value->Shared->Prop}{f:Value->Value->Sem Value}
  (hf:∀v u s2 x y H2,Inv X pins σ H2 s2->RelV x v->RelV y u->R x y H2->wpAny (model X.prog X.w) X.A (f v u) Q X.xe s2):
  wpAny (model X.prog X.w) X.A (eval a X.env) (fun v s₁=>wpAny (model X.prog X.w) X.A (eval b X.env) (fun u s₂=>wpAny (model X.prog X.w) X.A (f v u) Q X.xe s₂) X.xe s₁) X.xe s:=by
 refine jk (ha pins s σ H _ I h) fun v s1 ⟨x,H1,I1,r1,q1⟩=>?_
 refine jk (hb pins s1 σ H1 _ I1 q1) fun u s2 ⟨y,H2,I2,r2,q2⟩=>?_
 exact hf v u s2 x y H2 I2 r1 r2 q2
theorem cB{op:Operator}{r:R2}(ho:Gw X (binaryOp op) r)(ha:PE X a ta)(hb:PE X b tb):PE X (.BinOp a op b pos) (tOp r ta tb):=by
 intro pins s σ H Q I h
 exact wpAny_BinOp (aeD ha hb I h fun v u s2 x y H2 I2 rx ry q=>ho pins s2 σ H2 x y v u Q I2 rx ry q)
theorem YB{op:UnaryOp}{r:V->Hp->VK->Prop}(ho:UnR X (unaryOp op) r)(ha:PE X a ta):PE X (.UnaryOp op a pos) (tUn r ta):=by
 intro pins s σ H Q I h
 exact UnaryOp_ (jk (ha pins s σ H _ I h) fun v s1 ⟨x,H1,I1,r1,q1⟩=>ho pins s1 σ H1 x v Q I1 r1 q1)
theorem opI{f:Value->Value->Sem Value}{C:Int->Int->Prop}{g:Int->Int->Int}
  (rule:∀(i j:Int) (t u:Tok) (s:Shared) (Q:Value->Shared->Prop) (E:Value->Shared->Prop),C i j->Q (.int (g i j) s.toks) {s with toks:=s.toks+1}->wpAny (model X.prog X.w) X.A (f (.int i t) (.int j u)) Q E s):
  Gw X f (rI C fun i j=> .int (g i j)):=by
 intro pins s σ H x y v u Q I rx ry h
 obtain⟨i,j,rfl,rfl,hc,q⟩:=h
 obtain⟨t,rfl⟩:=rx
 obtain⟨t',rfl⟩:=ry
 exact rule i j t t' s _ _ hc ⟨.int (g i j),H,I.tok _,⟨_,rfl⟩,q⟩
theorem agC{f:Value->Value->Sem Value}{g:Int->Int->Int}
  (rule:∀(i j:Int) (t u:Tok) (s:Shared) (Q:Value->Shared->Prop) (E:Value->Shared->Prop),Q (.int (g i j) s.toks) {s with toks:=s.toks+1}->wpAny (model X.prog X.w) X.A (f (.int i t) (.int j u)) Q E s):
  Gw X f (rI0 fun i j=> .int (g i j)):=by
 intro pins s σ H x y v u Q I rx ry h
 obtain⟨i,j,rfl,rfl,q⟩:=h
 obtain⟨t,rfl⟩:=rx
 obtain⟨t',rfl⟩:=ry
 exact rule i j t t' s _ _ ⟨.int (g i j),H,I.tok _,⟨_,rfl⟩,q⟩
theorem adJ{f:Value->Value->Sem Value}{g:Int->Int->Bool}
  (rule:∀(i j:Int) (t u:Tok) (s:Shared) (Q:Value->Shared->Prop) (E:Value->Shared->Prop),Q (.bool (g i j)) s->wpAny (model X.prog X.w) X.A (f (.int i t) (.int j u)) Q E s):
  Gw X f (rI0 fun i j=> .bl (g i j)):=by
 intro pins s σ H x y v u Q I rx ry h
 obtain⟨i,j,rfl,rfl,q⟩:=h
 obtain⟨t,rfl⟩:=rx
 obtain⟨t',rfl⟩:=ry
 exact rule i j t t' s _ _ ⟨.bl (g i j),H,I,rfl,q⟩
def ag1(i j:Int):Prop:=0<j/\j<1073741824
def aes(i j:Int):Prop:=(-(2^64)<i/\i<2^64)\/(-(2^64)<j/\j<2^64)
theorem aes.ok{i j:Int}(h:aes i j):IntMulOk i j:=by
 rcases h with⟨h1,h2⟩|⟨h1,h2⟩
 .exact .of_left (intBits_le_64 h1 h2)
 .exact .of_right (intBits_le_64 h1 h2)
theorem dj:Gw X (binaryOp .Add) (rI0 fun i j=> .int (i+j)):=agC fun _ _ _ _ _ _ _ q=>add_int q
theorem Jo:Gw X (binaryOp .Sub) (rI0 fun i j=> .int (i-j)):=agC fun _ _ _ _ _ _ _ q=>sub_int q
theorem abW:Gw X (binaryOp .Mult) (rI aes fun i j=> .int (i*j)):=opI fun _ _ _ _ _ _ _ hc q=>mul_int q hc.ok
theorem Yz:Gw X (binaryOp .FloorDiv) (rI ag1 fun i j=> .int (i/j)):=opI fun i j _ _ _ _ _ hc q=>by
 have h1:(0:Int)<j:=hc.1
 have h2:j<1073741824:=hc.2
 exact floordiv_int (by omega) (by rw[Int.fdiv_eq_ediv_of_nonneg i (by omega)];exact q) (.inl (PyProof.noPylong_small (by omega)))
theorem afk:Gw X (binaryOp .Mod) (rI (fun _ j=>0<j) fun i j=> .int (i%j)):=opI fun i j _ _ _ _ _ hc q=>by
 have h1:(0:Int)<j:=hc
 exact mod_int' (by omega) (by rw[Int.fmod_eq_emod_of_nonneg i (by omega)];exact q)
theorem unI{f:Value->Sem Value}{g:Int->Int}
  (rule:∀(i:Int) (t:Tok) (s:Shared) (Q:Value->Shared->Prop) (E:Value->Shared->Prop),Q (.int (g i) s.toks) {s with toks:=s.toks+1}->wpAny (model X.prog X.w) X.A (f (.int i t)) Q E s):
  UnR X f (rU fun i=> .int (g i)):=by
 intro pins s σ H x v Q I rx h
 obtain⟨i,rfl,q⟩:=h
 obtain⟨t,rfl⟩:=rx
 exact rule i t s _ _ ⟨.int (g i),H,I.tok _,⟨_,rfl⟩,q⟩
theorem T_:UnR X (unaryOp .USub) (rU fun i=> .int (-i)):=unI fun _ _ _ _ _ q=>neg_int q
end
def agM:V->V->Bool
 | .non,.non=>true| .non,.int _=>true| .int _,.non=>true| .non,.bl _=>true| .bl _,.non=>true| .non,.str _=>true| .str _,.non=>true
 | .int _,.int _=>true| .bl _,.bl _=>true| .str _,.str _=>true| .Wf _,.Wf _=>true
 | .int _,.str _=>true| .str _,.int _=>true| .bl _,.str _=>true| .str _,.bl _=>true
 |_,_=>false
def rEq:R2:=fun x y H Q=>agM x y=true/\Q (.bl (decide (x=y))) H
def rNe:R2:=fun x y H Q=>agM x y=true/\Q (.bl (!decide (x=y))) H
theorem Hi{i j:Int}:decide (V.int i=V.int j)=(i==j):=by
 rw[Bool.eq_iff_iff]
 simp
theorem aa9{i j:Bool}:decide (V.bl i=V.bl j)=(i==j):=by
 rw[Bool.eq_iff_iff]
 simp
theorem Yd{i j:Str}:decide (V.str i=V.str j)=(i==j):=by
 rw[Bool.eq_iff_iff]
 simp
theorem Yc{i j:Array UInt8}:decide (V.Wf i=V.Wf j)=(i.toList==j.toList):=by
 rw[Bool.eq_iff_iff]
 cases i
 cases j
 simp
section
variable{X:Cx}{a b c:Expr}{ta tb tc:TE}{pos:Pos}
theorem eZ{pins:List (Addr×Obj)}{σ:St}{H:Hp}{s:Shared}{Q:VK}{k k':Bool}(I:Inv X pins σ H s)(q:Q (.bl k) H)(e:k=k'):EP X pins σ Q (.bool k') s:=by
 subst e
 exact⟨.bl k,H,I,rfl,q⟩
theorem jf:Gw X (compareOp .Eq) rEq:=by
 intro pins s σ H x y v u Q I rx ry h
 obtain⟨hs,q⟩:=h
 cases x with
 |non=>
  cases rx
  cases y with
  |non=>cases ry;exact PySem.EqNone.eq_none_none (eZ I q (by simp))
  |bl j=>cases ry;exact PySem.EqNone.eq_none_bool (eZ I q (by simp))
  |int j=>obtain⟨t',rfl⟩:=ry;exact PySem.EqNone.eq_none_int (eZ I q (by simp))
  |str j=>obtain⟨t',rfl⟩:=ry;exact PySem.EqNone.eq_none_str (eZ I q (by simp))
  |_=>exact absurd (show false=true from hs) iY
 |bl i=>
  cases rx
  cases y with
  |non=>cases ry;exact PySem.EqNone.eq_bool_none (eZ I q (by simp))
  |bl j=>cases ry;exact eq_bool (eZ I q aa9)
  |str j=>obtain⟨t',rfl⟩:=ry;exact PySem.EqMixed.eq_bool_str (eZ I q (by simp))
  |_=>exact absurd (show false=true from hs) iY
 |int i=>
  obtain⟨t,rfl⟩:=rx
  cases y with
  |non=>cases ry;exact PySem.EqNone.eq_int_none (eZ I q (by simp))
  |int j=>obtain⟨t',rfl⟩:=ry;exact eq_int (eZ I q Hi)
  |str j=>obtain⟨t',rfl⟩:=ry;exact PySem.EqMixed.eq_int_str (eZ I q (by simp))
  |_=>exact absurd (show false=true from hs) iY
 |str i=>
  obtain⟨t,rfl⟩:=rx
  cases y with
  |non=>cases ry;exact PySem.EqNone.eq_str_none (eZ I q (by simp))
  |bl j=>cases ry;exact PySem.EqMixed.eq_str_bool (eZ I q (by simp))
  |int j=>obtain⟨t',rfl⟩:=ry;exact PySem.EqMixed.eq_str_int (eZ I q (by simp))
  |str j=>obtain⟨t',rfl⟩:=ry;exact eq_str (eZ I q Yd)
  |_=>exact absurd (show false=true from hs) iY
 |Wf i=>
  obtain⟨t,rfl⟩:=rx
  cases y with
  |Wf j=>obtain⟨t',rfl⟩:=ry;exact PySem.W.eq_bytes (eZ I q Yc)
  |_=>exact absurd (show false=true from hs) iY
 |_=>cases y<;>exact absurd (show false=true from hs) iY
theorem HY:Gw X (compareOp .NotEq) rNe:=by
 intro pins s σ H x y v u Q I rx ry h
 obtain⟨hs,q⟩:=h
 cases x with
 |non=>
  cases rx
  cases y with
  |non=>cases ry;exact PySem.EqNone.ne_none_none (eZ I q (by simp))
  |bl j=>cases ry;exact PySem.EqNone.ne_none_bool (eZ I q (by simp))
  |int j=>obtain⟨t',rfl⟩:=ry;exact PySem.EqNone.ne_none_int (eZ I q (by simp))
  |str j=>obtain⟨t',rfl⟩:=ry;exact PySem.EqNone.ne_none_str (eZ I q (by simp))
  |_=>exact absurd (show false=true from hs) iY
 |bl i=>
  cases rx
  cases y with
  |non=>cases ry;exact PySem.EqNone.ne_bool_none (eZ I q (by simp))
  |bl j=>cases ry;exact ne_bool (eZ I q (congrArg not aa9))
  |str j=>obtain⟨t',rfl⟩:=ry;exact PySem.EqMixed.ne_bool_str (eZ I q (by simp))
  |_=>exact absurd (show false=true from hs) iY
 |int i=>
  obtain⟨t,rfl⟩:=rx
  cases y with
  |non=>cases ry;exact PySem.EqNone.ne_int_none (eZ I q (by simp))
  |int j=>obtain⟨t',rfl⟩:=ry;exact ne_int (eZ I q (congrArg not Hi))
  |str j=>obtain⟨t',rfl⟩:=ry;exact PySem.EqMixed.ne_int_str (eZ I q (by simp))
  |_=>exact absurd (show false=true from hs) iY
 |str i=>
  obtain⟨t,rfl⟩:=rx
  cases y with
  |non=>cases ry;exact PySem.EqNone.ne_str_none (eZ I q (by simp))
  |bl j=>cases ry;exact PySem.EqMixed.ne_str_bool (eZ I q (by simp))
  |int j=>obtain⟨t',rfl⟩:=ry;exact PySem.EqMixed.ne_str_int (eZ I q (by simp))
  |str j=>obtain⟨t',rfl⟩:=ry;exact ne_str (eZ I q (congrArg not Yd))
  |_=>exact absurd (show false=true from hs) iY
 |Wf i=>
  obtain⟨t,rfl⟩:=rx
  cases y with
  |Wf j=>obtain⟨t',rfl⟩:=ry;exact PySem.W.ne_bytes (eZ I q (congrArg not Yc))
  |_=>exact absurd (show false=true from hs) iY
 |_=>cases y<;>exact absurd (show false=true from hs) iY
theorem Ez:Gw X (compareOp .Lt) (rI0 fun i j=> .bl (decide (i<j))):=adJ fun _ _ _ _ _ _ _ q=>lt_int q
theorem Nt:Gw X (compareOp .LtE) (rI0 fun i j=> .bl (decide (i<=j))):=adJ fun _ _ _ _ _ _ _ q=>le_int q
theorem CJ:Gw X (compareOp .Gt) (rI0 fun i j=> .bl (decide (j<i))):=adJ fun _ _ _ _ _ _ _ q=>gt_int q
theorem abV:Gw X (compareOp .GtE) (rI0 fun i j=> .bl (decide (j<=i))):=adJ fun _ _ _ _ _ _ _ q=>ge_int q
theorem afi:Gw X (compareOp .Is) (fun x y H Q=>y= .non/\Q (.bl (decide (x= .non))) H):=by
 intro pins s σ H x y v u Q I rx ry h
 obtain⟨rfl,q⟩:=h
 cases ry
 refine is_none_gen (eZ I q ?_)
 cases x<;>first
  |(cases rx;rfl)
  |(obtain⟨t,rfl⟩:=rx;rfl)
theorem bx(b:Expr){op:CmpOp}(h:op≠ .In:=by decide)(h2:op≠ .NotIn:=by decide):behindInMarks op b=false:=by
 have e1:(op==CmpOp.In)=false:=by cases op<;>first|rfl|exact absurd rfl h
 have e2:(op==CmpOp.NotIn)=false:=by cases op<;>first|rfl|exact absurd rfl h2
 cases b<;>simp[behindInMarks,e1,e2]
theorem qY{op:CmpOp}{r:R2}(ho:Gw X (compareOp op) r)(ha:PE X a ta)(hb:PE X b tb)(hm:behindInMarks op b=false):PE X (.Compare a [op] [b] pos) (tOp r ta tb):=by
 intro pins s σ H Q I h
 exact wpAny_Compare1 (aeD ha hb I h fun v u s2 x y H2 I2 rx ry q=>ho pins s2 σ H2 x y v u Q I2 rx ry q) hm
inductive aez(Q:Bool->Hp->Prop)(x:V)(H':Hp):Prop
 |mk (k:_) (lq:x= .bl k) (hh1:Q k H')
def aer(t:TE):TT:=fun σ H Q=>t σ H fun x H'=>aez Q x H'
theorem aX{op:CmpOp}{r:R2}(ho:Gw X (compareOp op) r)(ha:PE X a ta)(hb:PE X b tb)(hm:behindInMarks op b=false):PT X (.Compare a [op] [b] pos) (aer (tOp r ta tb)):=by
 intro pins s σ H Q I h
 refine wpAny_isTrue_Compare1 (jk (ha pins s σ H _ I h) fun v s1 ⟨x,H1,I1,r1,q1⟩=>jk (hb pins s1 σ H1 _ I1 q1) fun u s2 ⟨y,H2,I2,r2,q2⟩=>
  jk (ho pins s2 σ H2 x y v u _ I2 r1 r2 q2) fun c s3 ⟨z,H3,I3,r3,k,e,q3⟩=>?_) hm
 subst e
 cases r3
 exact wpAny_truthy_bool ⟨H3,I3,q3⟩
def afQ(r r':R2)(ta tb tc:TE):TE:=fun σ H Q=>ta σ H fun x H1=>tb σ H1 fun y H2=>r x y H2 fun z H3=>∃k,z= .bl k/\
 (if k=true then tc σ H3 fun w' H4=>r' y w' H4 Q else Q (.bl false) H3)
theorem VB{op op':CmpOp}{r r':R2}(ho:Gw X (compareOp op) r)(ho':Gw X (compareOp op') r')(ha:PE X a ta)(hb:PE X b tb)(hc:PE X c tc)
  (hm:lastMarks [op,op'] [b,c]=false:=by with_unfolding_all rfl):PE X (.Compare a [op,op'] [b,c] pos) (afQ r r' ta tb tc):=by
 intro pins s σ H Q I h
 refine Compare_chain (jk (ha pins s σ H _ I h) fun v s1 ⟨x,H1,I1,r1,q1⟩=>chain_link (jk (hb pins s1 σ H1 _ I1 q1) fun u s2 ⟨y,H2,I2,r2,q2⟩=>
  jk (ho pins s2 σ H2 x y v u _ I2 r1 r2 q2) fun d s3 ⟨z,H3,I3,r3,k,e,q3⟩=>?_)) hm
 subst e
 cases r3
 refine wpAny_truthy_bool ?_
 cases k with
 |false=>exact ite_ff ⟨.bl false,H3,I3,rfl,q3⟩
 |true=>exact ite_tt (chain_last (jk (hc pins s3 σ H3 _ I3 q3) fun w' s4 ⟨z',H4,I4,r4,q4⟩=>ho' pins s4 σ H4 y z' u w' Q I4 r2 r4 q4))
theorem Ft:(dM:Nat)<2^63:=by rw[Es];decide
theorem vals1{x:V}{us:List Value}(r:Vals [x] us):∃u,us=[u]/\RelV x u:=by
 cases r with
 |cons r1 r2=>cases r2;exact⟨_,rfl,r1⟩
theorem vals2{x y:V}{us:List Value}(r:Vals [x,y] us):∃u w',us=[u,w']/\RelV x u/\RelV y w':=by
 cases r with
 |cons r1 r2=>
  cases r2 with
  |cons r3 r4=>cases r4;exact⟨_,_,rfl,r1,r3⟩
theorem Ut:yR X (.builtin "abs") (fun xs H Q=>∃i,xs=[.int i]/\Q (.int (if i<0 then-i else i)) H):=by
 intro pins s σ H xs us Q I r h
 obtain⟨i,rfl,q⟩:=h
 obtain⟨u,rfl,t,rfl⟩:=vals1 r
 exact call_abs_int fun u tk=>⟨.int (if i<0 then-i else i),H,I.tok _,⟨_,rfl⟩,q⟩
theorem Zt(hc:X.calm=true):yR X (.builtin "max") (fun xs H Q=>∃i j,xs=[.int i,.int j]/\Q (.int (if j>i then j else i)) H):=by
 intro pins s σ H xs us Q I r h
 obtain⟨i,j,rfl,q⟩:=h
 obtain⟨u,w',rfl,⟨t,rfl⟩,⟨t',rfl⟩⟩:=vals2 r
 refine max_two_ints (I.ok.hd hc) fun h' tk k=>⟨_,H,I.kept k,?_,q⟩
 by_cases hj:j>i
 .rw[if_pos hj,if_pos hj];exact⟨_,rfl⟩
 .rw[if_neg hj,if_neg hj];exact⟨_,rfl⟩
theorem RQ:yR X (.type "str") (fun xs H Q=>∃i,xs=[.int i]/\i.natAbs.log2<1920/\Q (.str (toString i)) H):=by
 intro pins s σ H xs us Q I r h
 obtain⟨i,rfl,hz,q⟩:=h
 obtain⟨u,rfl,t,rfl⟩:=vals1 r
 exact PySem.P.str_of_int hz ⟨.str _,H,I.tok _,⟨_,rfl⟩,q⟩
end
structure Zm(h:Heap)(x dx C:Addr)(mA:Str->Option Value):Prop where
 obj:h.get? x=some (Wy C dx)
 ns:h.Ns1 dx mA
 ne:dx≠x
theorem Z4{h:Heap}{dx:Addr}{mA:Str->Option Value}(n:h.Ns1 dx mA):∃od,h.get? dx=some od/\∀name,PySem.W.lookIn name od=some (mA name):=by
 obtain⟨o,es,ep,ho,hd,hk,_,hm⟩:=n
 refine⟨o,ho,fun name=>?_⟩
 have e:=hm name
 unfold nsFind findBy at e
 rw[<-Array.find?_toList] at e
 unfold PySem.W.lookIn
 rw[hd]
 dsimp only
 split
 .rename_i y q
  rw[q] at e
  exact congrArg some e
 .rename_i q
  rw[q] at e
  have a:es.toList.any (·.refKey)=false:=by
   rw[List.any_eq_false]
   intro y hy
   obtain⟨z,t,hkey⟩:=hk y (Array.mem_toList_iff.mp hy)
   simp[DictEntry.refKey,hkey]
  have a':¬es.toList.any (·.refKey)=true:=by rw[a];exact iY
  rw[if_neg a']
  exact congrArg some e
theorem Zm.look{h:Heap}{x dx C:Addr}{mA:Str->Option Value}(I:Zm h x dx C mA):∃od,PySem.W.InstAt h x (Wy C dx) C (some od)/\∀name,PySem.W.lookIn name od=some (mA name):=
 let⟨od,ho,hl⟩:=Z4 I.ns
 ⟨od,⟨I.obj,rfl,rfl,ho⟩,hl⟩
section
variable{prog:Program}{w:World}{A:Around}{E:Value->Shared->Prop}{s:Shared}{K:bw}{x dx C f:Addr}{mA:Str->Option Value}{name:Str}{v:Value}
theorem get_map{expr:Bool}{Q:Value->Shared->Prop}(X:K.In s.heap)(I:Zm s.heap x dx C mA)(hg:PySem.W.plainGet K C name=true)(hh:PySem.W.hasDictIn K C=true)
  (ha:Qn K (.ref C) name=some none)(hv:mA name=some v)(hv':PySem.W.handedIn v=true)(h:Q v {s with toks:=s.toks+1}):
  wpAny (model prog w) A (getAttr (.ref x) name expr) Q E s:=by
 obtain⟨od,J,hl⟩:=I.look
 exact PySem.W.get_value X J (PySem.W.plainGet_of hg).1 (PySem.W.findObj_own hh ha rfl (by rw[hl,hv])) hv' h
theorem adR{ns:List Str}{Q:Unit->Shared->Prop}(X:K.In s.heap)(I:Zm s.heap x dx C mA)
  (hs:Qn K (.ref C) "__setattr__"=some (some (.builtin "object.__setattr__")))(hp:PySem.W.plainOver K C=true)(ht:PySem.W.takerIn K C name=some none)(hh:PySem.W.hasDictIn K C=true)
  (hw:PySem.Within mA ns)(hsz:ns.length<=dM)
  (h:∀h',Zm h' x dx C (fun y=>if y=name then some v else mA y)->Heap.SameBut dx s.heap h'->Q () {s with heap:=h',toks:=s.toks+2}):
  wpAny (model prog w) A (setAttr (.ref x) name v) Q E s:=by
 obtain⟨od,J,hl⟩:=I.look
 refine PySem.W.set_plain X J hs (PySem.W.osa_open (s:={s with toks:=s.toks+1}) (r:=none) X J hp ht fun b=>?_)
 obtain⟨cd,hc,hd'⟩:=PySem.W.any_some hh
 have hx:s.heap.get? x=some ⟨.ref C,some dx,.plain,#[]⟩:=I.obj
 refine aR (bW (aR (aR (wpAny_loadPart hx (aR (PySem.W.Looks.here (s:={s with toks:=s.toks+1}) (PySem.W.looks_clsIn X hc) ?_))))))
 rw[hd']
 refine bW (a:=some dx) (aR (bW (aR ?_)))
 refine wpAny_nsSet1 (s:={s with toks:=s.toks+1}) I.ns fun h' hn2 hs2=>?_
 obtain⟨oD,esD,epD,hoD,hdD,hcD⟩:=hn2.count (PySem.Within.cons name v hw)
 refine aR (wpAny_lookBehind hoD (by rw[hdD];exact pastItsLine_dict (mR hcD (by rw[pD];omega))) ?_)
 exact bW (h _ ⟨(hs2.2 _ (Ne.symm I.ne)).trans I.obj,hn2,I.ne⟩ hs2)
theorem abM{R:Result->Shared->Prop}{vs:List Value}{kw:List (Str×Value)}(X:K.In s.heap)(hm:PySem.W.makesIn K C=true)
  (hi:Qn K (.ref C) "__init__"=some (some (.ref f)))(hf:PySem.W.typeIn K (.ref f)=some (.type "function"))
  (h:codeAny (model prog w) (A.under (.builtin "type.__call__" ⟨.ref C::vs,kw⟩)) (.call (.ref f) ⟨.ref (s.heap.objs.size+1)::vs,kw⟩) (PySem.W.InitBack (s.heap.objs.size+1) R)
   {s with heap:=(s.heap.push JM).push (Wy C s.heap.objs.size)}):
  codeAny (model prog w) A (.call (.ref C) ⟨vs,kw⟩) R s:=by
 obtain⟨hh,g,d,t,os⟩:=s
 exact PySem.W.make_core (PySem.W.makes_of X hm) (PySem.W.looks_findIn X hi) (fun self=>PySem.W.bind_fn X self hf) (.inl rfl) h
end
def fV(f:Str)(v:V):List (Str×V)->List (Str×V)
 |[]=>[(f,v)]
 |(g,x)::r=>if g=f then(g,v)::r else(g,x)::fV f v r
theorem aO(f g:Str)(v:V):∀fs:List (Str×V),(fV f v fs).lookup g=if g=f then some v else fs.lookup g
 |[]=>by
  show List.lookup g [(f,v)]=_
  by_cases h:g=f
  .have hb:(g==f)=true:=beq_iff_eq.mpr h
   simp only[List.lookup,hb,if_pos h]
  .have hb:(g==f)=false:=beq_eq_false_iff_ne.mpr h
   simp only[List.lookup,hb,if_neg h]
 |(k,x)::r=>by
  have ih:=aO f g v r
  rw[show fV f v ((k,x)::r)=(if k=f then(k,v)::r else(k,x)::fV f v r) from rfl]
  by_cases hk:k=f
  .rw[if_pos hk]
   by_cases h:g=k
   .have hb:(g==k)=true:=beq_iff_eq.mpr h
    simp only[List.lookup,hb,if_pos (h.trans hk)]
   .have hb:(g==k)=false:=beq_eq_false_iff_ne.mpr h
    simp only[List.lookup,hb,if_neg (fun e:g=f=>h (e.trans hk.symm))]
  .rw[if_neg hk]
   by_cases h:g=k
   .have hb:(g==k)=true:=beq_iff_eq.mpr h
    simp only[List.lookup,hb,if_neg (fun e:g=f=>hk (h.symm.trans e))]
   .have hb:(g==k)=false:=beq_eq_false_iff_ne.mpr h
    simp only[List.lookup,hb]
    exact ih
theorem Jk(f:Str)(v:V):∀fs:List (Str×V),f∈(fV f v fs).map (·.1)/\∀g,g∈fs.map (·.1)->g∈(fV f v fs).map (·.1)
 |[]=>⟨by simp[fV],fun g h=>by simp at h⟩
 |(k,x)::r=>by
  obtain⟨i1,i2⟩:=Jk f v r
  rw[show fV f v ((k,x)::r)=(if k=f then(k,v)::r else(k,x)::fV f v r) from rfl]
  by_cases hk:k=f
  .rw[if_pos hk]
   subst hk
   exact⟨by simp,fun g h=>by simpa using h⟩
  .rw[if_neg hk]
   refine⟨?_,fun g h=>?_⟩
   .rw[cU]
    exact dU _ i1
   .rw[cU] at h ⊢
    rcases bU.mp h with e|e
    .exact bU.mpr (.inl e)
    .exact dU _ (i2 g e)
theorem J4(f:Str)(v:V):∀fs:List (Str×V),(fV f v fs).length<=fs.length+1
 |[]=>by simp[fV]
 |(k,x)::r=>by
  have ih:=J4 f v r
  rw[show fV f v ((k,x)::r)=(if k=f then(k,v)::r else(k,x)::fV f v r) from rfl]
  by_cases hk:k=f
  .rw[if_pos hk,pD,pD];omega
  .rw[if_neg hk,pD,pD];omega
theorem GC.some_of{v:V}{o:Option Value}(r:GC (some v) o):∃u,o=some u/\RelV v u:=by
 cases o with
 |none=>exact(show False from r).elim
 |some u=>exact⟨u,rfl,r⟩
theorem ZK{v:V}{u:Value}(r:RelV v u):PySem.W.handedIn u=true:=by
 cases v with
 |non=>cases(show u=Value.none from r);rfl
 |bl b=>cases(show u=Value.bool b from r);rfl
 |int i=>obtain⟨t,e⟩:=(show ∃t,u=Value.int i t from r);cases e;rfl
 |str x=>obtain⟨t,e⟩:=(show ∃t,u=Value.str x t from r);cases e;rfl
 |Wf b=>obtain⟨t,e⟩:=(show ∃t,u=Value.bytes b t from r);cases e;rfl
 |flt b=>obtain⟨t,e⟩:=(show ∃t,u=Value.float b t from r);cases e;rfl
 |ref a=>cases(show u=Value.ref a from r);rfl
 |ty n=>cases(show u=Value.type n from r);rfl
section
variable{P:Program}{w:World}{H H':Hp}{h h':Heap}{a C dx:Addr}{fs fs':List (Str×V)}
theorem Yq(hok:xO P w H h)(e:H a=some (.ins C dx fs)):∃mA,Zm h a dx C mA/\(∀f,GC (fs.lookup f) (mA f))/\PySem.Within mA (fs.map (·.1))/\fs.length<=1000/\H dx=some (.own a):=by
 obtain⟨d,z,ne,ob,mA,n,r,q⟩:=(show iC P w H h a (.ins C dx fs) from hok a _ e)
 exact⟨mA,⟨ob,n,ne⟩,r,q,z,d⟩
end
structure Cls(K:bw)(C:Addr):Prop where
 pg:PySem.W.plainGet K C Str.empty=true
 hd:PySem.W.hasDictIn K C=true
 po:PySem.W.plainOver K C=true
 sa:Qn K (.ref C) "__setattr__"=some (some (.builtin "object.__setattr__"))
theorem Cls.get{K:bw}{C:Addr}(c:Cls K C)(f:Str):PySem.W.plainGet K C f=true:=c.pg
def cM(K:bw)(C:Addr)(f:Str):Prop:=Qn K (.ref C) f=some none
theorem cM.taker{K:bw}{C:Addr}{f:Str}(n:cM K C f):PySem.W.takerIn K C f=some none:=by
 unfold PySem.W.takerIn
 rw[show Qn K (.ref C) f=some none from n]
 rfl
section
variable{X:Cx}{pins:List (Addr×Obj)}{σ:St}{H:Hp}{s:Shared}{a C dx:Addr}{fs:List (Str×V)}{f:Str}{v:V}{A:Around}{E:Value->Shared->Prop}
theorem Mx{b:Bool}{Q:Value->Shared->Prop}(I:Inv X pins σ H s)(e:H a=some (.ins C dx fs))(c:Cls X.K C)(n:cM X.K C f)(l:fs.lookup f=some v)
  (h:∀u s',Inv X pins σ H s'->RelV v u->Q u s'):wpAny (model X.prog X.w) A (getAttr (.ref a) f b) Q E s:=by
 obtain⟨mA,O,r,_,_,_⟩:=Yq I.hok e
 obtain⟨u,hu,ru⟩:=GC.some_of (v:=v) (o:=mA f) (by rw[<-l];exact r f)
 exact get_map I.R7 O (c.get f) c.hd n hu (ZK ru) (h u _ (I.tok _) ru)
theorem Oz{y:V}{u:Value}{Q:Unit->Shared->Prop}(I:Inv X pins σ H s)(e:H a=some (.ins C dx fs))(c:Cls X.K C)(n:cM X.K C f)(hl:fs.length<1000)(ry:RelV y u)
  (h:∀s',Inv X pins σ (upd H a (.ins C dx (fV f y fs))) s'->Q () s'):wpAny (model X.prog X.w) A (setAttr (.ref a) f u) Q E s:=by
 obtain⟨mA,O,r,wi,_,ho⟩:=Yq I.hok e
 have hz:(fs.map (·.1)).length<=dM:=by rw[aW,Es];omega
 refine adR I.R7 O c.sa c.po n.taker c.hd wi hz fun h' O' sb=>h _ ?_
 have hd:∃o,h'.get? dx=some o:=let⟨o,_,_,e',_⟩:=O'.ns;⟨o,e'⟩
 refine I.write (x:=a) (e:=dx) (by rw[e];exact True.intro) (.inr ho) (fun b q hb z=>(sb.2 b hb).trans z) hd ?_
 refine⟨by rw[aD O.ne];exact ho,?_,O.ne,O'.obj,_,O'.ns,fun g=>?_,fun g hg=>?_⟩
 .have:=J4 f y fs;omega
 .show GC ((fV f y fs).lookup g) (if g=f then some u else mA g)
  rw[aO]
  by_cases q:g=f
  .rw[if_pos q,if_pos q];exact ry
  .rw[if_neg q,if_neg q];exact r g
 .by_cases q:g=f
  .rw[q];exact(Jk f y fs).1
  .refine(Jk f y fs).2 g (wi g fun z=>hg ?_)
   show(if g=f then some u else mA g)=none
   rw[if_neg q];exact z
theorem Inv.made(I:Inv X pins σ H s):Inv X pins σ (upd (upd H s.heap.objs.size (.own (s.heap.objs.size+1))) (s.heap.objs.size+1) (.ins C s.heap.objs.size []))
  {s with heap:=(s.heap.push JM).push (Wy C s.heap.objs.size)}:=by
 have e1:(s.heap.push JM).get? s.heap.objs.size=some JM:=uc s.heap rfl
 have e2:((s.heap.push JM).push (Wy C s.heap.objs.size)).get? (s.heap.objs.size+1)=some (Wy C s.heap.objs.size):=by
  have:=uc (s.heap.push JM) (o:=Wy C s.heap.objs.size) rfl
  rwa [Bx] at this
 have e3:(s.heap.push JM).Ns s.heap.objs.size (fun _=>none):=⟨JM,#[],_,e1,rfl,(fun e he=>absurd he (by simp)),fun _=>rfl⟩
 have I1:=I.laid (a:=s.heap.objs.size) (o:= .own (s.heap.objs.size+1)) (h':=s.heap.push JM) (t':=s.toks) (fun b u q=>jW _ q) (cF _) ⟨_,e1⟩
 refine I1.laid (a:=s.heap.objs.size+1) (o:= .ins C s.heap.objs.size []) (t':=s.toks) (fun b u q=>jW _ q) (Nat.le_of_eq (Bx _ _)) ?_
 have ne:s.heap.objs.size≠s.heap.objs.size+1:=rR (Ug _)
 refine⟨by rw[aD ne,ao],j_ _,ne,e2,fun _=>none,(Heap.Ns1.of_empty e3).at fun o q=>jW _ q,fun _=>True.intro,fun y hy=>absurd rfl hy⟩
theorem ac4{prog:Program}{w:World}{env:Env}{e:Expr}{f:Str}{pos:Pos}{s:Shared}{Q:Value->Shared->Prop}(hb:attributeBase e f env (eval e env)=eval e env)
  (h:wpAny (model prog w) A (eval e env) (fun o s₁=>wpAny (model prog w) A (getAttr o f true) Q E s₁) E s):wpAny (model prog w) A (eval (.Attribute e f pos) env) Q E s:=
 Attribute_any_ h (by rw[arm_eval_Attribute,hb])
end
inductive af9(K:bw)(f:Str)(Q:VK)(x:V)(H1:Hp):Prop
 |mk (a:_) (C:_) (dx:_) (fs:_) (v:_) (lq:x= .ref a) (hh1:H1 a=some (.ins C dx fs)) (nY:Cls K C) (hh3:cM K C f) (wO:fs.lookup f=some v) (Eo:Q v H1)
def Qj(K:bw)(ta:TE)(f:Str):TE:=fun σ H Q=>ta σ H fun x H1=>af9 K f Q x H1
def aoS(K:bw)(ta tv:TE)(f:Str):TS:=fun D σ H=>tv σ H fun y H1=>ta σ H1 fun x H2=>∃a C dx fs,x= .ref a/\H2 a=some (.ins C dx fs)/\Cls K C/\cM K C f/\fs.length<1000/\
 D.nx σ (upd H2 a (.ins C dx (fV f y fs)))
def aev(X:Cx)(op:Operator)(rd:V->V->Hp->VK->Prop):Prop:=
 ∀(pins:List (Addr×Obj)) (s:Shared) (σ:St) (H:Hp) (x y:V) (u v:Value) (Q:VK),Inv X pins σ H s->RelV x u->RelV y v->rd x y H Q->wpAny (model X.prog X.w) X.A (inplaceOp op u v) (EP X pins σ Q) X.xe s
def adQ(K:bw)(ta tv:TE)(rd:V->V->Hp->VK->Prop)(f:Str):TS:=fun D σ H=>ta σ H fun x H1=>∃a C dx fs v,x= .ref a/\H1 a=some (.ins C dx fs)/\Cls K C/\cM K C f/\fs.lookup f=some v/\
 tv σ H1 fun y H2=>rd v y H2 fun z H3=>∃dx' fs',H3 a=some (.ins C dx' fs')/\fs'.length<1000/\D.nx σ (upd H3 a (.ins C dx' (fV f z fs')))
section
variable{X:Cx}{o e value:Expr}{f:Str}{pos pos' tpos:Pos}{ta tv:TE}
theorem aG(he:PE X e ta)(hb:attributeBase e f X.env (eval e X.env)=eval e X.env):PE X (.Attribute e f pos) (Qj X.K ta f):=by
 intro pins s σ H Q I h
 refine ac4 hb (jk (he pins s σ H _ I h) fun u s1 ⟨x,H1,I1,rx,a,C,dx,fs,v,ex,ea,c,n,l,q⟩=>?_)
 subst ex
 obtain rfl:u=Value.ref a:=rx
 exact Mx I1 ea c n l fun u' s2 I2 ru=>⟨v,H1,I2,ru,q⟩
theorem lK(ha:PE X o ta)(hv:PE X value tv)(hs:swapsWith value (some (.Attribute o f pos')) pos.line X.env=pure false):PS X (.Assign [.Attribute o f pos'] value pos) (aoS X.K ta tv f):=by
 intro pins s σ H D I h
 refine plainObj_wpAny_Assign_Attribute (jk (hv pins s σ H _ I h) fun u s1 ⟨y,H1,I1,ry,q⟩=>jk (ha pins s1 σ H1 _ I1 q) fun ov s2 ⟨x,H2,I2,rx,a,C,dx,fs,ex,ea,c,n,l,q2⟩=>?_) hs
 subst ex
 obtain rfl:ov=Value.ref a:=rx
 exact Oz I2 ea c n l ry fun s3 I3=>⟨σ,_,I3,q2⟩
theorem Jr{op:Operator}{rd:V->V->Hp->VK->Prop}(ha:PE X o ta)(hv:PE X value tv)(hop:aev X op rd):PS X (.AugAssign (.Attribute o f tpos) op value pos) (adQ X.K ta tv rd f):=by
 intro pins s σ H D I h
 refine wpAny_AugAssign_AttributeAny (jk (ha pins s σ H _ I h) fun ov s1 ⟨x,H1,I1,rx,a,C,dx,fs,v,ex,ea,c,n,l,q⟩=>?_)
 subst ex
 obtain rfl:ov=Value.ref a:=rx
 refine Mx I1 ea c n l fun u s2 I2 ru=>jk (hv pins s2 σ H1 _ I2 q) fun w3 s3 ⟨y,H2,I3,ry,q3⟩=>jk (hop pins s3 σ H2 v y u w3 _ I3 ru ry q3) fun w4 s4 ⟨z,H3,I4,rz,dx',fs',ea',l',q4⟩=>?_
 exact Oz I4 ea' c n l' rz fun s5 I5=>⟨σ,_,I5,q4⟩
def aoF:V->V->Hp->VK->Prop:=fun x y H Q=>∃i j,x= .int i/\y= .int j/\Q (.int (i+j)) H
def aoO:V->V->Hp->VK->Prop:=fun x y H Q=>∃i j,x= .int i/\y= .int j/\Q (.int (i-j)) H
theorem abz:aev X .Add aoF:=by
 rintro pins s σ H x y u v Q I rx ry ⟨i,j,rfl,rfl,q⟩
 obtain⟨t,rfl⟩:=(show ∃t,u=Value.int i t from rx)
 obtain⟨t',rfl⟩:=(show ∃t',v=Value.int j t' from ry)
 exact PyProof.Rows.iadd_int ⟨.int (i+j),H,I.tok _,⟨_,rfl⟩,q⟩
theorem ae2:aev X .Sub aoO:=by
 rintro pins s σ H x y u v Q I rx ry ⟨i,j,rfl,rfl,q⟩
 obtain⟨t,rfl⟩:=(show ∃t,u=Value.int i t from rx)
 obtain⟨t',rfl⟩:=(show ∃t',v=Value.int j t' from ry)
 exact PyProof.Rows.isub_int ⟨.int (i-j),H,I.tok _,⟨_,rfl⟩,q⟩
end
structure cI(k:Nat)(A:Around):Prop where
 hd:A.handled=none
 dp:A.depth+3*k+5<recursionLimit
 un:A.units+16*k+200<cLine
theorem cI.mono{j k:Nat}{A:Around}(r:cI k A)(h:j<=k):cI j A:=⟨r.hd,by have:=r.dp;omega,by have:=r.un;omega⟩
theorem cI.deeper{k:Nat}{A:Around}(r:cI (k+1) A)(env:Env):cI k (A.deeper env):=
 ⟨r.hd,by have:=r.dp;show A.depth+1+3*k+5<_;omega,by have:=r.un;show A.units+3+16*k+200<_;omega⟩
theorem cI.in1{k:Nat}{A:Around}(r:cI (k+1) A):cI k A.in1:=
 ⟨r.hd,by have:=r.dp;show A.depth+3*k+5<_;omega,by have:=r.un;show A.units+1+16*k+200<_;omega⟩
theorem Xj{A:Around}{C:Addr}{us:List Value}{kw:List (Str×Value)}:(A.under (.builtin "type.__call__" ⟨.ref C::us,kw⟩)).depth=A.depth+1:=by
 first|rfl|simp[Around.under,Code.weight,Code.isCreation,Code.isGuard,Code.isCaller,Code.frames,Code.isFrame,guardIds]
theorem Xk{A:Around}{C:Addr}{us:List Value}{kw:List (Str×Value)}:(A.under (.builtin "type.__call__" ⟨.ref C::us,kw⟩)).units=A.units+1:=by
 first|rfl|simp[Around.under,Code.cUnits,Code.frames,Code.isFrame]
theorem cI.make{k:Nat}{A:Around}(r:cI (k+1) A)(C:Addr)(us:List Value)(kw:List (Str×Value)):cI k (A.under (.builtin "type.__call__" ⟨.ref C::us,kw⟩)):=
 ⟨r.hd,by have:=r.dp;rw[Xj];omega,by have:=r.un;rw[Xk];omega⟩
theorem cI.depth{k:Nat}{A:Around}(r:cI k A):A.depth<recursionLimit:=by have:=r.dp;omega
theorem cI.units{k:Nat}{A:Around}(r:cI k A):A.units+64<cLine:=by have:=r.un;omega
theorem cI.O6{k:Nat}{A:Around}(r:cI k A):A.units<cLine:=by have:=r.un;omega
def O4:TA:=fun _ H Q=>Q [] H
def xH(ta:TE)(tr:TA):TA:=fun σ H Q=>ta σ H fun x H1=>tr σ H1 fun xs H2=>Q (x::xs) H2
section
variable{X:Cx}{e:Expr}{es:List Expr}{te:TE}{t:TA}{pos:Pos}
theorem aq:PA X [] O4:=fun _ _ _ _ H Q I h=>Calls.spliced_nil ⟨[],H,I,.nil,h⟩
theorem aj(ha:PE X e te)(hr:PA X es t)(hs:starEach (e::es) X.env=(false,eval e X.env)::starEach es X.env:=by rfl):PA X (e::es) (xH te t):=by
 intro pos pins s σ H Q I h
 rw[hs]
 show wpAny _ _ (spliced ((false,eval e X.env)::backTo pos (starEach es X.env))) _ _ s
 refine Calls.spliced_cons (jk (ha pins s σ H _ I h) fun u s1 ⟨x,H1,I1,r1,q1⟩=>?_)
 exact jk (hr pos pins s1 σ H1 _ I1 q1) fun us s2 ⟨xs,H2,I2,r2,q2⟩=>⟨x::xs,H2,I2,.cons r1 r2,q2⟩
def ao3(t:TA):TE:=fun σ H Q=>t σ H fun xs H1=>xs.length<=dM/\∀p,H1 p=none->Q (.ref p) (upd H1 p (.tup xs))
def afU(t:TA):TE:=fun σ H Q=>t σ H fun xs H1=>xs.length<=dM/\∀p,H1 p=none->Q (.ref p) (upd H1 p (.lst xs))
theorem iy{x1}(h:PA X es t):PE X (.Tuple es x1 pos) (ao3 t):=by
 intro pins s σ H Q I hq
 refine wpAny_Tuple_spliced (jk (h pos pins s σ H _ I hq) fun us s1 ⟨xs,H1,I1,r,z,q⟩=>⟨by rw[<-r.length];exact z,?_⟩)
 have hf:H1 s1.heap.objs.size=none:=I1.hok.fresh (cF _)
 refine⟨.ref s1.heap.objs.size,upd H1 s1.heap.objs.size (.tup xs),I1.laid (t':=s1.toks) (fun b u e=>jW _ e) (cF _) ?_,rfl,q _ hf⟩
 exact⟨z,us,r,⟨_,uc _ rfl,rfl,_,rfl⟩⟩
theorem bL(h:PA X es t):PE X (.List es pos) (afU t):=by
 intro pins s σ H Q I hq
 refine wpAny_List_spliced (jk (h pos pins s σ H _ I hq) fun us s1 ⟨xs,H1,I1,r,z,q⟩=>⟨by rw[<-r.length];exact z,?_⟩)
 have hf:H1 s1.heap.objs.size=none:=I1.hok.fresh (cF _)
 refine⟨.ref s1.heap.objs.size,upd H1 s1.heap.objs.size (.lst xs),I1.laid (t':=s1.toks) (fun b u e=>jW _ e) (cF _) ?_,rfl,q _ hf⟩
 exact⟨z,us,0,r,uc _ rfl⟩
end
abbrev Sp:=List V->Hp->VK->XK->Prop
abbrev Y5:=List Env->Hp->Shared->XK->Value->Shared->Prop
structure Wg(P:Program)(w:World)(K:bw)(mg:Str->Option Value)(base:Heap)(A:Around)(outer:List Env)(s:Shared)(H:Hp):Prop where
 frames:A.frames=some outer
 mod:Mod K mg base
 bs:∀b o,base.get? b=some o->s.heap.get? b=some o/\H b=none
 bsz:base.objs.size<=s.heap.objs.size
 Fj:s.heap.FunFrames base outer
 frf:∀b∈frs outer,H b=none
 hok:xO P w H s.heap
 bare:AllBare s.gens
def CE(outer:List Env)(P:Program)(w:World)(H:Hp)(s:Shared)(Q:VK)(u:Value)(s':Shared):Prop:=
 ∃v H',s'.os=s.os/\AllBare s'.gens/\Un (frs outer) [] H H' s.heap s'.heap/\xO P w H' s'.heap/\RelV v u/\Q v H'
def CR(CX:Y5)(outer:List Env)(P:Program)(w:World)(H:Hp)(s:Shared)(Q:VK)(E:XK)(r:Result)(s':Shared):Prop:=
 match r with
 | .ok (.ret u)=>CE outer P w H s Q u s'
 | .ok _=>False
 | .error e=>CX outer H s E e s'
structure Fg(P:Program)(w:World)(K:bw)(mg:Str->Option Value)(base:Heap)(CX:Y5)(k:Nat)(f:Addr)(fd:FuncData)(ps:List Str)(sp:Sp):Prop where
 len:∀vs H Q E,sp vs H Q E->vs.length=ps.length
 run:∀(A:Around) (outer:List Env) (s:Shared) (H:Hp) (args:Args) (us:List Value) (vs:List V) (Q:VK) (E:XK),cI k A->Wg P w K mg base A outer s H->BindsTo s fd args (ps.zip us)->Vals vs us->sp vs H Q E->
  codeAny (model P w) A (.call (.ref f) args) (CR CX outer P w H s Q E) s
theorem Wg.make{P:Program}{w:World}{K:bw}{mg:Str->Option Value}{base:Heap}{A:Around}{outer:List Env}{s:Shared}{H:Hp}(e:Wg P w K mg base A outer s H)(C:Addr)(us:List Value)(kw:List (Str×Value)):
  Wg P w K mg base (A.under (.builtin "type.__call__" ⟨.ref C::us,kw⟩)) outer s H:=⟨by first|exact e.frames|(simpa [Around.under,Code.envs,Code.isFrame,pushEnvs] using e.frames),e.mod,e.bs,e.bsz,e.Fj,e.frf,e.hok,e.bare⟩
section
variable{X:Cx}{pins:List (Addr×Obj)}{σ:St}{H:Hp}{s s':Shared}
theorem Inv.env0(I:Inv X pins σ H s):Wg X.prog X.w X.K X.mg X.base X.A X.stack s H:=
 ⟨I.ok.frames,I.ok.mod,I.bs,mR I.ok.bsz I.sz,I.stack,I.Lr,I.hok,I.bare⟩
theorem Inv.after{Q:VK}{u:Value}(I:Inv X pins σ H s)(h:CE X.stack X.prog X.w H s Q u s'):EP X pins σ Q u s':=by
 obtain⟨v,H',os,bare,un,hok,r,q⟩:=h
 obtain⟨hh,g,d,t,os'⟩:=s'
 obtain rfl:os'=s.os:=os
 exact⟨v,H',I.call (h':=hh) (g':=g) (d':=d) (t':=t) (ch:=[]) un hok bare (fun b z=>absurd z (by simp)),r,q⟩
end
def Rw(sp:Sp)(UG:List V)(E:XK)(t:TA):TE:=fun σ H Q=>t σ H fun vs H1=>sp (vs++UG) H1 Q E
def aep(C:Addr)(sp:Sp)(UG:List V)(E:XK)(t:TA):TE:=fun σ H Q=>t σ H fun vs H1=>∀x dx,H1 x=none->H1 dx=none->dx≠x->
 sp (.ref x::(vs++UG)) (upd (upd H1 dx (.own x)) x (.ins C dx [])) (fun v H2=>v= .non/\Q (.ref x) H2) E
def Binds(K:bw)(fd:FuncData)(ps:List Str)(ds:List Value):Prop:=
 ∀(s:Shared) (us:List Value),K.In s.heap->(us++ds).length=ps.length->BindsTo s fd ⟨us,[]⟩ (ps.zip (us++ds))
theorem Binds.all{K:bw}{fd:FuncData}{ps:List Str}(h:∀us:List Value,us.length=ps.length->bindArgs fd ⟨us,[]⟩=pure (ps.zip us)):Binds K fd ps []:=fun s us _ hl=>by
 rw[vI] at hl ⊢
 exact .of_eq (h us hl)
def Passes(CX:Y5)(X:Cx)(E:XK):Prop:=∀(pins:List (Addr×Obj)) (σ:St) (H:Hp) (s:Shared) (e:Value) (s':Shared),Inv X pins σ H s->CX X.stack H s E e s'->X.xe e s'
section
variable{X:Cx}{CX:Y5}{k:Nat}{f C:Addr}{fd:FuncData}{ps:List Str}{sp:Sp}{UG:List V}{ds:List Value}{E:XK}{x m:Str}{p pos apos:Pos}{e o:Expr}{es:List Expr}{ta:TE}{t:TA}
theorem acd{pins:List (Addr×Obj)}{σ:St}{H:Hp}{s:Shared}{Q:VK}{us:List Value}{vs:List V}(F:Fg X.prog X.w X.K X.mg X.base CX k f fd ps sp)(hr:cI k X.A)(hb:Binds X.K fd ps ds)(hd:Vals UG ds)(hx:Passes CX X E)
  (I:Inv X pins σ H s)(r:Vals vs us)(h:sp (vs++UG) H Q E):wpAny (model X.prog X.w) X.A (call (.ref f) us) (EP X pins σ Q) X.xe s:=by
 have r2:Vals (vs++UG) (us++ds):=r.append hd
 have hl:(us++ds).length=ps.length:=by rw[<-r2.length];exact F.len _ _ _ _ h
 refine wpAny_call (codeAny_mono (F.run X.A X.stack s H ⟨us,[]⟩ (us++ds) (vs++UG) Q E hr I.env0 (hb s us I.R7 hl) r2 h) fun r s' hq=>?_)
 cases r with
 |error e=>exact hx pins σ H s e s' I hq
 |ok fl=>
  cases fl with
  |ret u=>exact I.after hq
  |next=>exact False.elim hq
  |brk=>exact False.elim hq
  |cont=>exact False.elim hq
theorem aA(F:Fg X.prog X.w X.K X.mg X.base CX k f fd ps sp)(hr:cI k X.A)(hg:Gl X x)(hm:X.mg x=some (.ref f))(hk:Qo X.K (.ref f)=true)(hb:Binds X.K fd ps ds)(hd:Vals UG ds)(hx:Passes CX X E)
  (ha:PA X (e::es) t)(hdb:(x==("__debug__":Str))=false:=by decide)(he:starEach (e::es) X.env=(false,eval e X.env)::starEach es X.env:=by rfl)(hpl:(backTo pos (starEach es X.env)).any (·.1)=false:=by rfl):
  PE X (.Call (.Name x p) (e::es) [] pos) (Rw sp UG E t):=by
 intro pins s σ H Q I h
 refine wpAny_Call_Name_kw (Hx I hg hm ?_ hdb)
 refine PySem.W.callWith_K (h₀:=X.base) I.ok.mod.kin hk (jk (ha pos pins s σ H _ I h) fun us s1 ⟨vs,H1,I1,r,q⟩=>⟨I1.R7,?_⟩) he hpl
 exact acd F hr hb hd hx I1 r q
structure Mk(K:bw)(C f:Addr):Prop where
 makes:PySem.W.makesIn K C=true
 init:Qn K (.ref C) "__init__"=some (some (.ref f))
 fn:PySem.W.isFn K (.ref f)=true
 kp:Qo K (.ref C)=true
theorem VP{pins:List (Addr×Obj)}{σ:St}{H:Hp}{s:Shared}{Q:VK}{us:List Value}{vs:List V}(M:Mk X.K C f)(F:Fg X.prog X.w X.K X.mg X.base CX k f fd ps sp)(hr:cI (k+1) X.A)(hb:Binds X.K fd ps ds)(hd:Vals UG ds)
  (hx:Passes CX X E)(I:Inv X pins σ H s)(r:Vals vs us)
  (h:∀x dx,H x=none->H dx=none->dx≠x->sp (.ref x::(vs++UG)) (upd (upd H dx (.own x)) x (.ins C dx [])) (fun v H2=>v= .non/\Q (.ref x) H2) E):
  wpAny (model X.prog X.w) X.A (call (.ref C) us) (EP X pins σ Q) X.xe s:=by
 have hq:=h (s.heap.objs.size+1) s.heap.objs.size (I.hok.fresh (Nat.le_succ _)) (I.hok.fresh (cF _)) (rR (Ug _))
 have I2:=Inv.made (C:=C) I
 have r2:Vals (V.ref (s.heap.objs.size+1)::(vs++UG)) (Value.ref (s.heap.objs.size+1)::(us++ds)):= .cons rfl (r.append hd)
 have hl:(Value.ref (s.heap.objs.size+1)::us++ds).length=ps.length:=by
  have e:=r2.length
  rw[F.len _ _ _ _ hq] at e
  exact e.symm
 refine wpAny_call (abM (f:=f) I.R7 M.makes M.init (beq_iff_eq.mp M.fn) (codeAny_mono (F.run _ X.stack _ _ ⟨Value.ref (s.heap.objs.size+1)::us,[]⟩ (Value.ref (s.heap.objs.size+1)::(us++ds)) _ _ E (hr.make C us [])
  (I2.env0.make C us []) (hb _ (Value.ref (s.heap.objs.size+1)::us) I2.R7 hl) r2 hq) fun r s' hq'=>?_))
 cases r with
 |error e=>exact hx pins σ _ _ e s' I2 hq'
 |ok fl=>
  cases fl with
  |ret u=>
   obtain⟨v,H',I3,rv,ev,q3⟩:=I2.after hq'
   subst ev
   exact⟨rv,⟨V.ref (s.heap.objs.size+1),H',I3,rfl,q3⟩⟩
  |next=>exact False.elim hq'
  |brk=>exact False.elim hq'
  |cont=>exact False.elim hq'
theorem j5(M:Mk X.K C f)(F:Fg X.prog X.w X.K X.mg X.base CX k f fd ps sp)(hr:cI (k+1) X.A)(hg:Gl X x)(hm:X.mg x=some (.ref C))(hb:Binds X.K fd ps ds)(hd:Vals UG ds)(hx:Passes CX X E)
  (ha:PA X (e::es) t)(hdb:(x==("__debug__":Str))=false:=by decide)(he:starEach (e::es) X.env=(false,eval e X.env)::starEach es X.env:=by rfl)(hpl:(backTo pos (starEach es X.env)).any (·.1)=false:=by rfl):
  PE X (.Call (.Name x p) (e::es) [] pos) (aep C sp UG E t):=by
 intro pins s σ H Q I h
 refine wpAny_Call_Name_kw (Hx I hg hm ?_ hdb)
 refine PySem.W.callWith_K (h₀:=X.base) I.ok.mod.kin M.kp (jk (ha pos pins s σ H _ I h) fun us s1 ⟨vs,H1,I1,r,q⟩=>⟨I1.R7,?_⟩) he hpl
 exact VP M F hr hb hd hx I1 r q
theorem ab0(M:Mk X.K C f)(F:Fg X.prog X.w X.K X.mg X.base CX k f fd ps sp)(hr:cI (k+1) X.A)(hg:Gl X x)(hm:X.mg x=some (.ref C))(hb:Binds X.K fd ps ds)(hd:Vals UG ds)(hx:Passes CX X E)
  (hdb:(x==("__debug__":Str))=false:=by decide):PE X (.Call (.Name x p) [] [] pos) (aep C sp UG E O4):=by
 intro pins s σ H Q I h
 refine wpAny_Call_Name_kw (Hx I hg hm ?_ hdb)
 exact PySem.W.callWith_K0 I.R7 M.kp (VP (us:=[]) M F hr hb hd hx I .nil h)
end
def PK(X:Cx)(kws:List Keyword)(t:TA):Prop:=
 ∀(pos:Pos) (pins:List (Addr×Obj)) (s:Shared) (σ:St) (H:Hp) (Q:List V->Hp->Prop),Inv X pins σ H s->t σ H Q->wpAny (model X.prog X.w) X.A (evalAll ((backToKw pos (keywordEach kws X.env)).map (·.2))) (AP X pins σ Q) X.xe s
section
variable{X:Cx}{CX:Y5}{k:Nat}{f C:Addr}{fd:FuncData}{ps ks:List Str}{sp:Sp}{E:XK}{x m:Str}{p pos apos kpos:Pos}{e o:Expr}{es:List Expr}{kws:List Keyword}{te ta:TE}{t tk:TA}{nm:Option Str}
theorem afq:PK X [] O4:=fun _ _ _ _ H Q I h=>wpAny_evalAll_nil ⟨[],H,I,.nil,h⟩
theorem adM(ha:PE X e te)(hr:PK X kws t):PK X (⟨nm,e,kpos⟩::kws) (xH te t):=by
 intro pos pins s σ H Q I h
 show wpAny _ _ (evalAll ((do let v<-eval e X.env;standAt pos;pure v)::(backToKw pos (keywordEach kws X.env)).map (·.2))) _ _ s
 refine wpAny_evalAll_cons (aR (jk (ha pins s σ H _ I h) fun u s1 ⟨x,H1,I1,r1,q1⟩=>aR (wpAny_standAt (bW ?_))))
 exact jk (hr pos pins s1 σ H1 _ I1 q1) fun us s2 ⟨xs,H2,I2,r2,q2⟩=>⟨x::xs,H2,I2,.cons r1 r2,q2⟩
variable{g:List Value->List Value->List Value}{gV:List V->List V->List V}
end
structure aM(N P:List Str)(sc:Scope):Prop where
 kind:sc.kind= .function
 co:sc.isCoroutine=false
 gen:sc.isGenerator=false
 nd:N.Nodup
 pre:N.take P.length=P
 par:∀x∈P,sc.names.lookup x=some .local\/sc.names.lookup x=some .cell
 afc:∀y∈sc.names,y.2≠ .free
theorem QC{kindOf:Str->Option NameKind}{x:Str}:∀{binds:List (Str×Value)} {m:Str->Option Value},(∀v,(x,v)∉binds)->bindL kindOf binds m x=m x
 |[],_,_=>rfl
 |(n,v)::r,m,h=>by
  unfold bindL
  rw[QC fun w hw=>h w (dU _ hw)]
  split
  .have:x≠n:=by rintro rfl;exact h v fY
   simp[this]
  .rfl
theorem Qz{kindOf:Str->Option NameKind}{x:Str}:∀{binds:List (Str×Value)} {m:Str->Option Value},(∀v,(x,v)∉binds)->bindC kindOf binds m x=m x
 |[],_,_=>rfl
 |(n,v)::r,m,h=>by
  unfold bindC
  rw[Qz fun w hw=>h w (dU _ hw)]
  split
  .rfl
  .have:x≠n:=by rintro rfl;exact h v fY
   simp[this]
theorem QB{kindOf:Str->Option NameKind}{x:Str}{v:Value}:∀{P:List Str} {vs:List Value} {i:Nat} {m:Str->Option Value},P.Nodup->P[i]? =some x->vs[i]? =some v->kindOf x=some .local->
  bindL kindOf (P.zip vs) m x=some v
 |[],_,_,_,_,h,_,_=>by simp at h
 |_::_,[],_,_,_,_,h,_=>by simp at h
 |p::P,w::vs,0,m,nd,h1,h2,hk=>by
  simp at h1 h2;subst h1;subst h2
  show bindL kindOf ((p,w)::P.zip vs) m p=_
  unfold bindL
  rw[QC fun v hv=>(Qp.mp nd).1 (List.of_mem_zip hv).1,if_pos hk]
  simp
 |p::P,w::vs,i+1,m,nd,h1,h2,hk=>by
  show bindL kindOf ((p,w)::P.zip vs) m x=_
  unfold bindL
  exact QB (i:=i) (Qp.mp nd).2 (by simpa using h1) (by simpa using h2) hk
theorem Qy{kindOf:Str->Option NameKind}{x:Str}{v:Value}:∀{P:List Str} {vs:List Value} {i:Nat} {m:Str->Option Value},P.Nodup->P[i]? =some x->vs[i]? =some v->kindOf x≠some .local->
  bindC kindOf (P.zip vs) m x=some v
 |[],_,_,_,_,h,_,_=>by simp at h
 |_::_,[],_,_,_,_,h,_=>by simp at h
 |p::P,w::vs,0,m,nd,h1,h2,hk=>by
  simp at h1 h2;subst h1;subst h2
  show bindC kindOf ((p,w)::P.zip vs) m p=_
  unfold bindC
  rw[Qz fun v hv=>(Qp.mp nd).1 (List.of_mem_zip hv).1,if_neg hk]
  simp
 |p::P,w::vs,i+1,m,nd,h1,h2,hk=>by
  show bindC kindOf ((p,w)::P.zip vs) m x=_
  unfold bindC
  exact Qy (i:=i) (Qp.mp nd).2 (by simpa using h1) (by simpa using h2) hk
def start(N:List Str)(vs:List V):St:=vs.map some++List.replicate (N.length-vs.length) none
def Zv(CX:Y5)(P:Program)(w:World)(K:bw)(mg:Str->Option Value)(base:Heap)(N:List Str)(qual:Str)(scope:Scope)(f:Addr)(cd:Value)(A:Around)(outer:List Env)(s:Shared)(H:Hp)(E:XK):Cx where
 prog:=P
 w:=w
 K:=K
 mg:=mg
 base:=base
 A:=A.deeper (envOfC qual scope s.heap.objs.size f cd)
 N:=N
 Gz:=s
 H_0:=H
 env:=envOfC qual scope s.heap.objs.size f cd
 outer:=outer
 stack:=envOfC qual scope s.heap.objs.size f cd::outer
 ex:=[]
 calm:=true
 fn:=fun _=>true
 pn:=[]
 xe:=fun e s'=>wpAny (model P w) (A.deeper (envOfC qual scope s.heap.objs.size f cd)) (leaving (envOfC qual scope s.heap.objs.size f cd) e) (fun _ s''=>CX outer H s E e s'') (fun e' s''=>CX outer H s E e' s'') s'
theorem Uu{sc:Scope}{n:Nat}{x:Str}(h:sc.names.lookup x=some .cell):∃c,(cellsFrom n sc.names []).lookup x=some c:=by
 have q:=PySem.W.cellsFrom_some sc.names n [] (.inl h)
 exact Qq.mp q
theorem ZX{CX:Y5}{P:Program}{w:World}{K:bw}{mg:Str->Option Value}{base:Heap}{N ps:List Str}{qual:Str}{scope:Scope}{f:Addr}{cd:Value}{A:Around}{outer:List Env}{s s1:Shared}{H:Hp}{E:XK}{us:List Value}{vs:List V}
  (S:aM N ps scope)(hd:A.handled=none)(e0:Wg P w K mg base A outer s H)(hl:vs.length=ps.length)(r:Vals vs us)
  (x:InCallC s s.heap.objs.size (bindL (envOfC qual scope s.heap.objs.size f cd).kindOf (ps.zip us) fun _=>none) (cellsFrom (s.heap.objs.size+1) scope.names []) (bindC (envOfC qual scope s.heap.objs.size f cd).kindOf (ps.zip us) fun _=>none) s1):
  Inv (Zv CX P w K mg base N qual scope f cd A outer s H E) [] (start N vs) H s1:=by
 have hpl:ps.length<=N.length:=by have:=congrArg List.length S.pre;rw[lR] at this;omega
 obtain⟨h1,tk,rfl,hk⟩:=x.done
 have noA:∀b:Addr,b∉(Zv CX P w K mg base N qual scope f cd A outer s H E).ex:=fun b z=>absurd (show b∈([]:List Addr) from z) (by simp)
 refine⟨⟨e0.mod,S.kind,rfl,rfl,cF _,fun y z c h1 h2=>?_,fun y hy=>?_,fun y c _ h=>?_,fun _=>hd,Around.frames_deeper e0.frames,.inr ⟨rfl,rfl⟩,fun b z=>absurd z (noA b),e0.bs,e0.bsz,fun b _ _=>noA b,fun b z=>absurd z (noA b),e0.Fj,e0.frf⟩,
  rfl,e0.bare,Un.kept hk,⟨_,x.toInCall.ns,fun i y v h1 h2 h3=>?_⟩,fun y c h=>⟨_,x.cell y c h⟩,e0.hok.fresh (cF _),fun y c h=>?_,fun p hp=>absurd (show p∈([]:List (Addr×Obj)) from hp) (by simp),e0.hok.kept hk,?_⟩
 .exact name_of_addr x.apart (qG h1) (qG h2)
 .have hy:scope.names.lookup y=some .cell\/scope.names.lookup y=some .free:=hy
  rcases hy with hy|hy
  .exact Uu hy
  .exact absurd rfl (S.afc _ (qG hy))
 .exact qz (x.above y c (qG h))
 .have hi:i<vs.length:=by
   unfold start at h2
   by_cases hi:i<vs.length
   .exact hi
   .rw[List.getElem?_append_right (by simpa using hi)] at h2
    rw[List.getElem?_replicate] at h2
    split at h2<;>cases h2
  have ha:vs[i]? =some v:=by
   unfold start at h2
   rw[List.getElem?_append_left (by simpa using hi),gw] at h2
   cases e:vs[i]? with
   |none=>rw[e] at h2;cases h2
   |some a=>rw[e] at h2;cases h2;rfl
  obtain⟨u,hu,rv⟩:=r.get ha
  have hp:ps[i]? =some y:=by
   rw[<-S.pre,List.getElem?_take_of_lt (by omega)];exact h1
  have ndP:ps.Nodup:=by rw[<-S.pre];exact S.nd.sublist (List.take_sublist _ _)
  refine⟨u,rv,?_⟩
  rcases S.par y (fZ hp) with k|k
  .exact .inl ⟨k,QB ndP hp hu k⟩
  .obtain⟨c,e⟩:=Uu (n:=s.heap.objs.size+1) k
   refine .inr ⟨.inl k,c,e,?_⟩
   have q:=x.cell y c e
   rw[Qy ndP hp hu (by show scope.names.lookup y≠_;rw[k];decide)] at q
   exact q
 .exact e0.hok.fresh (qz (x.above y c (qG h)))
 .unfold start
  show _=N.length
  rw[dN,aW,List.length_replicate]
  omega
theorem aeh{CX:Y5}{P:Program}{w:World}{K:bw}{mg:Str->Option Value}{base:Heap}{k:Nat}{f:Addr}{name qual:Str}{params:Arguments}{body:List Stmt}{scope:Scope}{dV kV doc pm cdv ct oc:Value}{an od:Option Addr}
  {osl:Array (Option Value)}{N ps:List Str}{sp:Sp}(lk:K.lookup f=some ⟨oc,od,.func (Lz name qual params body scope dV kV doc pm an cdv ct),osl⟩)(hcd:PySem.W.codeIn K cdv qual=true)(S:aM N ps scope)
  (len:∀vs H Q E,sp vs H Q E->vs.length=ps.length)
  (hbody:∀(A:Around) (outer:List Env) (s:Shared) (H:Hp) (vs:List V) (Q:VK) (E:XK),cI k (A.deeper (envOfC qual scope s.heap.objs.size f cdv))->sp vs H Q E->
   ∃t,Zo (Zv CX P w K mg base N qual scope f cdv A outer s H E) body t/\t {nx:=fun _ H'=>Q .non H',rt:=Q} (start N vs) H):
  Fg P w K mg base CX (k+1) f (Lz name qual params body scope dV kV doc pm an cdv ct) ps sp:=by
 refine⟨len,fun A outer s H args us vs Q E hr e0 hb r hsp=>?_⟩
 have hl:=len _ _ _ _ hsp
 have KX:K.In s.heap:=e0.mod.kin.keeps fun b o e=>(e0.bs b o e).1
 have lim:s.heap.NoLimit:=e0.mod.nolimit.keeps fun b o e=>(e0.bs b o e).1
 have hkind:∀y∈ps.zip us,scope.names.lookup y.1=some .local\/(scope.names.lookup y.1=some .cell/\((cellsFrom (s.heap.objs.size+1) scope.names []).lookup y.1).isSome=true):=fun⟨n,v⟩ hy=>by
  rcases S.par n (List.of_mem_zip hy).1 with q|q
  .exact .inl q
  .exact .inr ⟨q,PySem.W.cellsFrom_some _ _ _ (.inl q)⟩
 refine codeAny_call_function hr.depth (KX _ _ lk) rfl S.co S.gen rfl (PySem.W.codeRec_of KX hcd) (hb _ _ _ _ ?_)
 refine wpAny_newFunctionEnv_cells S.kind hkind fun env he s1 x=>?_
 subst he
 refine⟨lim.keeps x.toInCall.keep,codeAny_func ?_⟩
 obtain⟨t,ht,hq⟩:=hbody A outer s H vs Q E (hr.deeper _) hsp
 have I:Inv (Zv CX P w K mg base N qual scope f cdv A outer s H E) [] (start N vs) H s1:=ZX S hr.hd e0 hl r x
 refine qF (ht [] s1 (start N vs) H _ I hq) (fun fl s' hs=>?_) fun e s' hs=>hs
 have fin:∀{σ':St} {H':Hp} {v:V} {u:Value},Inv (Zv CX P w K mg base N qual scope f cdv A outer s H E) [] σ' H' s'->RelV v u->Q v H'->CE outer P w H s Q u s':=
  fun{σ' H' v u} J rv q=>⟨v,H',J.os,J.bare,J.base,J.hok,rv,q⟩
 cases fl with
 |ret u=>
  obtain⟨v,σ',H',J,rv,q⟩:=hs
  exact fin J rv q
 |next=>
  obtain⟨σ',H',J,q⟩:=hs
  exact fin (v:=V.non) (u:=Value.none) J rfl q
 |brk=>
  obtain⟨_,_,_,q⟩:=hs
  exact False.elim q
 |cont=>
  obtain⟨_,_,_,q⟩:=hs
  exact False.elim q
section
variable{X:Cx}{x:Str}{p pos:Pos}{e:Expr}{es:List Expr}{t:TA}{id T:String}{r:List V->Hp->VK->Prop}
def tCB(r:List V->Hp->VK->Prop)(t:TA):TE:=fun σ H Q=>t σ H fun vs H1=>r vs H1 Q
theorem bZ(hc:yR X (.builtin id) r)(hg:Gl X x)(hm:X.mg x=none)(hv:bootBuiltins x=some (.builtin id))(ha:PA X (e::es) t)(hn:x≠"__name__":=by decide)(hdb:(x==("__debug__":Str))=false:=by decide)
  (he:starEach (e::es) X.env=(false,eval e X.env)::starEach es X.env:=by rfl)(hpl:(backTo pos (starEach es X.env)).any (·.1)=false:=by rfl):PE X (.Call (.Name x p) (e::es) [] pos) (tCB r t):=by
 intro pins s σ H Q I h
 refine wpAny_Call_Name_kw (Sh I hg hm hv ?_ hn hdb)
 exact PyProof.Rows.callWith_builtin1 (jk (ha pos pins s σ H _ I h) fun us s1 ⟨vs,H1,I1,r1,q1⟩=>hc pins s1 σ H1 vs us Q I1 r1 q1) he hpl
theorem jy(hc:yR X (.type T) r)(hg:Gl X x)(hm:X.mg x=none)(hv:bootBuiltins x=some (.type T))(ha:PA X (e::es) t)(hn:x≠"__name__":=by decide)(hdb:(x==("__debug__":Str))=false:=by decide)
  (he:starEach (e::es) X.env=(false,eval e X.env)::starEach es X.env:=by rfl)(hpl:(backTo pos (starEach es X.env)).any (·.1)=false:=by rfl):PE X (.Call (.Name x p) (e::es) [] pos) (tCB r t):=by
 intro pins s σ H Q I h
 refine wpAny_Call_Name_kw (Sh I hg hm hv ?_ hn hdb)
 exact PyProof.Rows.callWith_type1 (jk (ha pos pins s σ H _ I h) fun us s1 ⟨vs,H1,I1,r1,q1⟩=>hc pins s1 σ H1 vs us Q I1 r1 q1) he hpl
end
end L2
namespace HT
open PySem PyProof.Rows
def lexLt:List Int->List Int->Bool
 |[],[]=>false
 |[],_::_=>true
 |_::_,[]=>false
 |x::xs,y::ys=>if x=y then lexLt xs ys else decide (x<y)
theorem zR(x y:Int)(xs ys:List Int):lexLt (x::xs) (y::ys)=if x=y then lexLt xs ys else decide (x<y):=rfl
theorem Eu:lexLt [] []=false:=rfl
theorem Cq(y:Int)(ys:List Int):lexLt [] (y::ys)=true:=rfl
theorem Cp(x:Int)(xs:List Int):lexLt (x::xs) []=false:=rfl
theorem UT(A:Around)(s:Shared)(a:Int)(t:Tok)(c:Int)(u:Tok):∃e,SeqAt.EqAt A s (.int a t) (.int c u) e/\(e=true↔a=c):=
 ⟨(a==c),SeqAt.EqAt.int_int a t c u,by simp⟩
theorem ab9(A:Around)(s:Shared)(a:Int)(t:Tok)(c:Int)(u:Tok)(prog:Program)(w:World)(E:Value->Shared->Prop)(Q:Value->Shared->Prop)(h:Q (.bool (decide (a<c))) s):
  wpAny (model prog w) A (richCompare .Lt (.int a t) (.int c u)) Q E s:=
 (PyProof.Rows.lt_int h:wpAny (model prog w) A (compareOp .Lt (.int a t) (.int c u)) Q E s)
section
open PySem.SeqAt
open PySem.AutoSeq1 (wpAny_loadPart')
open PySem.MeetsSeq PySem.MeetsSeq2 PySem.MeetsSeq3
theorem Ql(l b:Addr)(items items2:Array Value)(n n2:Nat)(dd dd2:Option Addr)(sl sl2:Array (Option Value))(ns ms:List Int)(hi:IntsAre items.toList ns)(hj:IntsAre items2.toList ms):
  Meets (Builtin.«tuple.__lt__» ⟨[.ref l,.ref b],[]⟩)
   (fun _ R s=>s.heap.get? l=some {cls:= .type "tuple",dict:=dd,data:= .seq items n,slots:=sl}/\s.heap.get? b=some {cls:= .type "tuple",dict:=dd2,data:= .seq items2 n2,slots:=sl2}/\
    R (.ok (.ret (.bool (lexLt ns ms)))) s):=
 .of_wp fun prog w A R s h=>by
  obtain⟨hp,g,d,tk,os⟩:=s;obtain⟨hl,hb,h⟩:=h
  have f2:=AutoSeq1.sub_tuple_tuple
  have z1:items.size=ns.length:=by rw[<-hi.length];simp
  have z2:items2.size=ms.length:=by rw[<-hj.length];simp
  wp_walk using wpAny_loadPart' hl,wpAny_loadPart' hb,wpAny_forIn_list _ (fun rest b s'=>b.1=none/\s'=⟨hp,g,d,tk,os⟩/\∃(vs ws:List Value) (ns' Z6:List Int),rest=vs.zip ws/\
   IntsAre vs ns'/\IntsAre ws Z6/\ns'.length+items2.size=Z6.length+items.size/\R (.ok (.ret (.bool (lexLt ns' Z6)))) ⟨hp,g,d,tk,os⟩) _
  case turn=>
   rintro⟨y,x⟩ rest b s' ⟨hb',rfl,vs,ws,ns',Z6,hz,hvi,hwi,hlen,hR⟩
   cases hvi with
   |nil=>rw[List.zip_nil_left] at hz;cases hz
   |cons a t ae0=>
    cases hwi with
    |nil=>rw[List.zip_nil_right] at hz;cases hz
    |cons c u ae1=>
     rw[List.zip_cons_cons] at hz
     injection hz with hyx hrest
     injection hyx with hy hx
     subst hy hx
     rw[zR] at hR
     simp only[pD] at hlen
     obtain⟨e,he,hiff⟩:=UT A.in1 ⟨hp,g,d,tk,os⟩ a t c u
     refine aR (he prog w _ _ ?_)
     cases e with
     |true=>
      rw[if_pos (hiff.mp rfl)] at hR
      wp_walk
      exact⟨rfl,rfl,_,_,_,_,hrest,ae0,ae1,by omega,hR⟩
     |false=>
      rw[if_neg (fun q=>absurd (hiff.mpr q) iY)] at hR
      have hri:=ab9 A.in1 ⟨hp,g,d,tk,os⟩ a t c u prog w
      wp_walk using hri
      exact⟨_,rfl,by simpa using hR⟩
  case fin=>
   rintro⟨b1,b2⟩ s' ⟨hb',rfl,vs,ws,ns',Z6,hz,hvi,hwi,hlen,hR⟩
   simp only at hb'
   subst hb'
   have hv:lexLt ns' Z6=decide (items.size<items2.size):=by
    cases hvi with
    |nil=>
     cases hwi with
     |nil=>
      simp only[BJ] at hlen
      rw[Eu]
      exact(decide_eq_false (by omega)).symm
     |cons c u hw=>
      simp only[BJ,pD] at hlen
      rw[Cq]
      exact(decide_eq_true (by omega)).symm
    |cons a t hv=>
     cases hwi with
     |nil=>
      simp only[BJ,pD] at hlen
      rw[Cp]
      exact(decide_eq_false (by omega)).symm
     |cons c u hw=>
      rw[List.zip_cons_cons] at hz
      cases hz
   rw[hv] at hR
   wp_walk
   exact⟨_,rfl,by simpa [Builtin.Tuple.tupleCompareSizes] using hR⟩
  case h=>
   exact⟨rfl,rfl,items.toList,items2.toList,ns,ms,rfl,hi,hj,by omega,h⟩
end
section
variable{prog:Program}{w:World}{A:Around}{E:Value->Shared->Prop}{s:Shared}
theorem Xi{l b:Addr}{items items2:Array Value}{ns ms:List Int}{Q:Value->Shared->Prop}(hl:IsTup s.heap l items)(hb:IsTup s.heap b items2)(hi:IntsAre items.toList ns)(hj:IntsAre items2.toList ms)
  (hu:A.units<cLine)(h:Q (.bool (lexLt ns ms)) s):wpAny (model prog w) A (compareOp .Lt (.ref l) (.ref b)) Q E s:=by
 obtain⟨⟨cls,dd,data,sl⟩,ho,hc,n,hd⟩:=id hl
 obtain⟨⟨cls2,dd2,data2,sl2⟩,ho2,hc2,n2,hd2⟩:=id hb
 simp only at hc hd hc2 hd2
 subst hc hd hc2 hd2
 exact richCompare_meets_room (op:= .Lt) ⟨_,ho,rfl⟩ ⟨_,ho2,rfl⟩ PySem.F.slot_tuple_lt PySem.F.entry_tuple_lt (PySem.F.args_tuple_lt_2 _ _) (Ql l b items items2 n n2 dd dd2 sl sl2 ns ms hi hj)
  ⟨ho,ho2,show Value.bool (lexLt ns ms)≠Value.notImplemented/\Q (.bool (lexLt ns ms)) s from⟨(fun x=>nomatch x),h⟩⟩ hu
def sW(n d:Nat):Option Int->Nat
 |none=>d
 |some v=>if v<0 then(v+(n:Int)).toNat else min v.toNat n
theorem VR(n d:Nat):sW n d none=d:=rfl
theorem rB(n d k:Nat):sW n d (some (k:Int))=min k n:=by
 show(if(k:Int)<0 then((k:Int)+(n:Int)).toNat else min (k:Int).toNat n)=min k n
 rw[if_neg (by omega),Int.toNat_natCast]
theorem afv(n d:Nat)(hd:d<=n)(o:Option Int):sW n d o<=n:=by
 cases o with
 |none=>exact hd
 |some v=>
  show(if v<0 then(v+(n:Int)).toNat else min v.toNat n)<=n
  by_cases hv:v<0
  .rw[if_pos hv];omega
  .rw[if_neg hv];exact Nat.min_le_right _ _
theorem X_(v:Int)(n d:Nat):(if v<0 then max (v+(n:Int)) 0 else min v (n:Int))=((sW n d (some v):Nat):Int):=by
 show(if v<0 then max (v+(n:Int)) 0 else min v (n:Int))=(((if v<0 then(v+(n:Int)).toNat else min v.toNat n):Nat):Int)
 by_cases hv:v<0
 .simp only[if_pos hv];omega
 .simp only[if_neg hv];omega
theorem Wx(lo hi:Option Int)(n:Nat):Builtin.Slice.sliceAdjust lo hi 1 (n:Int)=(((sW n 0 lo:Nat):Int),((sW n n hi:Nat):Int)):=by
 have h1:¬((1:Int)<0):=by omega
 unfold Builtin.Slice.sliceAdjust
 simp only[h1,if_false]
 refine Prod.ext ?_ ?_
 .cases lo with
  |none=>rfl
  |some v=>exact X_ v n 0
 .cases hi with
  |none=>rfl
  |some v=>exact X_ v n n
theorem Xz(i j:Nat):Builtin.Slice.slicePlaces (i:Int) (j:Int) 1=j-i:=by
 unfold Builtin.Slice.slicePlaces
 have h1:(1:Int)>0:=by omega
 simp only[h1,if_true,Int.ediv_one]
 split<;>omega
theorem OJ{v:Value}{o:Option Int}{Q:Option Int->Shared->Prop}(p:IsPart v o)(h:Q o s):wpAny (model prog w) A (Builtin.Slice.slicePartIndex v) Q E s:=by
 cases p with
 |none=>exact slicePart_none h
 |int i t=>exact slicePart_int h
theorem JB{sl:Addr}{vl vu:Value}{lo hi:Option Int}{n:Nat}{Q:Int×Int×Nat->Shared->Prop}(hs:s.heap.IsSliceOf sl vl vu .none)(pl:IsPart vl lo)(pu:IsPart vu hi)
  (h:Q (((sW n 0 lo:Nat):Int),1,sW n n hi-sW n 0 lo) s):wpAny (model prog w) A (Builtin.Slice.sliceApplied (.ref sl) (pure (n:Int))) Q E s:=by
 obtain⟨os,hos,hcs,hds⟩:=id hs
 unfold Builtin.Slice.sliceApplied Builtin.Slice.sliceFields
 refine aR (aR (wpAny_field hos hds (x:=vl) rfl (aR (wpAny_field hos hds (x:=vu) rfl (aR (wpAny_field hos hds (x:= .none) rfl (bW ?_)))))))
 refine aR (slicePart_none ?_)
 show wpAny _ _ (if((1:Int)==0)=true then _ else _) _ _ s
 rw[if_neg (by decide)]
 refine aR (OJ pl (aR (OJ pu (aR (bW ?_)))))
 show wpAny _ _ (match Builtin.Slice.sliceAdjust lo hi 1 (n:Int) with|(lo,hi)=>pure (lo,(1:Int),Builtin.Slice.slicePlaces lo hi 1)) _ _ s
 rw[Wx lo hi n]
 show wpAny _ _ (pure (((sW n 0 lo:Nat):Int),(1:Int),Builtin.Slice.slicePlaces ((sW n 0 lo:Nat):Int) ((sW n n hi:Nat):Int) 1)) _ _ s
 rw[Xz]
 exact bW h
theorem ab2(xs:Array Value)(i k:Nat):((List.range k).filterMap fun(m:Nat)=>xs[((i:Int)+(m:Int)*1).toNat]?).toArray=((xs.toList.drop i).take k).toArray:=by
 have e:(fun(m:Nat)=>xs[((i:Int)+(m:Int)*1).toNat]?)=fun m=>xs[i+m]? :=by
  funext m
  have:((i:Int)+(m:Int)*1).toNat=i+m:=by omega
  rw[this]
 rw[e]
 have:=pick_run xs i k
 rw[List.filterMap_map] at this
 have e2:((fun x=>xs[x]?)∘fun x=>i+x)=fun m=>xs[i+m]? :=rfl
 rw[e2] at this
 rw[this]
theorem Hs{t sl:Addr}{items:Array Value}{vl vu:Value}{lo hi:Option Int}{Q:Value->Shared->Prop}(ht:IsTup s.heap t items)(hs:s.heap.IsSliceOf sl vl vu .none)(pl:IsPart vl lo)(pu:IsPart vu hi)
  (hw:¬(sW items.size 0 lo=0/\sW items.size items.size hi=items.size))
  (h:Q (.ref s.heap.objs.size) {s with heap:=s.heap.push {cls:= .type "tuple",data:= .seq ((items.toList.drop (sW items.size 0 lo)).take (sW items.size items.size hi-sW items.size 0 lo)).toArray}})
  (hsz:items.size<=dM):wpAny (model prog w) A (getItem (.ref t) (.ref sl)) Q E s:=by
 have Yn:sizeOk (.seq ((items.toList.drop (sW items.size 0 lo)).take (sW items.size items.size hi-sW items.size 0 lo)).toArray):=by
  show((items.toList.drop (sW items.size 0 lo)).take (sW items.size items.size hi-sW items.size 0 lo)).toArray.size<=dM
  rw[iG,lR,qm,Array.length_toList]
  omega
 have hj:sW items.size items.size hi<=items.size:=afv _ _ (cF _) hi
 obtain⟨os,hos,hcs,hds⟩:=id hs
 have hTs:s.TypeIs (.ref sl) "slice":=⟨os,hos,hcs⟩
 unfold getItem
 try with_reducible refine wpAny_holding ?_
 first|refine aR (bW ?_)|skip
 refine aR (wpAny_sequenceKey ht.typeIs (by decide) ?_)
 refine aR (wpAny_callSpecial?_slot (name:=GJ "__getitem__") ht.typeIs PyProof.Rows.slot_tuple_getitem
  (wpAny_call_entry PyProof.Rows.slot_tuple_getitem ht.typeIs entry_tuple_getitem ?_ (args_tuple_getitem _ _)))
 show wpAny _ _ (Builtin.Tuple.tupleItemsOf (.ref t)>>=_) _ _ s
 refine aR (tupleItemsOf_ ht ?_)
 refine aR (wpAny_typeOf hTs ?_)
 rw[if_pos (by decide)]
 refine aR (JB hs pl pu ?_)
 have hno:¬((((sW items.size 0 lo:Nat):Int)==0&&(1:Int)==1&&(sW items.size items.size hi-sW items.size 0 lo)==items.size)=true):=by
  intro q
  rw[lB,lB] at q
  have q1:((sW items.size 0 lo:Nat):Int)=0:=eq_of_beq q.1.1
  have q2:sW items.size items.size hi-sW items.size 0 lo=items.size:=eq_of_beq q.2
  exact hw ⟨by omega,by omega⟩
 show wpAny _ _ (if(((sW items.size 0 lo:Nat):Int)==0&&(1:Int)==1&&(sW items.size items.size hi-sW items.size 0 lo)==items.size)=true then _ else _) _ _ s
 rw[if_neg hno,ab2]
 first
  |exact aR (m:=Builtin.Tuple.tupleExact _) (wpAny_newObj_type (bW ⟨_,rfl,bW h⟩) Yn)
  |exact aR (m:=Builtin.Tuple.tupleExact _) (wpAny_newObj_type (aR (bW (bW ⟨_,rfl,bW h⟩))) Yn)
  |exact aR (aR (m:=Builtin.Tuple.tupleExact _) (wpAny_newObj_type (bW (bW ⟨_,rfl,bW h⟩)) Yn))
  |exact aR (aR (m:=Builtin.Tuple.tupleExact _) (wpAny_newObj_type (bW ⟨_,rfl,bW h⟩) Yn))
end
end HT
namespace L2
open PySem PySem.Spec PyProof.Rows
abbrev TO:=St->Hp->(Option Int->Hp->Prop)->Prop
def PO(X:Cx)(e:Option Expr)(t:TO):Prop:=
 ∀(pins:List (Addr×Obj)) (s:Shared) (σ:St) (H:Hp) (Q:Option Int->Hp->Prop),Inv X pins σ H s->t σ H Q->
  wpAny (model X.prog X.w) X.A (evalPart e X.env) (fun u s'=>∃o H',Inv X pins σ H' s'/\IsPart u o/\Q o H') X.xe s
def ad9:TO:=fun _ H Q=>Q none H
def agX(t:TE):TO:=fun σ H Q=>t σ H fun x H1=>∃i,x= .int i/\Q (some i) H1
theorem intsAre_of{ns:List Int}:∀{us:List Value},Vals (ns.map V.int) us->IntsAre us ns:=by
 induction ns with
 |nil=>intro us r;rw[GK] at r;cases r;exact .nil
 |cons n ns ih=>
  intro us r
  rw[cU] at r
  cases r with
  |cons r1 r2=>
   obtain⟨t,e⟩:=r1
   subst e
   exact .cons n t (ih r2)
section
variable{X:Cx}{e:Expr}{te:TE}{lo hi:Option Expr}{tl th:TO}{pos p2:Pos}
theorem Ib:PO X none ad9:=by
 intro pins s σ H Q I h
 rw[evalPart_none]
 exact bW ⟨none,H,I,.none,h⟩
theorem gJ(h:PE X e te):PO X (some e) (agX te):=by
 intro pins s σ H Q I hw
 rw[evalPart_some]
 refine jk (h pins s σ H _ I hw) fun u s1 ⟨x,H1,I1,r1,q1⟩=>?_
 obtain⟨i,rfl,q⟩:=q1
 obtain⟨t,rfl⟩:=r1
 exact⟨some i,H1,I1,.int i t,q⟩
def SlR(X:Cx)(r:V->Option Int->Option Int->Hp->VK->Prop):Prop:=
 ∀(pins:List (Addr×Obj)) (s:Shared) (σ:St) (H:Hp) (x:V) (v vl vu:Value) (lo hi:Option Int) (sl:Addr) (Q:VK),Inv X pins σ H s->RelV x v->s.heap.IsSliceOf sl vl vu .none->IsPart vl lo->IsPart vu hi->r x lo hi H Q->
  ∃T id,typeLookup (.type T) "__getitem__"=pure (some (.builtin id))/\s.TypeIs v T/\wpAny (model X.prog X.w) X.A (getItem v (.ref sl)) (EP X pins σ Q) X.xe s
def tSl(r:V->Option Int->Option Int->Hp->VK->Prop)(te:TE)(tl th:TO):TE:=fun σ H Q=>te σ H fun x H1=>tl σ H1 fun l H2=>th σ H2 fun u H3=>r x l u H3 Q
theorem k_{r:V->Option Int->Option Int->Hp->VK->Prop}(hr:SlR X r)(he:PE X e te)(hl:PO X lo tl)(hu:PO X hi th):PE X (.Subscript e (.Slice lo hi none p2) pos) (tSl r te tl th):=by
 intro pins s σ H Q I h
 refine Subscript_ (jk (he pins s σ H _ I h) fun v s1 ⟨x,H1,I1,r1,q1⟩=>?_)
 refine wpAny_Slice (jk (hl pins s1 σ H1 _ I1 q1) fun vl s2 ⟨l,H2,I2,pl,q2⟩=>jk (hu pins s2 σ H2 _ I2 q2) fun vu s3 ⟨u,H3,I3,pu,q3⟩=>?_)
 rw[evalPart_none]
 refine bW ?_
 have I4:Inv X pins σ H3 {s3 with heap:=s3.heap.push {cls:= .type "slice",data:= .fields #[vl,vu,.none]}}:=I3.kept (t':=s3.toks) fun b ob q=>jW _ q
 obtain⟨T,id,hT,ht,hg⟩:=hr pins {s3 with heap:=s3.heap.push {cls:= .type "slice",data:= .fields #[vl,vu,.none]}} σ H3 x v vl vu l u s3.heap.objs.size Q I4 r1 (Heap.IsSliceOf.new ..) pl pu q3
 show wpAny (model X.prog X.w) X.A (subscriptTail e (.Slice lo hi none p2) v (.ref s3.heap.objs.size)) (EP X pins σ Q) X.xe {s3 with heap:=s3.heap.push {cls:= .type "slice",data:= .fields #[vl,vu,.none]}}
 exact tail_any (ops:=[.ref s3.heap.objs.size,v]) ht hT hg (by with_unfolding_all rfl)
def yZ(xs:List V)(lo hi:Option Int):List V:=(xs.drop (HT.sW xs.length 0 lo)).take (HT.sW xs.length xs.length hi-HT.sW xs.length 0 lo)
theorem JW(xs:List V)(lo hi:Option Int):(yZ xs lo hi).length<=xs.length:=by
 unfold yZ
 rw[lR,qm]
 omega
def aoN(K:bw):V->Option Int->Option Int->Hp->VK->Prop:=fun x lo hi H Q=>∃a xs,x= .ref a/\eV K H a xs/\
 ¬(HT.sW xs.length 0 lo=0/\HT.sW xs.length xs.length hi=xs.length)/\∀p,H p=none->Q (.ref p) (upd H p (.tup (yZ xs lo hi)))
theorem acg:SlR X (aoN X.K):=by
 intro pins s σ H x v vl vu lo hi sl Q I rx hs pl pu h
 obtain⟨a,xs,rfl,hx,hw,q⟩:=h
 cases rx
 obtain⟨its,r,ht,hz⟩:=I.tuple hx
 have hlen:its.toArray.size=xs.length:=by rw[iG];exact r.length.symm
 refine⟨"tuple",_,PyProof.Rows.slot_tuple_getitem.lookup,ht.typeIs,?_⟩
 refine HT.Hs ht hs pl pu (by rw[hlen];exact hw) ?_ (by rw[hlen];exact hz)
 rw[hlen]
 refine⟨.ref s.heap.objs.size,_,I.laid (t':=s.toks) (o:= .tup (yZ xs lo hi)) (fun b ob q=>jW _ q) (cF _) ?_,rfl,q _ (I.hok.fresh (cF _))⟩
 exact⟨mR (JW xs lo hi) hz,_,(r.drop (HT.sW xs.length 0 lo)).take (HT.sW xs.length xs.length hi-HT.sW xs.length 0 lo),IsTup.new _ _⟩
inductive af7(K:bw)(x:V)(y:V)(H:Hp)(Q:VK):Prop
 |mk (a:_) (b:_) (ns:_) (ms:_) (lq:x= .ref a) (hh1:y= .ref b) (nY:eV K H a (ns.map V.int)) (hh3:eV K H b (ms.map V.int)) (wO:Q (.bl (HT.lexLt ns ms)) H)
def aoJ(K:bw):R2:=fun x y H Q=>af7 K x y H Q
theorem Tc(hu:X.A.units<cLine):Gw X (compareOp .Lt) (aoJ X.K):=by
 intro pins s σ H x y v u Q I rx ry h
 obtain⟨a,b,ns,ms,rfl,rfl,ha,hb,q⟩:=h
 cases rx
 cases ry
 obtain⟨its,r1,p1,_⟩:=I.tuple ha
 obtain⟨its2,r2,p2,_⟩:=I.tuple hb
 have i1:IntsAre its.toArray.toList ns:=intsAre_of r1
 have i2:IntsAre its2.toArray.toList ms:=intsAre_of r2
 exact HT.Xi p1 p2 i1 i2 hu ⟨.bl (HT.lexLt ns ms),H,I,rfl,q⟩
end
def ixN(n:Nat)(i:Int):Option Nat:=if 0<=i then(if i<n then some i.toNat else none) else if-(n:Int)<=i then some (i+n).toNat else none
def O_{α:Type}(xs:List α)(i:Int):Option α:=(ixN xs.length i).bind fun j=>xs[j]?
theorem Ys{n:Nat}{i:Int}{j:Nat}(h:ixN n i=some j):seqIndex? i n=some j/\j<n/\ -(n:Int)<=i/\i<n:=by
 unfold ixN at h
 by_cases h0:0<=i
 .rw[if_pos h0] at h
  by_cases h1:i<n
  .rw[if_pos h1] at h
   have e:i.toNat=j:=dJ h
   exact⟨by rw[seqIndex_of h0 h1,e],by omega,by omega,h1⟩
  .rw[if_neg h1] at h;cases h
 .rw[if_neg h0] at h
  by_cases h1: -(n:Int)<=i
  .rw[if_pos h1] at h
   have e:(i+n).toNat=j:=dJ h
   exact⟨by rw[seqIndex_neg (by omega) h1,e],by omega,h1,by omega⟩
  .rw[if_neg h1] at h;cases h
theorem Ld{α:Type}{xs:List α}{i:Int}{v:α}(h:O_ xs i=some v):∃j,seqIndex? i xs.length=some j/\xs[j]? =some v/\j<xs.length/\ -(xs.length:Int)<=i/\i<xs.length:=by
 unfold O_ at h
 cases e:ixN xs.length i with
 |none=>rw[e] at h;cases h
 |some j=>
  rw[e] at h
  obtain⟨h1,h2,h3,h4⟩:=Ys e
  exact⟨j,h1,h,h2,h3,h4⟩
theorem uZ{α:Type}{xs:List α}{j:Nat}{v:α}(h:xs[j]? =some v):O_ xs (j:Int)=some v:=by
 have hj:j<xs.length:=(gn.mp h).1
 have e:ixN xs.length (j:Int)=some j:=by
  unfold ixN
  rw[if_pos (by omega),if_pos (by omega)];simp
 unfold O_;rw[e];exact h
theorem G9{α:Type}(xs:List α)(v:α):O_ (xs++[v]) (-1)=some v:=by
 have hl:(xs++[v]).length=xs.length+1:=by simp
 have e:ixN (xs++[v]).length (-1)=some xs.length:=by
  unfold ixN
  rw[hl,if_neg (by decide),if_pos (by omega)]
  congr 1
  omega
 unfold O_
 rw[e]
 show(xs++[v])[xs.length]? =some v
 simp
def ac0(b:Expr):Prop:=∀o i,subscripted b false o i=operate [o,i] (getItem o i)
def IxR(X:Cx)(r:R2):Prop:=
 ∀(value slice:Expr) (pins:List (Addr×Obj)) (s:Shared) (σ:St) (H:Hp) (x y:V) (v u:Value) (Q:VK),Inv X pins σ H s->RelV x v->RelV y u->r x y H Q->
  subscripted slice false v u=operate [v,u] (getItem v u)->wpAny (model X.prog X.w) X.A (subscriptTail value slice v u) (EP X pins σ Q) X.xe s
def MtR(X:Cx)(id:String)(r:V->List V->Hp->VK->Prop):Prop:=
 ∀(pins:List (Addr×Obj)) (s:Shared) (σ:St) (H:Hp) (x:V) (xs:List V) (v:Value) (us:List Value) (Q:VK),Inv X pins σ H s->RelV x v->Vals xs us->r x xs H Q->
  wpAny (model X.prog X.w) X.A (call (.builtin id) (v::us)) (EP X pins σ Q) X.xe s
section
variable{X:Cx}{a b:Expr}{ta tb:TE}{pos:Pos}
theorem IxR.or{r r':R2}(h:IxR X r)(h':IxR X r'):IxR X (fun x y H Q=>r x y H Q\/r' x y H Q):=by
 intro value slice pins s σ H x y v u Q I rx ry q hs
 rcases q with q|q
 .exact h value slice pins s σ H x y v u Q I rx ry q hs
 .exact h' value slice pins s σ H x y v u Q I rx ry q hs
theorem bf{r:R2}(hr:IxR X r)(ha:PE X a ta)(hb:PE X b tb)(hs:ac0 b):PE X (.Subscript a b pos) (tOp r ta tb):=by
 intro pins s σ H Q I h
 exact Subscript_ (aeD ha hb I h fun v u s2 x y H2 I2 rx ry q=>hr a b pins s2 σ H2 x y v u Q I2 rx ry q (hs _ _))
inductive af5(K:bw)(x:V)(y:V)(H:Hp)(Q:VK):Prop
 |mk (p:_) (xs:_) (i:_) (v:_) (lq:x= .ref p) (hh1:y= .int i) (nY:bN K H p xs) (hh3:O_ xs i=some v) (wO:Q v H)
def agG(K:bw):R2:=fun x y H Q=>af5 K x y H Q
inductive af6(K:bw)(x:V)(y:V)(H:Hp)(Q:VK):Prop
 |mk (p:_) (xs:_) (i:_) (v:_) (lq:x= .ref p) (hh1:y= .int i) (nY:eV K H p xs) (hh3:O_ xs i=some v) (wO:Q v H)
def afu(K:bw):R2:=fun x y H Q=>af6 K x y H Q
def agH:R2:=fun x y H Q=>∃z i c,x= .str z/\y= .int i/\z.length<=dM/\O_ z.cps.toList i=some c/\Q (.str ⟨#[c]⟩) H
theorem aU:IxR X (agG X.K):=by
 intro value slice pins s σ H x y v u Q I rx ry h hs
 obtain⟨p,xs,i,z,rfl,rfl,hq,he,q⟩:=h
 cases rx
 obtain⟨t,rfl⟩:=ry
 obtain⟨its,r,pl,hz⟩:=I.list hq
 obtain⟨j,h1,h2,h3,h4,h5⟩:=Ld he
 obtain⟨w,ew,Tr⟩:=r.get h2
 have hl:=r.length
 have hn:=Ft
 have fin:EP X pins σ Q w s:=⟨z,H,I,Tr,q⟩
 by_cases h0:0<=i
 .have hj:i.toNat=j:=by
   rw[seqIndex_of h0 h5] at h1
   exact dJ h1
  exact item_listR pl.isList h0 (by omega) (by rw[hj];simpa using ew) fin hs
 .have hj:(i+(its.toArray.size:Int)).toNat=j:=by
   rw[seqIndex_neg (by omega) h4] at h1
   rw[iG,<-hl]
   exact dJ h1
  exact subscriptTail_builtinR (x:=w) pl.isList.typeIs slot_list_getitem.lookup
   (wpAny_getItem_list_neg (Q:=fun r s'=>r=w/\EP X pins σ Q r s') pl.isList (by omega) (by rw[iG]<;>omega) (by omega) (by rw[hj];simpa using ew) ⟨rfl,fin⟩) hs
theorem fj:IxR X (afu X.K):=by
 intro value slice pins s σ H x y v u Q I rx ry h hs
 obtain⟨p,xs,i,z,rfl,rfl,hq,he,q⟩:=h
 cases rx
 obtain⟨t,rfl⟩:=ry
 obtain⟨its,r,pl,hz⟩:=I.tuple hq
 obtain⟨j,h1,h2,h3,h4,h5⟩:=Ld he
 obtain⟨w,ew,Tr⟩:=r.get h2
 have hl:=r.length
 have hn:=Ft
 have fin:EP X pins σ Q w s:=⟨z,H,I,Tr,q⟩
 exact subscriptTail_builtinR (x:=w) pl.typeIs slot_tuple_getitem.lookup
  (getItem_tuple (j:=j) (Q:=fun r s'=>r=w/\EP X pins σ Q r s') pl (by omega) (by omega) (by rw[iG,<-hl];exact h1) (by simpa using ew) ⟨rfl,fin⟩) hs
theorem ae3:IxR X agH:=by
 intro value slice pins s σ H x y v u Q I rx ry h hs
 obtain⟨z,i,c,rfl,rfl,hz,he,q⟩:=h
 obtain⟨t,rfl⟩:=rx
 obtain⟨t',rfl⟩:=ry
 obtain⟨j,h1,h2,h3,h4,h5⟩:=Ld he
 have hl:z.cps.toList.length=z.length:=by simp[Str.length]
 rw[hl] at h1 h4 h5
 have hn:=Ft
 exact tail_any (typeIs_str s z t) slot_str_getitem.lookup (getItem_str (c:=c) (by
  have e1:decide (i< -(2^63:Int))=false:=decide_eq_false (by omega)
  have e2:decide (i>=2^63)=false:=decide_eq_false (by omega)
  rw[e1,e2,Bool.or_false]) (by rw[h1];simpa using h2) ⟨.str ⟨#[c]⟩,H,I.tok _,⟨_,rfl⟩,q⟩) hs
def rIx(K:bw):R2:=fun x y H Q=>agG K x y H Q\/afu K x y H Q\/agH x y H Q
theorem MJ:IxR X (rIx X.K):=aU.or (fj.or ae3)
theorem Xl(its:List Value)(n j:Nat)(u:Value):kh (·.setIfInBounds j u) {cls:= .type "list",data:= .seq its.toArray n}={cls:= .type "list",data:= .seq (its.set j u).toArray n}:=by
 simp[kh]
theorem Inv.lst{pins:List (Addr×Obj)}{σ:St}{H:Hp}{s:Shared}{p:Addr}{xs:List V}(I:Inv X pins σ H s)(h:H p=some (.lst xs)):
  ∃(its:List Value) (n:Nat),Vals xs its/\s.heap.get? p=some {cls:= .type "list",data:= .seq its.toArray n}/\xs.length<=dM:=by
 obtain⟨z,its,n,r,e⟩:=I.hok p _ h
 exact⟨its,n,r,e,z⟩
theorem Inv.ae_{pins:List (Addr×Obj)}{σ:St}{H:Hp}{s:Shared}{p:Addr}{xs ys:List V}{its its':List Value}{n n':Nat}{f:Obj->Obj}(I:Inv X pins σ H s)(h:H p=some (.lst xs))
  (ho:s.heap.get? p=some {cls:= .type "list",data:= .seq its.toArray n})(hf:f {cls:= .type "list",data:= .seq its.toArray n}={cls:= .type "list",data:= .seq its'.toArray n'})(r:Vals ys its')(hz:ys.length<=dM)(t:Nat):
  Inv X pins σ (upd H p (.lst ys)) {s with heap:=s.heap.update p f,toks:=t}:=by
 have e:(s.heap.update p f).get? p=some {cls:= .type "list",data:= .seq its'.toArray n'}:=by
  rw[Heap.get?_update_self f ho (by rw[hf]<;>rfl),hf]
 refine I.write (x:=p) (e:=p) (by rw[h];trivial) (.inl rfl) (fun b u hb q=>(Heap.get?_update_other _ _ (Ne.symm hb)).trans q) ⟨_,e⟩ ?_
 exact⟨hz,its',n',r,e⟩
def agI:V->V->V->Hp->(Hp->Prop)->Prop:=fun o i v H Q=>∃p xs k j,o= .ref p/\i= .int k/\H p=some (.lst xs)/\ixN xs.length k=some j/\Q (upd H p (.lst (xs.set j v)))
theorem set_list:aga X agI:=by
 intro pins s σ H o i v ov iv u Q I ro ri rv h
 obtain⟨p,xs,k,j,rfl,rfl,hp,hj,q⟩:=h
 cases ro
 obtain⟨t,rfl⟩:=ri
 obtain⟨its,n,r,ho,hz⟩:=I.lst hp
 obtain⟨h1,h2,h3,h4⟩:=Ys hj
 have hl:=r.length
 have hn:=Ft
 have I':Inv X pins σ (upd H p (.lst (xs.set j v))) {s with heap:=s.heap.update p (kh (·.setIfInBounds j u))}:=
  I.ae_ hp ho (Xl its n j u) (r.set rv j) (by rw[List.length_set];exact hz) s.toks
 by_cases h0:0<=k
 .have hk:k.toNat=j:=by
   rw[seqIndex_of h0 h4] at h1
   exact dJ h1
  exact PySem.W.ki_setAt ho h0 (by omega) (by rw[iG,<-hl];exact h4) (by rw[hk];exact⟨_,I',q⟩)
 .have hk:(k+(its.toArray.size:Int)).toNat=j:=by
   rw[seqIndex_neg (by omega) h3] at h1
   rw[iG,<-hl]
   exact dJ h1
  exact PySem.W.ki_setBack ho (by omega) (by rw[iG,<-hl];exact h3) (by omega) (by rw[hk];exact⟨_,I',q⟩)
theorem TX(lo hi:Option Int)(n:Nat):(sliceBounds lo hi none n).1=((HT.sW n 0 lo:Nat):Int)/\(sliceBounds lo hi none n).2.1=((HT.sW n n hi:Nat):Int)/\(sliceBounds lo hi none n).2.2=1:=by
 refine⟨?_,?_,rfl⟩
 .cases lo with
  |none=>simp[sliceBounds,HT.sW]
  |some i=>
   simp only[sliceBounds,HT.sW,Option.getD_none,show(1:Int)>0 by decide,if_true]
   by_cases h:i<0
   .simp only[h,if_true]<;>omega
   .simp only[h,if_false]<;>omega
 .cases hi with
  |none=>simp[sliceBounds,HT.sW]
  |some i=>
   simp only[sliceBounds,HT.sW,Option.getD_none,show(1:Int)>0 by decide,if_true]
   by_cases h:i<0
   .simp only[h,if_true]<;>omega
   .simp only[h,if_false]<;>omega
theorem Qi(its:List Value)(lo hi:Option Int):slicePick its.toArray lo hi none=((its.drop (HT.sW its.length 0 lo)).take (HT.sW its.length its.length hi-HT.sW its.length 0 lo)).toArray:=by
 obtain⟨h1,h2,h3⟩:=TX lo hi its.toArray.size
 unfold slicePick
 rw[h1,h2,h3]
 simp only[sliceRange_one,pick_run,iG]<;>rfl
def aoM(K:bw):V->Option Int->Option Int->Hp->VK->Prop:=fun x lo hi H Q=>∃a xs,x= .ref a/\bN K H a xs/\∀p,H p=none->Q (.ref p) (upd H p (.lst (yZ xs lo hi)))
theorem pQ:SlR X (aoM X.K):=by
 intro pins s σ H x v vl vu lo hi sl Q I rx hs pl pu h
 obtain⟨a,xs,rfl,hx,q⟩:=h
 cases rx
 obtain⟨its,r,ht,hz⟩:=I.list hx
 have hlen:=r.length
 refine⟨"list",_,slot_list_getitem.lookup,ht.isList.typeIs,?_⟩
 refine wpAny_getItem_list_slice ht.isList hs pl pu .none (by simp) ?_ (by rw[iG]<;>omega)
 rw[Qi,<-hlen]
 refine⟨.ref s.heap.objs.size,_,I.laid (t':=s.toks) (o:= .lst (yZ xs lo hi)) (fun b ob q=>jW _ q) (cF _) ?_,rfl,q _ (I.hok.fresh (cF _))⟩
 exact⟨mR (JW xs lo hi) hz,_,0,(r.drop (HT.sW xs.length 0 lo)).take (HT.sW xs.length xs.length hi-HT.sW xs.length 0 lo),uc _ rfl⟩
def Hq:V->Bool
 | .non=>true
 | .bl _=>true
 | .int _=>true
 | .str _=>true
 |_=>false
def eqV:V->V->Bool
 | .non,.non=>true
 | .bl a,.bl b=>a==b
 | .bl a,.int b=>(if a then 1 else 0)==b
 | .int a,.bl b=>a==(if b then 1 else 0)
 | .int a,.int b=>a==b
 | .str a,.str b=>a==b
 |_,_=>false
theorem aeS{A:Around}{s:Shared}{y x:V}{u v:Value}(ry:RelV y u)(rx:RelV x v)(fy:Hq y=true)(fx:Hq x=true):SeqAt.EqAt A s u v (eqV y x):=by
 cases y with
 |non=>
  cases ry
  cases x with
  |non=>cases rx;exact SeqAt.EqAt.same _
  |bl b=>cases rx;exact SeqAt.EqAt.none_bool b
  |int b=>obtain⟨t,rfl⟩:=rx;exact SeqAt.EqAt.none_int b t
  |str b=>obtain⟨t,rfl⟩:=rx;exact SeqAt.EqAt.none_str b t
  |_=>exact absurd (show false=true from fx) iY
 |bl a=>
  cases ry
  cases x with
  |non=>cases rx;exact SeqAt.EqAt.bool_none a
  |bl b=>cases rx;exact SeqAt.EqAt.bool_bool a b
  |int b=>obtain⟨t,rfl⟩:=rx;exact SeqAt.EqAt.bool_int a b t
  |str b=>obtain⟨t,rfl⟩:=rx;exact SeqAt.EqAt.bool_str a b t
  |_=>exact absurd (show false=true from fx) iY
 |int a=>
  obtain⟨t',rfl⟩:=ry
  cases x with
  |non=>cases rx;exact SeqAt.EqAt.int_none a t'
  |bl b=>cases rx;exact SeqAt.EqAt.int_bool a t' b
  |int b=>obtain⟨t,rfl⟩:=rx;exact SeqAt.EqAt.int_int a t' b t
  |str b=>obtain⟨t,rfl⟩:=rx;exact SeqAt.EqAt.int_str a t' b t
  |_=>exact absurd (show false=true from fx) iY
 |str a=>
  obtain⟨t',rfl⟩:=ry
  cases x with
  |non=>cases rx;exact SeqAt.EqAt.str_none a t'
  |bl b=>cases rx;exact SeqAt.EqAt.str_bool a t' b
  |int b=>obtain⟨t,rfl⟩:=rx;exact SeqAt.EqAt.str_int a t' b t
  |str b=>obtain⟨t,rfl⟩:=rx;exact SeqAt.EqAt.str_str a t' b t
  |_=>exact absurd (show false=true from fx) iY
 |_=>exact absurd (show false=true from fy) iY
def WT(x:V)(u:Value):Bool:=match u with
 | .none=>eqV .non x
 | .bool b=>eqV (.bl b) x
 | .int i _=>eqV (.int i) x
 | .str z _=>eqV (.str z) x
 |_=>false
theorem abg{x y:V}{u:Value}(r:RelV y u)(f:Hq y=true):WT x u=eqV y x:=by
 cases y with
 |non=>cases r;rfl
 |bl b=>cases r;rfl
 |int i=>obtain⟨t,rfl⟩:=r;rfl
 |str z=>obtain⟨t,rfl⟩:=r;rfl
 |_=>exact absurd (show false=true from f) iY
theorem GZ{x:V}:∀{xs:List V} {us:List Value},Vals xs us->xs.all Hq=true->us.any (WT x)=xs.any fun y=>eqV y x
 |_,_,.nil,_=>rfl
 |y::xs,u::us,.cons r t,f=>by
  rw[List.all_cons,lB] at f
  rw[GP,GP,abg r f.1,GZ t f.2]
theorem Cu{A:Around}{s:Shared}{x:V}{v:Value}(rx:RelV x v)(fx:Hq x=true):∀{xs:List V} {us:List Value},Vals xs us->xs.all Hq=true->∀u∈us,SeqAt.EqAt A s u v (WT x u)
 |_,_,.nil,_=>fun u hu=>by cases hu
 |y::xs,u::us,.cons r t,f=>fun u' hu=>by
  rw[List.all_cons,lB] at f
  rcases bU.mp hu with rfl|hu
  .rw[abg r f.1];exact aeS r rx f.1 fx
  .exact Cu rx fx t f.2 u' hu
def inV(x:V)(xs:List V):Bool:=xs.any fun y=>eqV y x
def rIn(K:bw)(neg:Bool):R2:=fun x y H Q=>∃p xs,y= .ref p/\(bN K H p xs\/eV K H p xs)/\Hq x=true/\xs.all Hq=true/\Q (.bl (if neg then !inV x xs else inV x xs)) H
theorem Eb:Gw X (compareOp .In) (rIn X.K false):=by
 intro pins s σ H x y v u Q I rx ry h
 obtain⟨p,xs,rfl,hq,fx,fs,q⟩:=h
 cases ry
 rcases hq with hq|hq
 .obtain⟨its,r,pl,hz⟩:=I.list hq
  refine SeqAt.in_listAt (WT x) pl.isList (fun w hw=>Cu rx fx r fs w (by simpa using hw)) ⟨.bl _,H,I,rfl,?_⟩
  rw[show its.toArray.any (WT x)=its.any (WT x) by simp,GZ r fs]
  exact q
 .obtain⟨its,r,pl,hz⟩:=I.tuple hq
  refine SeqAt.in_tupleAt (WT x) pl (fun w hw=>Cu rx fx r fs w (by simpa using hw)) ⟨.bl _,H,I,rfl,?_⟩
  rw[show its.toArray.any (WT x)=its.any (WT x) by simp,GZ r fs]
  exact q
theorem zX:Gw X (compareOp .NotIn) (rIn X.K true):=by
 intro pins s σ H x y v u Q I rx ry h
 obtain⟨p,xs,rfl,hq,fx,fs,q⟩:=h
 cases ry
 rcases hq with hq|hq
 .obtain⟨its,r,pl,hz⟩:=I.list hq
  refine SeqAt.notIn_listAt (WT x) pl.isList (fun w hw=>Cu rx fx r fs w (by simpa using hw)) ⟨.bl _,H,I,rfl,?_⟩
  rw[show its.toArray.any (WT x)=its.any (WT x) by simp,GZ r fs]
  exact q
 .obtain⟨its,r,pl,hz⟩:=I.tuple hq
  refine SeqAt.notIn_tupleAt (WT x) pl (fun w hw=>Cu rx fx r fs w (by simpa using hw)) ⟨.bl _,H,I,rfl,?_⟩
  rw[show its.toArray.any (WT x)=its.any (WT x) by simp,GZ r fs]
  exact q
theorem bI:yR X (.builtin "len") (fun xs H Q=>∃p ys,xs=[.ref p]/\(bN X.K H p ys\/eV X.K H p ys)/\Q (.int ys.length) H):=by
 intro pins s σ H xs us Q I r h
 obtain⟨p,ys,rfl,hq,q⟩:=h
 obtain⟨u,rfl,rx⟩:=vals1 r
 cases rx
 have hn:=Ft
 rcases hq with hq|hq
 .obtain⟨its,r',pl,hz⟩:=I.list hq
  have hlen:=r'.length
  exact Calls.call_len_list pl.isList (by simp only[iG]<;>omega) ⟨.int ys.length,H,I.tok _,⟨s.toks+1,by rw[iG,hlen]⟩,q⟩
 .obtain⟨its,r',pl,hz⟩:=I.tuple hq
  have hlen:=r'.length
  exact len_tuple pl (by simp only[iG]<;>omega) ⟨.int ys.length,H,I.tok _,⟨s.toks+1,by rw[iG,hlen]⟩,q⟩
theorem RN:yR X (.builtin "len") (fun xs H Q=>∃z,xs=[.str z]/\z.length<=dM/\Q (.int z.length) H):=by
 intro pins s σ H xs us Q I r h
 obtain⟨z,rfl,hz,q⟩:=h
 obtain⟨u,rfl,t,rfl⟩:=vals1 r
 have hn:=Ft
 exact len_str (by omega) ⟨.int z.length,H,I.tok _,⟨_,rfl⟩,q⟩
theorem lD:yR X (.type "list") (fun xs H Q=>∃p ys,xs=[.ref p]/\(bN X.K H p ys\/eV X.K H p ys)/\∀l,H l=none->Q (.ref l) (upd H l (.lst ys))):=by
 intro pins s σ H xs us Q I r h
 obtain⟨p,ys,rfl,hq,q⟩:=h
 obtain⟨u,rfl,rx⟩:=vals1 r
 cases rx
 have fin:∀(its:List Value),Vals ys its->ys.length<=dM->∀(h':Heap) (c':Nat),(∀b o',s.heap.get? b=some o'->h'.get? b=some o')->
   h'.get? s.heap.objs.size=some {cls:= .type "list",dict:=none,data:= .seq its.toArray c',slots:= #[]}->EP X pins σ Q (.ref s.heap.objs.size) {s with heap:=h'}:=fun its r' hz h' c' kp e=>
  ⟨.ref s.heap.objs.size,_,I.laid (t':=s.toks) kp (cF _) (show iC X.prog X.w _ h' _ (.lst ys) from⟨hz,its,c',r',e⟩),rfl,q _ (I.hok.fresh (cF _))⟩
 rcases hq with hq|hq
 .obtain⟨its,r',pl,hz⟩:=I.list hq
  have hlen:=r'.length
  obtain⟨o,ho,hc,n,hd⟩:=pl.isList
  exact call_list_seq p (.inl rfl) ho hc hd (fun h' c' kp e=>fin its r' hz h' c' kp e) (by simp only[iG]<;>omega)
 .obtain⟨its,r',pl,hz⟩:=I.tuple hq
  have hlen:=r'.length
  obtain⟨o,ho,hc,n,hd⟩:=pl
  exact call_list_seq p (.inr rfl) ho hc hd (fun h' c' kp e=>fin its r' hz h' c' kp e) (by simp only[iG]<;>omega)
theorem xV:yR X (.type "tuple") (fun xs H Q=>∃p ys,xs=[.ref p]/\((bN X.K H p ys/\∀l,H l=none->Q (.ref l) (upd H l (.tup ys)))\/(eV X.K H p ys/\Q (.ref p) H))):=by
 intro pins s σ H xs us Q I r h
 obtain⟨p,ys,rfl,h⟩:=h
 obtain⟨u,rfl,rx⟩:=vals1 r
 cases rx
 rcases h with⟨hq,q⟩|⟨hq,q⟩
 .obtain⟨its,r',pl,hz⟩:=I.list hq
  have hlen:=r'.length
  refine call_tuple_list pl.isList (fun h' kp=>?_) (by simp only[iG]<;>omega)
  have I1:Inv X pins σ H {s with heap:=h'}:=I.kept (t':=s.toks) kp
  have I2:Inv X pins σ (upd H h'.objs.size (.tup ys)) {s with heap:=h'.push {cls:= .type "tuple",data:= .seq its.toArray}}:=
   I1.laid (t':=s.toks) (fun b o e=>jW _ e) (cF _) (show iC X.prog X.w _ _ _ (.tup ys) from⟨hz,its,r',IsTup.new _ _⟩)
  exact⟨.ref h'.objs.size,_,I2,rfl,q _ (I1.hok.fresh (cF _))⟩
 .obtain⟨its,r',pl,hz⟩:=I.tuple hq
  exact call_tuple_same pl ⟨.ref p,H,I,rfl,q⟩
def tyV(K:bw)(T:String)(x:V)(H:Hp):Prop:=match x with
 | .str _=>T="str"
 | .int _=>T="int"
 | .ref p=>(T="list"/\∃xs,bN K H p xs)\/(T="tuple"/\∃o,K.lookup p=some o/\o.cls= .type "tuple"/\o.dict=none)\/
   (T="dict"/\((∃kvs,H p=some (.dK kvs))\/∃kvs,H p=some (.dT kvs)))\/(T="set"/\∃S n,H p=some (.set S n))
 |_=>False
theorem acC{pins:List (Addr×Obj)}{σ:St}{H:Hp}{s:Shared}{T:String}{x:V}{v:Value}(I:Inv X pins σ H s)(r:RelV x v)(ty:tyV X.K T x H):
  s.TypeIs v T/\∀a,v= .ref a->∃ob,s.heap.get? a=some ob/\ob.dict=none:=by
 cases x with
 |str z=>
  obtain⟨t,rfl⟩:=r
  cases(show T="str" from ty)
  exact⟨typeIs_str s z t,fun _ e=>nomatch e⟩
 |int i=>
  obtain⟨t,rfl⟩:=r
  cases(show T="int" from ty)
  exact⟨typeIs_int s i t,fun _ e=>nomatch e⟩
 |ref p=>
  cases r
  rcases ty with⟨rfl,xs,hq⟩|⟨rfl,o,hk,hc,hd⟩|⟨rfl,hk⟩|⟨rfl,S,n,hk⟩
  .obtain⟨its,_,pl,_⟩:=I.list hq
   refine⟨pl.isList.typeIs,fun a e=>?_⟩
   cases e
   obtain⟨o,n,e,c,hd,_⟩:=pl
   exact⟨o,e,hd⟩
  .refine⟨⟨o,I.R7 p o hk,hc⟩,fun a e=>?_⟩
   cases e
   exact⟨o,I.R7 _ o hk,hd⟩
  .have z:∃o,s.heap.get? p=some o/\o.ExactDict:=by
    rcases hk with⟨kvs,hk⟩|⟨kvs,hk⟩
    .obtain⟨_,_,_,_,o,_,_,e,ex,_⟩:=I.hok p _ hk
     exact⟨o,e,ex⟩
    .obtain⟨_,_,_,_,o,_,_,e,ex,_⟩:=I.hok p _ hk
     exact⟨o,e,ex⟩
   obtain⟨o,e,ex⟩:=z
   refine⟨⟨o,e,ex.1⟩,fun a e2=>?_⟩
   cases e2
   exact⟨o,e,ex.2.1⟩
  .obtain⟨o,_,_,_,e,ex,_⟩:=I.hok p _ hk
   refine⟨⟨o,e,ex.1⟩,fun a e2=>?_⟩
   cases e2
   exact⟨o,e,ex.2.1⟩
 |_=>exact False.elim ty
def aoZ(K:bw)(T:String)(r:V->List V->Hp->VK->Prop)(to:TE):TE:=fun σ H Q=>to σ H fun x H1=>tyV K T x H1/\r x [] H1 Q
def tBM(K:bw)(T:String)(r:V->List V->Hp->VK->Prop)(to:TE)(t:TA):TE:=fun σ H Q=>to σ H fun x H1=>tyV K T x H1/\t σ H1 fun xs H2=>r x xs H2 Q
variable{o e:Expr}{es:List Expr}{to:TE}{t:TA}{name:Str}{apos cpos:Pos}{T id:String}{r:V->List V->Hp->VK->Prop}
theorem afn(pa:PlainAttrs T)(slot:Slot T name id)(hty:typeOf (.builtin id)=pure (.type "method_descriptor"))(hm:MtR X id r)(ho:PE X o to)
  (hbase:attributeBase o name X.env (eval o X.env)=eval o X.env:=by rfl)(hline:(apos.endLine==cpos.line)=true:=by rfl):PE X (.Call (.Attribute o name apos) [] [] cpos) (aoZ X.K T r to):=by
 intro pins s σ H Q I h
 refine wpAny_Call_method0_late hbase hline (jk (ho pins s σ H _ I h) fun v s1 ⟨x,H1,I1,r1,ty,q1⟩=>?_)
 obtain⟨h1,h2⟩:=acC I1 r1 ty
 exact⟨T,id,pa,slot,hty,h1,h2,Calls.callWith_builtin rfl (PySem.evalArgs_none (hm pins s1 σ H1 x [] v [] Q I1 r1 .nil q1))⟩
theorem pM(pa:PlainAttrs T)(slot:Slot T name id)(hty:typeOf (.builtin id)=pure (.type "method_descriptor"))(hm:MtR X id r)(ho:PE X o to)(ha:PA X (e::es) t)
  (hbase:attributeBase o name X.env (eval o X.env)=eval o X.env:=by rfl)
  (hfew:((backTo cpos (starEach (e::es) X.env)).all (fun x=> !x.1)&&(backToKw cpos (keywordEach [] X.env)).all (fun x=>x.1.isSome)
   &&decide ((e::es).length+([]:List Keyword).length+(if([]:List Keyword).isEmpty then 0 else 1)<30))=true:=by rfl)
  (hline:(apos.endLine==cpos.line)=true:=by rfl)(hs:starEach (e::es) X.env=(false,eval e X.env)::starEach es X.env:=by rfl)(hplain:(backTo cpos (starEach es X.env)).any (·.1)=false:=by rfl):
  PE X (.Call (.Attribute o name apos) (e::es) [] cpos) (tBM X.K T r to t):=by
 intro pins s σ H Q I h
 refine wpAny_Call_method_late hbase hfew hline rfl (jk (ho pins s σ H _ I h) fun v s1 ⟨x,H1,I1,r1,ty,q1⟩=>?_)
 obtain⟨h1,h2⟩:=acC I1 r1 ty
 refine⟨T,id,pa,slot,hty,h1,h2,?_⟩
 have hA:=ha cpos pins s1 σ H1 _ I1 q1
 rw[hs] at hA ⊢
 refine Calls.callWith_builtin (by show(false||(backTo cpos (starEach es X.env)).any (·.1))=false;rw[hplain]<;>rfl) (Calls.evalArgs_plain ?_)
 exact jk hA fun us s2 ⟨vs,H2,I2,r2,q2⟩=>hm pins s2 σ H2 x vs v us Q I2 r1 r2 q2
end
def MtM(X:Cx)(id:String)(r:V->List V->Hp->VK->Prop):Prop:=
 ∀(pins:List (Addr×Obj)) (s:Shared) (σ:St) (H:Hp) (x:V) (xs:List V) (v:Value) (us:List Value) (Q:VK),Inv X pins σ H s->RelV x v->Vals xs us->r x xs H Q->
  wpAny (model X.prog X.w) X.A (call (.builtin id) (v::us)) (EP X pins σ Q) X.xe s
theorem Vals.one:∀{x:V} {us:List Value},Vals [x] us->∃u,us=[u]/\RelV x u
 |_,_,.cons r .nil=>⟨_,rfl,r⟩
theorem Vals.zero:∀{us:List Value},Vals [] us->us=[]
 |_,.nil=>rfl
theorem Vals.dropLast{xs:List V}{us:List Value}(h:Vals xs us):Vals xs.dropLast us.dropLast:=by
 induction h with
 |nil=>exact .nil
 |cons r t ih=>
  cases t with
  |nil=>exact .nil
  |cons q t'=>exact .cons r ih
theorem WW{α:Type}(l:List α):l.eraseIdx (l.length-1)=l.dropLast:=by
 induction l with
 |nil=>rfl
 |cons a r ih=>
  cases r with
  |nil=>rfl
  |cons b r=>
   have e:(a::b::r).length-1=((b::r).length-1)+1:=by
    have h1:(a::b::r).length=r.length+2:=rfl
    have h2:(b::r).length=r.length+1:=rfl
    omega
   rw[e,List.eraseIdx_cons_succ,ih]
   all_goals rfl
section
variable{X:Cx}{pins:List (Addr×Obj)}{σ:St}{H:Hp}{s:Shared}{l b:Addr}{xs ys zs:List V}
theorem Inv.adE{its its':List Value}{n:Nat}{f:Array Value->Array Value}{t':Nat}(I:Inv X pins σ H s)(hH:H l=some (.lst xs))
  (e:s.heap.get? l=some {cls:= .type "list",data:= .seq its.toArray n})(hf:f its.toArray=its'.toArray)(hv:Vals ys its')(hz:ys.length<=dM):
  Inv X pins σ (upd H l (.lst ys)) {s with heap:=s.heap.update l (kh f),toks:=t'}:=by
 have q:=PySem.IsL.update e f
 rw[hf] at q
 refine I.write (x:=l) (e:=l) (by rw[hH];exact trivial) (.inl rfl) (fun b' u hb hu=>(Heap.get?_update_other s.heap (kh f) (Ne.symm hb)).trans hu) ⟨_,q⟩ ?_
 exact⟨hz,its',_,hv,q⟩
theorem Inv.aoA{its:List Value}{t':Nat}(I:Inv X pins σ H s)(hv:Vals ys its)(hz:ys.length<=dM):
  Inv X pins σ (upd H s.heap.objs.size (.lst ys)) {s with heap:=s.heap.push {cls:= .type "list",data:= .seq its.toArray},toks:=t'}:=
 I.laid (fun _ _ q=>jW _ q) (cF _) ⟨hz,its,0,hv,uc _ rfl⟩
theorem Inv.fresh(I:Inv X pins σ H s):H s.heap.objs.size=none:=I.hok.fresh (cF _)
theorem Inv.Xh(I:Inv X pins σ H s)(hH:H l=some (.lst xs)):xs.length<=dM/\∃(its:List Value) (n:Nat),Vals xs its/\xs.length=its.length/\s.heap.get? l=some {cls:= .type "list",data:= .seq its.toArray n}:=by
 obtain⟨z,its,n,r,e⟩:=I.hok l _ hH
 exact⟨z,its,n,r,r.length,e⟩
theorem Vo{n:Nat}(h:n<=dM):XX n=false:=by
 unfold XX
 exact decide_eq_false (by omega)
end
section
variable{X:Cx}
inductive aaD(x:V)(vs:List V)(H:Hp)(Q:VK):Prop
 |mk (l:_) (xs:_) (y:_) (lq:x= .ref l) (hh1:vs=[y]) (nY:H l=some (.lst xs)) (hh3:xs.length<dM) (wO:Q .non (upd H l (.lst (xs++[y]))))
def Tj:V->List V->Hp->VK->Prop:=fun x vs H Q=>aaD x vs H Q
theorem jx:MtM X "list.append" Tj:=by
 intro pins s σ H x vs v us Q I rx rv h
 obtain⟨l,xs,y,rfl,rfl,hH,hz,q⟩:=h
 cases rx
 obtain⟨u,rfl,ru⟩:=rv.one
 obtain⟨z,its,n,r,hl,e⟩:=I.Xh hH
 refine call_meets F.slot_list_append ⟨_,e,rfl⟩ F.entry_list_append (F.args_list_append_2 _ _) (PySem.list_append l its.toArray n u (by rw[iG];omega)) ⟨e,?_⟩
 refine⟨.non,_,I.adE (its':=its++[u]) hH e (by simp) (r.append (.cons ru .nil)) ?_,rfl,q⟩
 rw[dN,List.length_singleton]
 omega
def adO:V->List V->Hp->VK->Prop:=fun x vs H Q=>∃l b xs zs,x= .ref l/\vs=[.ref b]/\H l=some (.lst xs)/\H b=some (.lst zs)/\xs.length+zs.length<=dM/\Q .non (upd H l (.lst (xs++zs)))
theorem qx:MtM X "list.extend" adO:=by
 intro pins s σ H x vs v us Q I rx rv h
 obtain⟨l,b,xs,zs,rfl,rfl,hH,hB,hz,q⟩:=h
 cases rx
 obtain⟨u,rfl,ru⟩:=rv.one
 cases ru
 obtain⟨z,its,n,r,hl,e⟩:=I.Xh hH
 obtain⟨z2,its2,n2,r2,hl2,e2⟩:=I.Xh hB
 have hsz:its.toArray.size+its2.toArray.size<=dM:=by rw[iG,iG];omega
 have abx:¬(!its.toArray.isEmpty&&XX (its.toArray.size+its2.toArray.size))=true:=by
  rw[Vo hsz,Bool.and_false]
  exact iY
 refine call_meets F.slot_list_extend ⟨_,e,rfl⟩ F.entry_list_extend (F.args_list_extend_2 _ _)
  (AutoSeq1.list_extend_list_list_0 l its.toArray n b its2.toArray n2 abx (by rw[iG];omega) (by omega)) ⟨e,e2,?_⟩
 refine⟨.non,_,I.adE (its':=its++its2) hH e (by simp) (r.append r2) ?_,rfl,q⟩
 rw[dN]
 omega
def aoL:V->List V->Hp->VK->Prop:=fun x vs H Q=>∃l xs y,x= .ref l/\vs=[]/\H l=some (.lst xs)/\xs[xs.length-1]? =some y/\Q y (upd H l (.lst xs.dropLast))
theorem afa:MtM X "list.pop" aoL:=by
 intro pins s σ H x vs v us Q I rx rv h
 obtain⟨l,xs,y,rfl,rfl,hH,hy,q⟩:=h
 cases rx
 have hus:=rv.zero
 subst hus
 obtain⟨z,its,n,r,hl,e⟩:=I.Xh hH
 obtain⟨u,hu,ru⟩:=r.get hy
 have hy':its.toArray[its.toArray.size-1]? =some u:=by
  show its.toArray[its.length-1]? =some u
  rw[<-Array.getElem?_toList,<-hl]
  exact hu
 refine call_meets F.slot_list_pop ⟨_,e,rfl⟩ F.entry_list_pop (F.args_list_pop_1 _) (MeetsSeq.list_pop_last l its.toArray n u hy' (by rw[iG];omega)) ⟨e,?_⟩
 refine⟨y,_,I.adE (its':=its.dropLast) hH e ?_ r.dropLast ?_,ru,q⟩
 .show its.toArray.eraseIdxIfInBounds (its.toArray.size-1)=its.dropLast.toArray
  rw[iG,List.eraseIdxIfInBounds_toArray,WW]
 .rw[List.length_dropLast]
  omega
inductive af4(x:V)(y:V)(H:Hp)(Q:VK):Prop
 |mk (l:_) (b:_) (xs:_) (zs:_) (lq:x= .ref l) (hh1:y= .ref b) (nY:H l=some (.lst xs)) (hh3:H b=some (.lst zs)) (wO:xs.length+zs.length<=dM) (Eo:∀p,H p=none->Q (.ref p) (upd H p (.lst (xs++zs))))
def agF:R2:=fun x y H Q=>af4 x y H Q
theorem n_:Gw X (binaryOp .Add) agF:=by
 intro pins s σ H x y v u Q I rx ry h
 obtain⟨l,b,xs,zs,rfl,rfl,hH,hB,hz,q⟩:=h
 cases rx
 cases ry
 obtain⟨z,its,n,r,hl,e⟩:=I.Xh hH
 obtain⟨z2,its2,n2,r2,hl2,e2⟩:=I.Xh hB
 refine PySem.P.add_list e e2 ?_ (by rw[iG,iG];omega)
 have ea:its.toArray++its2.toArray=(its++its2).toArray:=by simp
 rw[ea]
 exact⟨.ref _,_,I.aoA (t':=s.toks) (r.append r2) (by rw[dN];omega),rfl,q _ I.fresh⟩
end
theorem Vals.ints:∀{ns:List Int} {us:List Value},Vals (ns.map V.int) us->IntsAre us ns
 |[],us,h=>by
  rw[GK] at h
  cases h
  exact IntsAre.nil
 |n::ns,us,h=>by
  rw[cU] at h
  cases h with
  |cons r t=>
   obtain⟨k,rfl⟩:=r
   exact IntsAre.cons n k (Vals.ints t)
theorem Vals.bls:∀{bs:List Bool} {us:List Value},Vals (bs.map V.bl) us->us=bs.map Value.bool
 |[],us,h=>by
  rw[GK] at h
  cases h
  rfl
 |b::bs,us,h=>by
  rw[cU] at h
  cases h with
  |cons r t=>
   cases r
   rw[Vals.bls t,cU]
theorem Vals.agK{a:Addr}{us:List Value}(r:Vals [V.ref a] us):us=[Value.ref a]:=by
 cases r with
 |cons r t=>
  cases t
  cases r
  rfl
section
variable{prog:Program}{w:World}{A:Around}{E:Value->Shared->Prop}{s:Shared}{l:Addr}{its:List Value}{ns:List Int}{Q:Value->Shared->Prop}
theorem ad7(hh:A.handled=none)(hl:s.heap.IsList l its.toArray)(hi:IntsAre its ns)
  (h:∀h' tk t',(∀b o,s.heap.get? b=some o->h'.get? b=some o)->Q (.int ns.sum t') {s with heap:=h',toks:=tk}):wpAny (model prog w) A (call (.builtin "sum") [.ref l]) Q E s:=by
 obtain⟨xs,e⟩:=hi.allInts.items
 have hn:numsOf (intItems xs).toList=ns:=by rw[<-e];exact hi.numsOf
 rw[nums_intItems] at hn
 rw[e] at hl
 refine PySem.sum_intListG hh hl fun h' tk t' hk=>?_
 have:=h h' tk t' hk
 rw[preSum_eq,List.take_of_length_le (by simp),hn];exact this
end
section
variable{X:Cx}
def aoP(K:bw):List V->Hp->VK->Prop:=fun vs H Q=>∃(a:Addr) (ns:List Int),vs=[V.ref a]/\bN K H a (ns.map V.int)/\Q (.int ns.sum) H
theorem aeG(hc:X.calm=true):yR X (.builtin "sum") (aoP X.K):=by
 intro pins s σ H vs us Q I r h
 obtain⟨a,ns,rfl,hs,q⟩:=h
 obtain⟨its,rv,hl,_⟩:=I.list hs
 rw[Vals.agK r]
 exact ad7 (I.ok.hd hc) hl.isList rv.ints fun h' tk t' hk=>⟨.int _,H,I.kept hk,⟨_,rfl⟩,q⟩
theorem tR{n:Nat}(h:n<64):n<=dM:=by rw[Es];omega
end
theorem abF{prog:Program}{w:World}{A:Around}{E:Value->Shared->Prop}{s:Shared}{l:Addr}{items:Array Value}{Q:Value->Shared->Prop}(hl:s.heap.IsList l items)
  (h:∀s₂:Shared,s₂={s with heap:=s.heap.push {cls:= .type "list_iterator",data:= .fields #[.ref l,.int 0 0]}}->
   (s₂.heap.IsListIter s.heap.objs.size l 0/\s₂.heap.IsList l items)->l≠s.heap.objs.size->Q (.ref s.heap.objs.size) s₂):wpAny (model prog w) A (pyIter (.ref l)) Q E s:=by
 have hlt:l<s.heap.objs.size:=by obtain⟨_,e,_⟩:=hl;exact jZ e
 exact wpAny_pyIter_list hl (h _ rfl ⟨⟨_,uc _ rfl,rfl,rfl⟩,hl.push _⟩ (rR hlt))
theorem V_{prog:Program}{w:World}{A:Around}{bs:List Bool}{its:List Value}(e:its=bs.map Value.bool):
  TruthOf prog w A (fun i v=>its.toArray[i]? =some v) (fun i=>bs.getD i false):=fun i v s Q E hv hq=>by
 have hv':its[i]? =some v:=by simpa using hv
 rw[e,gw] at hv'
 obtain⟨b,hb,rfl⟩:=Option.map_eq_some_iff.mp hv'
 have hg:bs.getD i false=b:=by rw[JN,hb]<;>rfl
 have hq':Q (bs.getD i false) s:=hq
 rw[hg] at hq'
 exact wpAny_truthy_bool hq'
theorem any_range:∀bs:List Bool,(List.range bs.length).any (fun i=>bs.getD i false)=bs.any id
 |[]=>rfl
 |b::bs=>by
  rw[pD,List.range_succ_eq_map,GP,List.any_map,GP,<-any_range bs]
  all_goals rfl
theorem all_range:∀bs:List Bool,(List.range bs.length).all (fun i=>bs.getD i false)=bs.all id
 |[]=>rfl
 |b::bs=>by
  rw[pD,List.range_succ_eq_map,List.all_cons,List.all_map,List.all_cons,<-all_range bs]
  all_goals rfl
section
variable{X:Cx}
def aoG(K:bw):List V->Hp->VK->Prop:=fun vs H Q=>∃(a:Addr) (bs:List Bool),vs=[V.ref a]/\bN K H a (bs.map V.bl)/\Q (.bl (bs.all id)) H
theorem aeF(hc:X.calm=true):yR X (.builtin "all") (aoG X.K):=by
 intro pins s σ H vs us Q I r h
 obtain⟨a,bs,rfl,hs,q⟩:=h
 obtain⟨its,rv,hl,_⟩:=I.list hs
 rw[Vals.agK r]
 have hb:=rv.bls
 refine call_all_walk (abF hl.isList fun s₂ e2 st hne=>?_)
 subst e2
 refine⟨_,_,_,_,_,_,_,rfl,Walks.list (A:=X.A.in1) (I.ok.hd hc) _ a hne its.toArray,st,V_ hb,fun h' tk hk=>?_⟩
 refine⟨.bl _,H,I.kept fun b o eo=>hk b o (fun hmem=>?_) (jW _ eo),?_,q⟩
 .rcases bU.mp hmem with e1|hmem
  .exact absurd (e1▸jZ eo) (RK _)
  .cases hmem
 .show Value.bool _=Value.bool _
  rw[<-all_range,hb,iG,aW]
end
mutual
inductive Dp (K:bw) (H:Hp):V->PyData->Prop
 |non:Dp K H .non .none
 |bl (b:Bool):Dp K H (.bl b) (.bool b)
 |int (i:Int):Dp K H (.int i) (.int i)
 |str (x:Str):Dp K H (.str x) (.str x)
 |lst {a:Addr} {xs:List V} {ds:List PyData}:bN K H a xs->Lx K H xs ds->Dp K H (.ref a) (.list ds)
 |tup {a:Addr} {xs:List V} {ds:List PyData}:eV K H a xs->Lx K H xs ds->Dp K H (.ref a) (.tuple ds)
inductive Lx (K:bw) (H:Hp):List V->List PyData->Prop
 |nil:Lx K H [] []
 |cons {v:V} {vs:List V} {d:PyData} {ds:List PyData}:Dp K H v d->Lx K H vs ds->Lx K H (v::vs) (d::ds)
end
section
variable{X:Cx}{pins:List (Addr×Obj)}{σ:St}{H:Hp}{s:Shared}
mutual
theorem Dp.reads (I:Inv X pins σ H s):∀(d:PyData) (v:V) (u:Value),Dp X.K H v d->RelV v u->∃as,Reads s.heap u d as
 | .none,_,_,h,r=>by
  cases h
  cases r
  exact⟨_,Reads.none⟩
 | .bool b,_,_,h,r=>by
  cases h
  cases r
  exact⟨_,Reads.bool b⟩
 | .int i,_,_,h,r=>by
  cases h
  obtain⟨t,rfl⟩:=r
  exact⟨_,Reads.int i t⟩
 | .str x,_,_,h,r=>by
  cases h
  obtain⟨t,rfl⟩:=r
  exact⟨_,Reads.str x t⟩
 | .list ds,_,_,h,r=>by
  cases h with
  |lst hs ha=>
   cases r
   obtain⟨its,rv,⟨o,n,ho,hc,_,hd⟩,_⟩:=I.list hs
   obtain⟨as,hr⟩:=Dp.readsAll I ds _ its ha rv
   exact⟨_,Reads.list ho hc hd hr⟩
 | .tuple ds,_,_,h,r=>by
  cases h with
  |tup hs ha=>
   cases r
   obtain⟨its,rv,⟨o,ho,hc,n,hd⟩,_⟩:=I.tuple hs
   obtain⟨as,hr⟩:=Dp.readsAll I ds _ its ha rv
   exact⟨_,Reads.tuple ho hc hd hr⟩
 | .dict _,_,_,h,_=>by cases h
theorem Dp.readsAll (I:Inv X pins σ H s):∀(ds:List PyData) (vs:List V) (us:List Value),Lx X.K H vs ds->Vals vs us->∃as,ReadsAll s.heap us ds as
 |[],_,_,h,r=>by
  cases h
  cases r
  exact⟨_,ReadsAll.nil⟩
 |d::ds,_,_,h,r=>by
  cases h with
  |cons h1 h2=>
   cases r with
   |cons r1 r2=>
    obtain⟨as,q1⟩:=Dp.reads I d _ _ h1 r1
    obtain⟨bs,q2⟩:=Dp.readsAll I ds _ _ h2 r2
    exact⟨_,ReadsAll.cons q1 q2⟩
end
end
section
variable{X:Cx}
def aoH(K:bw):R2:=fun x y H Q=>∃d e,Dp K H x d/\Dp K H y e/\SeqAt.shaped d=true/\SeqAt.shaped e=true/\Q (.bl (PyData.eqv d e)) H
def aoK(K:bw):R2:=fun x y H Q=>∃d e,Dp K H x d/\Dp K H y e/\SeqAt.shaped d=true/\SeqAt.shaped e=true/\Q (.bl (!PyData.eqv d e)) H
theorem afh(hu:X.A.units+64<cLine):Gw X (compareOp .Eq) (aoH X.K):=by
 intro pins s σ H x y v u Q I rx ry h
 obtain⟨d,e,hd,he,sd,se,q⟩:=h
 obtain⟨as,r1⟩:=Dp.reads I d x v hd rx
 obtain⟨bs,r2⟩:=Dp.reads I e y u he ry
 exact SeqAt.compareEq_shaped r1 r2 sd se hu ⟨.bl _,H,I,rfl,q⟩
theorem afl(hu:X.A.units+64<cLine):Gw X (compareOp .NotEq) (aoK X.K):=by
 intro pins s σ H x y v u Q I rx ry h
 obtain⟨d,e,hd,he,sd,se,q⟩:=h
 obtain⟨as,r1⟩:=Dp.reads I d x v hd rx
 obtain⟨bs,r2⟩:=Dp.reads I e y u he ry
 exact SeqAt.compareNe_shaped r1 r2 sd se hu ⟨.bl _,H,I,rfl,q⟩
end
abbrev aaA(h:Heap)(c:Addr)(v:Option Value):Prop:=h.IsCell c v
def aoQ(scope sc:Scope):Scope:=
 {scope with names:=scope.names.map fun(n,k)=>if(k== .free&&sc.kind== .function&&sc.names.lookup n==some .cell) then(n,.cell) else(n,k)}
def gD(cells:List (Str×Addr)):List (Str×NameKind)->List (Str×Addr)->List (Str×Addr)
 |[],acc=>acc
 |(n,k)::r,acc=>if k== .free then gD cells r ((n,(cells.lookup n).getD 0)::acc) else gD cells r acc
theorem Hf(env:Env)(f:Str×NameKind->List (Str×Addr)->Sem (ForInStep (List (Str×Addr))))
  (hf:∀n k c,f (n,k) c=if k== .free then(do let a<-cellOf env n;pure (.yield ((n,a)::c))) else pure (.yield c)):
  ∀(names:List (Str×NameKind)) (acc:List (Str×Addr)),(∀y∈names,y.2= .free->∃c,env.cells.lookup y.1=some c)->forIn names acc f=pure (gD env.cells names acc)
 |[],acc,_=>by rw[List.forIn_nil];rfl
 |(n,k)::r,acc,h=>by
  rw[List.forIn_cons,hf]
  have ih:=fun acc=>Hf env f hf r acc fun y hy=>h y (dU _ hy)
  unfold gD
  by_cases hk:(k==NameKind.free)=true
  .rw[if_pos hk,if_pos hk]
   obtain⟨c,hc⟩:=h (n,k) fY (by simpa using hk)
   have e:cellOf env n=pure c:=by unfold cellOf;rw[hc]
   rw[e]
   have e2:(env.cells.lookup n).getD 0=c:=by rw[hc];rfl
   rw[e2]
   exact ih _
  .rw[if_neg hk,if_neg hk]
   exact ih _
theorem WD{scope:Scope}{env:Env}(h:∀y∈scope.names,y.2= .free->∃c,env.cells.lookup y.1=some c):closureFor scope env=pure (gD env.cells scope.names []):=by
 simp only[closureFor]
 rw[Hf env _ (fun n k c=>rfl) scope.names [] h]
 rfl
theorem mem_lookup{α:Type}:∀{l:List (Str×α)} {n:Str} {c:α},(n,c)∈l->∃c',l.lookup n=some c'
 |(k,v)::r,n,c,h=>by
  rw[Qs]
  cases hb:n==k with
  |true=>exact⟨_,rfl⟩
  |false=>
   rcases bU.mp h with e|h
   .cases e;simp at hb
   .exact mem_lookup h
theorem wW{cells:List (Str×Addr)}:∀{names:List (Str×NameKind)} {acc:List (Str×Addr)} {n:Str} {c:Addr},(n,c)∈gD cells names acc->(n,c)∈acc\/((n,.free)∈names/\c=(cells.lookup n).getD 0)
 |[],_,_,_,h=> .inl h
 |(m,k)::r,acc,n,c,h=>by
  unfold gD at h
  split at h
  .rename_i hk
   have hk:k= .free:=by simpa using hk
   rcases wW h with h|⟨h1,h2⟩
   .rcases bU.mp h with e|h
    .cases e;exact .inr ⟨hk▸fY,rfl⟩
    .exact .inl h
   .exact .inr ⟨dU _ h1,h2⟩
  .rcases wW h with h|⟨h1,h2⟩
   .exact .inl h
   .exact .inr ⟨dU _ h1,h2⟩
theorem BP{cells:List (Str×Addr)}:∀{names:List (Str×NameKind)} {acc:List (Str×Addr)} {p:Str×Addr},p∈acc->p∈gD cells names acc
 |[],_,_,h=>h
 |(m,k)::r,acc,p,h=>by
  unfold gD
  split
  .exact BP (dU _ h)
  .exact BP h
theorem BR{cells:List (Str×Addr)}:∀{names:List (Str×NameKind)} {acc:List (Str×Addr)} {n:Str},(n,.free)∈names->(n,(cells.lookup n).getD 0)∈gD cells names acc
 |(m,k)::r,acc,n,h=>by
  unfold gD
  rcases bU.mp h with e|h
  .cases e
   exact BP fY
  .split
   .exact BR h
   .exact BR h
theorem yX:∀{names:List (Str×NameKind)} {h:Heap} {acc:List (Str×Addr)} {x:Str} {c:Addr},(x,c)∈cellsFrom h.objs.size names acc->
  (x,c)∈acc\/((x,.cell)∈names/\h.objs.size<=c/\aaA (pushCells h names) c none)
 |[],_,_,_,_,h=> .inl h
 |(n,k)::r,h,acc,x,c,hm=>by
  unfold cellsFrom at hm
  unfold pushCells
  split at hm
  .rename_i hk
   rw[if_pos hk]
   have hk:k= .cell:=by simpa using hk
   rw[<-Bx h {cls:= .type "cell",data:= .cell none}] at hm
   rcases yX hm with hm|⟨h1,h2,h3⟩
   .rcases bU.mp hm with e|hm
    .cases e
     exact .inr ⟨hk▸fY,cF _,_,pushCells_keeps r _ _ _ (uc _ rfl),rfl⟩
    .exact .inl hm
   .rw[Bx] at h2
    exact .inr ⟨dU _ h1,Nat.le_of_succ_le h2,h3⟩
  .rename_i hk
   rw[if_neg hk]
   rcases yX hm with hm|⟨h1,h2,h3⟩
   .exact .inl hm
   .exact .inr ⟨dU _ h1,h2,h3⟩
theorem DW:∀{names:List (Str×NameKind)} {n:Nat} {acc:List (Str×Addr)} {p:Str×Addr},p∈acc->p∈cellsFrom n names acc
 |[],_,_,_,h=>h
 |(m,k)::r,n,acc,p,h=>by
  unfold cellsFrom
  split
  .exact DW (dU _ h)
  .exact DW h
theorem IW:∀{names:List (Str×NameKind)} {n:Nat} {acc:List (Str×Addr)} {x:Str},(x,.cell)∈names->∃c,(x,c)∈cellsFrom n names acc
 |(m,k)::r,n,acc,x,h=>by
  unfold cellsFrom
  rcases bU.mp h with e|h
  .cases e
   exact⟨n,DW fY⟩
  .split
   .exact IW h
   .exact IW h
theorem I_:∀{names:List (Str×NameKind)} {h:Heap} {acc:List (Str×Addr)} {x y:Str} {c:Addr},(∀p∈acc,p.2<h.objs.size)->(∀x y c,(x,c)∈acc->(y,c)∈acc->x=y)->
  (x,c)∈cellsFrom h.objs.size names acc->(y,c)∈cellsFrom h.objs.size names acc->x=y
 |[],_,_,_,_,_,_,hi,h1,h2=>hi _ _ _ h1 h2
 |(n,k)::r,h,acc,x,y,c,hl,hi,h1,h2=>by
  unfold cellsFrom at h1 h2
  split at h1
  .rename_i hk
   rw[if_pos hk] at h2
   rw[<-Bx h {cls:= .type "cell",data:= .cell none}] at h1 h2
   refine I_ (h:=h.push _) (fun p hp=>?_) (fun x y c a b=>?_) h1 h2
   .rw[Bx]
    rcases bU.mp hp with rfl|hp
    .exact Ug _
    .exact Nat.lt_succ_of_lt (hl p hp)
   .rcases bU.mp a with e|a<;>rcases bU.mp b with e'|b
    .cases e;cases e';rfl
    .cases e;exact absurd (hl _ b) (RK _)
    .cases e';exact absurd (hl _ a) (RK _)
    .exact hi _ _ _ a b
  .rename_i hk
   rw[if_neg hk] at h2
   exact I_ hl hi h1 h2
theorem Vn{M:Model}{A:Around}{E:Value->Shared->Prop}{s:Shared}{scope:Scope}{globals:Addr}{closure:List (Str×Addr)}{qual:Str}{func:Option Addr}{code:Value}{around:Env}{builtins:Addr}{Q:Env->Shared->Prop}
  (h:Q (newEnv scope s.heap.objs.size globals (cellsFrom (s.heap.objs.size+1) scope.names closure) qual func code (some around) builtins)
   {s with heap:=pushCells (s.heap.push {cls:= .type "dict",data:= .dict #[]}) scope.names}):
  wpAny M A (newFunctionEnv scope globals closure [] qual func code (some around) builtins) Q E s:=by
 simp only[newFunctionEnv,Option.isSome_some,if_true]
 refine aR (wpAny_alloc ?_)
 refine aR (wpAny_layCells _ (fun n k c=>rfl) scope.names closure _ _ ?_)
 rw[show({s with heap:=s.heap.push {cls:= .type "dict",data:= .dict #[]}}:Shared).heap.objs.size=s.heap.objs.size+1 from Bx ..]
 rw[List.forIn_nil]
 exact aR (bW (bW h))
theorem Cr{sc:Scope}:∀{names:List (Str×NameKind)} {x:Str} {k:NameKind},
  (names.map fun(n,k)=>if(k==NameKind.free&&sc.kind== .function&&sc.names.lookup n==some .cell) then(n,NameKind.cell) else(n,k)).lookup x=some k->
  ∃k',names.lookup x=some k'/\(k=k'\/(k'= .free/\k= .cell))
 |[],_,_,h=>by simp at h
 |(n,k₀)::r,x,k,h=>by
  have ih:= @Cr sc r x k
  have h':List.lookup x ((if(k₀==NameKind.free&&sc.kind== .function&&sc.names.lookup n==some .cell)=true then(n,NameKind.cell) else(n,k₀))::(r.map _))=some k:=h
  cases hx:x==n with
  |true=>
   simp only[Qs,hx]
   by_cases hc:(k₀==NameKind.free&&sc.kind== .function&&sc.names.lookup n==some .cell)=true
   .rw[if_pos hc] at h'
    simp only[Qs,hx] at h'
    cases h'
    simp only[lB,beq_iff_eq] at hc
    exact⟨k₀,rfl,.inr ⟨hc.1.1,rfl⟩⟩
   .rw[if_neg hc] at h'
    simp only[Qs,hx] at h'
    cases h'
    exact⟨_,rfl,.inl rfl⟩
  |false=>
   simp only[Qs,hx]
   by_cases hc:(k₀==NameKind.free&&sc.kind== .function&&sc.names.lookup n==some .cell)=true
   .rw[if_pos hc] at h'
    simp only[Qs,hx] at h'
    exact ih h'
   .rw[if_neg hc] at h'
    simp only[Qs,hx] at h'
    exact ih h'
structure Ud(N:List Str)(sc scope:Scope)(own:List (Str×Nat)):Prop where
 kind:scope.kind= .function
 uniq:∀y∈scope.names,scope.names.lookup y.1=some y.2
 ix:∀p∈own,N[p.2]? =some p.1
 free:∀y∈scope.names,y.2= .free->sc.names.lookup y.1=some .cell\/sc.names.lookup y.1=some .free
 own:∀y∈scope.names,y.2= .local\/y.2= .cell->y.1∈own.map (·.1)\/y.1∉N
def wipe(σ:St):List Nat->St
 |[]=>σ
 |v::vs=>(wipe σ vs).set v none
theorem DR(σ:St):∀vs:List Nat,(wipe σ vs).length=σ.length
 |[]=>rfl
 |v::vs=>by unfold wipe;rw[List.length_set,DR σ vs]
theorem JK{σ:St}{i:Nat}{x:V}:∀{vs:List Nat},(wipe σ vs)[i]? =some (some x)->σ[i]? =some (some x)/\i∉vs
 |[],h=>⟨h,by simp⟩
 |v::vs,h=>by
  unfold wipe at h
  by_cases hi:v=i
  .subst hi
   by_cases hv:v<(wipe σ vs).length
   .rw[List.getElem?_set_self hv] at h;cases h
   .rw[List.getElem?_eq_none (by simpa using hv)] at h;cases h
  .rw[List.getElem?_set_ne hi] at h
   obtain⟨h1,h2⟩:=JK h
   exact⟨h1,by simp only[bU,not_or];exact⟨fun e=>hi e.symm,h2⟩⟩
abbrev Cx.blk(X:Cx)(s:Shared)(H:Hp)(scope:Scope)(cenv:Env)(fp:List Addr):Cx:={X with Gz:=s,H_0:=H,env:=cenv,outer:=X.stack,ex:=fp,fn:=fun x=>scope.names.lookup x==some .cell,pn:=[],xe:=fun _ _=>False}
section
variable{X:Cx}{pins:List (Addr×Obj)}{σ:St}{H:Hp}{s:Shared}
theorem Us{scope:Scope}{own:List (Str×Nat)}{fp:List Addr}(I:Inv X pins σ H s)(ok:Ud X.N X.env.scope scope own)(hN:X.N.Nodup)(hfp:∀b∈fp,Em X pins H b/\b<s.heap.objs.size):
  Inv (X.blk s H scope (compEnvC scope (cellsFrom (s.heap.objs.size+1) scope.names (gD X.env.cells scope.names [])) s.heap.objs.size X.env) fp) [] (wipe σ (own.map (·.2))) H {s with heap:=pushCells (s.heap.push {cls:= .type "dict",data:= .dict #[]}) scope.names}:=by
 have hfree:∀y∈scope.names,y.2= .free->∃c,X.env.cells.lookup y.1=some c:=fun y hy e=>by
  rcases ok.free y hy e with k|k
  .exact I.ok.has _ (.inl k)
  .exact I.ok.has _ (.inr k)
 generalize Va:compEnvC scope (cellsFrom (s.heap.objs.size+1) scope.names (gD X.env.cells scope.names [])) s.heap.objs.size X.env=cenv
 have kp:∀b o,s.heap.get? b=some o->(pushCells (s.heap.push {cls:= .type "dict",data:= .dict #[]}) scope.names).get? b=some o:=fun b o e=>pushCells_keeps _ _ _ _ (jW _ e)
 have hL:cenv.locals=s.heap.objs.size:=by rw[<-Va];rfl
 have hcl:cenv.cells=cellsFrom (s.heap.objs.size+1) scope.names (gD X.env.cells scope.names []):=by rw[<-Va];rfl
 have hsc:cenv.scope=aoQ scope X.env.scope:=by rw[<-Va];rfl
 rw[<-Bx s.heap {cls:= .type "dict",data:= .dict #[]}] at hcl
 have cm:∀{y c},(y,c)∈gD X.env.cells scope.names []->X.env.cells.lookup y=some c/\c<s.heap.objs.size:=fun{y c} hm=>by
  rcases wW hm with hm|⟨h1,rfl⟩
  .cases hm
  .obtain⟨c,hc⟩:=hfree _ h1 rfl
   rw[hc]
   obtain⟨w,z⟩:=I.cell _ _ hc
   exact⟨rfl,z.lt⟩
 have mem:∀{y c},cenv.cells.lookup y=some c->(X.env.cells.lookup y=some c/\c<s.heap.objs.size)\/(s.heap.objs.size+1<=c/\aaA (pushCells (s.heap.push {cls:= .type "dict",data:= .dict #[]}) scope.names) c none):=fun{y c} e=>by
  rw[hcl] at e
  rcases yX (qG e) with hm|⟨_,h2,h3⟩
  .exact .inl (cm hm)
  .rw[Bx] at h2;exact .inr ⟨h2,h3⟩
 have look:∀{y},scope.names.lookup y=some .free->∃c,cenv.cells.lookup y=some c/\X.env.cells.lookup y=some c:=fun{y} hl=>by
  have hy:(y,NameKind.free)∈scope.names:=qG hl
  obtain⟨c',e'⟩:=mem_lookup (DW (names:=scope.names) (n:=(s.heap.push {cls:= .type "dict",data:= .dict #[]}).objs.size) (BR (cells:=X.env.cells) (acc:=[]) hy))
  rw[<-hcl] at e'
  refine⟨c',e',?_⟩
  rw[hcl] at e'
  rcases yX (qG e') with hm|⟨h1,_,_⟩
  .exact(cm hm).1
  .have:=ok.uniq _ h1
   rw[hl] at this;cases this
 have okB:(X.blk s H scope cenv fp).Ok:=by
  refine⟨I.ok.mod,by show cenv.scope.kind=_;rw[hsc];exact ok.kind,by show cenv.globals=_;rw[<-Va];exact I.ok.glob,by show cenv.builtins=_;rw[<-Va];exact I.ok.blt,by show s.heap.objs.size<=cenv.locals;rw[hL];exact cF _,
   fun y z c e1 e2=>?_,fun y hy=>?_,fun y c z e=>?_,I.ok.hd,I.ok.frames,.inl rfl,fun b hb=>⟨?_,fun y c e z=>?_⟩,I.bs,mR I.ok.bsz I.sz,fun b o e hb=>?_,fun b hb z=>?_,I.stack,I.Lr⟩
  .have e1:cenv.cells.lookup y=some c:=e1
   have e2:cenv.cells.lookup z=some c:=e2
   rw[hcl] at e1 e2
   refine I_ (fun p hp=>?_) (fun y z c a b=>I.ok.inj y z c (cm a).1 (cm b).1) (qG e1) (qG e2)
   rw[Bx]
   exact Nat.lt_succ_of_lt (cm (y:=p.1) (c:=p.2) hp).2
  .show ∃c,cenv.cells.lookup y=some c
   have key:∀k,cenv.kindOf y=some k->(k= .cell\/k= .free)->∃c,cenv.cells.lookup y=some c:=fun k hk hk'=>by
    unfold Env.kindOf at hk
    rw[hsc] at hk
    obtain⟨k',e,r⟩:=Cr hk
    have:k'= .cell\/k'= .free:=by
     rcases r with rfl|⟨rfl,_⟩
     .exact hk'
     .exact .inr rfl
    rcases this with rfl|rfl
    .obtain⟨c,hm⟩:=IW (n:=(s.heap.push {cls:= .type "dict",data:= .dict #[]}).objs.size) (acc:=gD X.env.cells scope.names []) (qG e)
     obtain⟨c',e'⟩:=mem_lookup hm
     exact⟨c',by rw[hcl];exact e'⟩
    .obtain⟨c,h1,_⟩:=look e
     exact⟨c,h1⟩
   rcases hy with hy|hy
   .exact key _ hy (.inl rfl)
   .exact key _ hy (.inr rfl)
  .have z:(scope.names.lookup y==some NameKind.cell)=true:=z
   have z:scope.names.lookup y=some .cell:=by simpa using z
   have e:cenv.cells.lookup y=some c:=e
   rw[hcl] at e
   rcases yX (qG e) with hm|⟨_,h2,_⟩
   .rcases wW hm with hm|⟨h1,_⟩
    .cases hm
    .have q:=ok.uniq _ h1
     rw[z] at q;cases q
   .rw[Bx] at h2
    exact Nat.le_of_succ_le h2
  .show b≠cenv.locals
   rw[hL];exact rR (hfp b hb).2
  .have e:cenv.cells.lookup y=some c:=e
   rcases mem e with⟨h1,_⟩|⟨h1,_⟩
   .exact(hfp b hb).1.2.2.2.2.1 y c h1 z
   .have h2:s.heap.objs.size+1<=b:=by rw[<-z];exact h1
    exact absurd (wQ (hfp b hb).2 (Nat.le_of_succ_le h2)) (RK _)
  .rcases(hfp b hb).1.2.2.2.1 with z|z
   .exact I.ok.Z7 b o e z
   .exact absurd (wQ (jZ e) (mR I.ok.bsz z)) (RK _)
  .rcases bU.mp (I.T7 b z) with z|z
   .exact(hfp b hb).1.2.1 z
   .exact(hfp b hb).1.2.2.1 z
 refine⟨okB,rfl,I.bare,Un.kept kp,⟨fun _=>none,?_,fun i y av e1 e2 e3=>?_⟩,fun y c e=>?_,?_,fun y c e=>?_,fun p hp=>?_,I.hok.kept kp,by rw[DR];exact I.len⟩
 .show Heap.Ns _ cenv.locals _
  rw[hL]
  exact Heap.Ns.keeps (Heap.Ns.new ..) fun b o e=>pushCells_keeps _ _ _ _ e
 .obtain⟨e2,hne⟩:=JK e2
  have hfr:scope.names.lookup y=some .free/\(cenv.kindOf y=some .cell\/cenv.kindOf y=some .free):=by
   have key:∀k,cenv.scope.names.lookup y=some k->k= .local\/k= .cell\/k= .free->scope.names.lookup y=some .free/\(cenv.kindOf y=some .cell\/cenv.kindOf y=some .free):=fun k hk hk'=>by
    have hk0:=hk
    rw[hsc] at hk
    obtain⟨k',e,r⟩:=Cr hk
    have no:¬(k'= .local\/k'= .cell):=fun hh=>by
     rcases ok.own _ (qG e) hh with e'|e'
     .obtain⟨p,hp,hpy⟩:=uU.mp e'
      have e3:=ok.ix p hp
      have:p.1=y:=hpy
      rw[this] at e3
      exact hne (uU.mpr ⟨p,hp,M5 hN e3 e1⟩)
     .exact e' (fZ e1)
    rcases r with rfl|⟨rfl,rfl⟩
    .rcases hk' with rfl|rfl|rfl
     .exact absurd (.inl rfl) no
     .exact absurd (.inr rfl) no
     .exact⟨e,.inr hk0⟩
    .exact⟨e,.inl hk0⟩
   have e3:Vis cenv.scope y:=e3
   rcases e3 with e3|e3|e3
   .exact key _ e3 (.inl rfl)
   .exact key _ e3 (.inr (.inl rfl))
   .exact key _ e3 (.inr (.inr rfl))
  obtain⟨m,hn,hl⟩:=I.loc
  have aow:Vis X.env.scope y:=(ok.free _ (qG hfr.1) rfl).elim (fun k=> .inr (.inl k)) (fun k=> .inr (.inr k))
  obtain⟨w,r,q⟩:=hl i y av e1 e2 aow
  refine⟨w,r,.inr ⟨hfr.2,?_⟩⟩
  obtain⟨c,h1,h2⟩:=look hfr.1
  rcases q with⟨k,_⟩|⟨_,c',e',z⟩
  .have k:X.env.scope.names.lookup y=some .local:=k
   rcases ok.free _ (qG hfr.1) rfl with k'|k'<;>rw[show X.env.scope.names.lookup y=_ from k'] at k<;>cases k
  .rw[h2] at e';cases e'
   exact⟨c,h1,z.keeps kp⟩
 .have e:cenv.cells.lookup y=some c:=e
  rcases mem e with⟨h1,_⟩|⟨_,z⟩
  .obtain⟨w,z⟩:=I.cell y c h1
   exact⟨w,z.keeps kp⟩
  .exact⟨_,z⟩
 .show H cenv.locals=none
  rw[hL];exact I.hok.fresh (cF _)
 .have e:cenv.cells.lookup y=some c:=e
  rcases mem e with⟨h1,_⟩|⟨h1,_⟩
  .exact I.xg y c h1
  .exact I.hok.fresh (Nat.le_of_succ_le h1)
 .exact absurd (show p∈([]:List (Addr×Obj))++[] from hp) (by simp)
theorem aeC{E:Value->Shared->Prop}{D:Addr}{xs:List V}{y:V}{v:Value}{Q:Value->Shared->Prop}(I:Inv X pins σ H s)(hD:H D=some (.lst xs))(hz:xs.length<dM)(r:RelV y v)
  (h:∀s',Inv X pins σ (upd H D (.lst (xs++[y]))) s'->Q .none s'):wpAny (model X.prog X.w) X.A (call (.builtin "list.append") [.ref D,v]) Q E s:=by
 obtain⟨hz',its,n,ri,e⟩:=I.hok D _ hD
 have hl:=ri.length
 refine append_at (hsz:=by rw[iG];omega) e fun h' sb ho'=>?_
 refine h {s with heap:=h'} (I.write (t':=s.toks) (by rw[hD];trivial) (.inl rfl) (fun b u hb q=>(sb.2 b hb).trans q) ⟨_,ho'⟩ ⟨by rw[dN];exact hz,its++[v],n+1,ri.append (.cons r .nil),?_⟩)
 rw[ho']
 simp
def PTs(X:Cx)(ifs:List Expr)(t:TT):Prop:=
 ∀(pins:List (Addr×Obj)) (s:Shared) (σ:St) (H:Hp) (Q:Bool->Hp->Prop),Inv X pins σ H s->t σ H Q->
  wpAny (model X.prog X.w) X.A (forIn ifs true fun c r=>if r=true then do let ok<-isTrue c X.env (eval c X.env);pure (ForInStep.yield ok) else pure (ForInStep.yield r)) (TP X pins σ Q) X.xe s
def agY:TT:=fun _ H Q=>Q true H
theorem Ln:PTs X [] agY:=fun _ _ _ H _ I h=>wpAny_tests_nil ⟨H,I,h⟩
theorem YF{c:Expr}{t:TT}(h:PT X c t):PTs X [c] t:=fun pins s σ H Q I hw=>wpAny_tests_one (h pins s σ H Q I hw)
end
theorem aaw{α:Type}{t:Sem α}{Q Q':α->Shared->Prop}{M:Model}{A:Around}{E:Value->Shared->Prop}{s:Shared}(h:wpAny M A t Q (fun _ _=>False) s)(hQ:∀a s,Q a s->Q' a s):wpAny M A t Q' E s:=qF h hQ fun _ _ z=>False.elim z
theorem RT{prog:Program}{w:World}{A:Around}{R:Result->Shared->Prop}{s:Shared}{elt target iter:Expr}{ifs:List Expr}{scope:Scope}{pos:Pos}{it acc:Value}{env:Env}(I:Nat->Shared->Prop)
  (turn:∀n s,I n s->wpAny (model prog w) A (pyNext it) (fun r s₁=>match r with
   |none=>R (.ok .next) s₁
   |some v=>wpAny (model prog w) A (letOwnedTupleGo target it v) (fun _ s₁'=>wpAny (model prog w) A (assign target env v) (fun _ s₂=>
     wpAny (model prog w) A (forIn ifs true fun c r=>if r=true then do let ok<-isTrue c env (eval c env);pure (ForInStep.yield ok) else pure (ForInStep.yield r)) (fun ok s₃=>
      if ok=true then wpAny (model prog w) A (eval elt env) (fun x s₄=>
       wpAny (model prog w) A (call (.builtin "list.append") [acc,x]) (fun _ s₅=>∃m,m<n/\I m s₅) (notedBy (model prog w) A env fun e s'=>R (.error e) s') s₄) (notedBy (model prog w) A env fun e s'=>R (.error e) s') s₃
      else ∃m,m<n/\I m s₃) (notedBy (model prog w) A env fun e s'=>R (.error e) s') s₂) (notedBy (model prog w) A env fun e s'=>R (.error e) s') s₁') (notedBy (model prog w) A env fun e s'=>R (.error e) s') s₁) (notedBy (model prog w) A env fun e s'=>R (.error e) s') s)
  (n:Nat)(h:I n s):
  codeAny (model prog w) A (.compLoop (.ListComp elt [⟨target,iter,ifs,0⟩] scope pos) 0 it acc env) R s:=by
 refine codeAny_loop rfl I (fun n s hI=>?_) n h
 show wpAny _ A ((compTurn (.ListComp elt [⟨target,iter,ifs,0⟩] scope pos) 0 it acc env).onRaise (fun x=>do noteFrame x env;theTreesLotGoes x)) _ _ s
 refine wpAny_noted ?_
 rw[compTurn_list]
 refine aR (wpAny_standAt (aR (qF (turn n s hI) (fun r s₁ h₁=>?_) fun _ _ h'=>h')))
 cases r with
 |none=>exact bW h₁
 |some v=>
  refine aR (qF h₁ (fun _ s₁' h₁'=>?_) fun _ _ h'=>h')
  refine aR (qF h₁' (fun _ s₂ h₂=>aR (qF h₂ (fun ok s₃ h₃=>?_) fun _ _ h'=>h')) fun _ _ h'=>h')
  cases ok with
  |false=>exact bW ⟨rfl,h₃⟩
  |true=>
   exact aR (aR (qF h₃ (fun x s₄ h₄=>aR (qF h₄ (fun _ s₅ h₅=>bW (bW ⟨rfl,h₅⟩)) fun _ _ h'=>h')) fun _ _ h'=>h'))
section
variable{X:Cx}
def tLc(wi:TI)(g:TG)(tt:TT)(te:TE)(vs:List Nat):TE:=fun σ H Q=>wi σ H fun J H1=>∀D,H1 D=none->∃W:Nat->Nat->Hp->Prop,(∃m,W 0 m (upd H1 D (.lst [])))/\∀i m H,W i m H->
 (J.stop i H/\Q (.ref D) H)\/(J.go i H/\∃Nx:Hp->Prop,(∀H',Nx H'->∃m',m'<m/\W (i+1) m' H')/\∀x H',J.yld i H x H'->g x (wipe σ vs) H' fun σ2 H2=>wipe σ2 vs=wipe σ vs/\tt σ2 H2 fun b H3=>
  if b=true then te σ2 H3 fun y H4=>∃acc,H4 D=some (.lst acc)/\acc.length<dM/\Nx (upd H4 D (.lst (acc++[y]))) else Nx H3)
theorem Yx{pins:List (Addr×Obj)}{s:Shared}{σ:St}{H:Hp}{Q:VK}{elt tg iter:Expr}{ifs:List Expr}{scope:Scope}{own:List (Str×Nat)}{pos pos':Pos}{wi:TI}{g:TG}{tt:TT}{te:TE}{use:Option (Value->Sem Unit)}{Qf:Value->Shared->Prop}
  (hc:X.calm=true)(hN:X.N.Nodup)(I:Inv X pins σ H s)(hi:PI X tg iter wi)(ok:Ud X.N X.env.scope scope own)
  (hg:∀(s:Shared) (H:Hp) (C:Addr) (cl:List (Str×Addr)) (fp:List Addr),PG (X.blk s H scope (compEnvC scope cl C X.env) fp) tg g)(ht:∀(s:Shared) (H:Hp) (C:Addr) (cl:List (Str×Addr)) (fp:List Addr),PTs (X.blk s H scope (compEnvC scope cl C X.env) fp) ifs tt)
  (he:∀(s:Shared) (H:Hp) (C:Addr) (cl:List (Str×Addr)) (fp:List Addr),PE (X.blk s H scope (compEnvC scope cl C X.env) fp) elt te)(hs:∀x,foldedSetIterable iter X.env x=pure x)
  (h:tLc wi g tt te (own.map (·.2)) σ H Q)
  (hRR:∀D C s' m H',Inv X pins σ H' s'->Q (.ref D) H'->s'.heap.Ns C m->Em X pins H' C->compPost (model X.prog X.w) X.A X.xe use Qf (.ref D) C (.ok .next) s'):
  wpAny (model X.prog X.w) X.A (comprehension (.ListComp elt [⟨tg,iter,ifs,0⟩] scope pos) scope X.env pos' (newList []) false (eval iter X.env) use) Qf X.xe s:=by
 have hfree:∀y∈scope.names,y.2= .free->∃c,X.env.cells.lookup y.1=some c:=fun y hy e=>by
  rcases ok.free y hy e with k|k
  .exact I.ok.has _ (.inl k)
  .exact I.ok.has _ (.inr k)
 refine wpAny_comprehension_free (use:=use) rfl hs (WD hfree) ok.kind (fun y hy e=>by rw[ok.uniq y hy,e])
  (jk (hi pins s σ H _ I h) fun xv s1 hx=>jk hx fun itv s2 h2=>?_)
 obtain⟨it,fp,tn,J,H2,e,I2,T,st2,f2,q⟩:=h2
 subst e
 refine wpAny_newObj_type (Vn ?_) (by show 0<=dM;decide)
 generalize hD:s2.heap.objs.size=D
 have hDn:H2 D=none:=I2.hok.fresh (Nat.le_of_eq hD)
 obtain⟨W,⟨m0,w0⟩,turn⟩:=q D hDn
 generalize hs3:({s2 with heap:=s2.heap.push {cls:= .type "list",data:= .seq ([]:List Value).toArray}}:Shared)=s3
 have I3:Inv X pins σ (upd H2 D (.lst [])) s3:=by
  rw[<-hs3]
  refine I2.laid (t':=s2.toks) (fun b o e=>jW _ e) (Nat.le_of_eq hD) ⟨j_ _,[],0,.nil,?_⟩
  rw[<-hD]
  exact uc _ rfl
 have h3:s3.heap=s2.heap.push {cls:= .type "list",data:= .seq ([]:List Value).toArray}:=by rw[<-hs3]
 have sz:∀b∈fp,b<s2.heap.objs.size:=fun b hb=>by
  obtain⟨o,e,_⟩:=T.obj _ _ st2 b hb
  exact jZ e
 have f3:∀b∈fp,Em X pins (upd H2 D (.lst [])) b/\b<s3.heap.objs.size:=fun b hb=>by
  have hlt:=sz b hb
  refine⟨⟨?_,(f2 b hb).2⟩,by rw[h3,Bx];exact Nat.lt_succ_of_lt hlt⟩
  rw[aD (by rw[<-hD];exact rR hlt)]
  exact(f2 b hb).1
 have st3:tn 0 s3.heap:=T.keep _ _ _ st2 fun b _ o e=>by rw[h3];exact jW _ e
 have I4:=Us I3 ok hN f3
 have pg:=hg s3 (upd H2 D (.lst [])) s3.heap.objs.size (cellsFrom (s3.heap.objs.size+1) scope.names (gD X.env.cells scope.names [])) fp
 have pt:=ht s3 (upd H2 D (.lst [])) s3.heap.objs.size (cellsFrom (s3.heap.objs.size+1) scope.names (gD X.env.cells scope.names [])) fp
 have pe:=he s3 (upd H2 D (.lst [])) s3.heap.objs.size (cellsFrom (s3.heap.objs.size+1) scope.names (gD X.env.cells scope.names [])) fp
 show codeAny _ _ (.compStart (.ListComp elt [⟨tg,iter,ifs,0⟩] scope pos) 0 (.ref it) (.ref D) (compEnvC scope (cellsFrom (s3.heap.objs.size+1) scope.names (gD X.env.cells scope.names [])) s3.heap.objs.size X.env)) (compPost (model X.prog X.w) X.A X.xe use Qf (.ref D) s3.heap.objs.size) {s3 with heap:=pushCells (s3.heap.push {cls:= .type "dict",data:= .dict #[]}) scope.names}
 have nfp:∀b∈fp,(upd H2 D (.lst [])) b=none:=fun b hb=>(f3 b hb).1.1
 generalize hce:compEnvC scope (cellsFrom (s3.heap.objs.size+1) scope.names (gD X.env.cells scope.names [])) s3.heap.objs.size X.env=ce at I4 pg pt pe ⊢
 have cL:ce.locals=s3.heap.objs.size:=by subst hce;rfl
 generalize hH3:upd H2 D (.lst [])=H3 at I3 I4 pg pt pe w0 nfp f3
 generalize hs4:({s3 with heap:=pushCells (s3.heap.push {cls:= .type "dict",data:= .dict #[]}) scope.names}:Shared)=s4 at I4 ⊢
 have st4:tn 0 s4.heap:=T.keep _ _ _ st3 fun b _ o e=>by rw[<-hs4];exact pushCells_keeps _ _ _ _ (jW _ e)
 have stat:∀{σ':St} {H':Hp} {s':Shared},Inv (X.blk s3 H3 scope ce fp) [] σ' H' s'->(∀b∈fp,H' b=none)->∀b∈fp,Em (X.blk s3 H3 scope ce fp) [] H' b:=fun{σ' H' s'} I' hn b hb=>
  ⟨hn b hb,(I'.ok.exf b hb).1,I'.ok.ZC b hb,.inl hb,fun x c e=>(I'.ok.exf b hb).2 x c e,fun p hp=>absurd (show p∈([]:List (Addr×Obj))++[] from hp) (by simp)⟩
 have loop:codeAny (model X.prog X.w) X.A (.compLoop (.ListComp elt [⟨tg,iter,ifs,0⟩] scope pos) 0 (.ref it) (.ref D) ce) (compPost (model X.prog X.w) X.A X.xe use Qf (.ref D) s3.heap.objs.size) s4:=by
  refine RT (fun n s'=>∃i H',Inv (X.blk s3 H3 scope ce fp) [] (wipe σ (own.map (·.2))) H' s'/\tn i s'.heap/\(∀b∈fp,H' b=none)/\W i n H') ?_ m0 ⟨0,H3,I4,st4,nfp,w0⟩
  rintro n s5 ⟨i,H5,I5,st5,n5,w5⟩
  rcases turn i n H5 w5 with⟨stop,qq⟩|⟨go,Nx,hNx,step⟩
  .have td:=T.done (X.blk s3 H3 scope ce fp) rfl rfl rfl hc i [] s5 _ H5 (fun _ _=>False) I5 (stat I5 n5) st5 stop
   refine aaw td fun r s6 ⟨hr,I6⟩=>?_
   subst hr
   have I7:Inv X pins σ H5 s6:=I3.call' (ch:=fp) I6.os I6.base I6.hok I6.bare fun b hb=>⟨(f3 b hb).1.2.2.2.1,(f3 b hb).1.2.1,(f3 b hb).1.2.2.2.2.1,(f3 b hb).1.2.2.2.2.2⟩
   have nC:H5 s3.heap.objs.size=none:=by
    have z:H5 ce.locals=none:=I6.free
    rw[cL] at z
    exact z
   obtain⟨m,hn,_⟩:=I6.loc
   have hn:s6.heap.Ns ce.locals m:=hn
   rw[cL] at hn
   exact hRR D s3.heap.objs.size s6 m H5 I7 qq hn (I3.abm (cF _) nC)
  .have ti:=T.item (X.blk s3 H3 scope ce fp) rfl rfl rfl hc i [] s5 _ H5 (fun _ _=>False) I5 (stat I5 n5) st5 go
   refine aaw ti fun r s6 ⟨u,hr,h6⟩=>?_
   subst hr
   refine aaw h6 fun _ s7 ⟨x,H7,I7,r7,y7,st7,n7⟩=>?_
   have I7':=I7.pinned (stat I7 n7) (T.obj _ _ st7)
   refine aaw (pg _ s7 _ H7 x u _ I7' r7 (step x H7 y7)) fun _ s8 ⟨σ8,H8,I8,hw8,q8⟩=>?_
   refine aaw (pt _ s8 σ8 H8 _ I8 q8) fun b s9 ⟨H9,I9,q9⟩=>?_
   have fin:∀{s':Shared} {H':Hp},Inv (X.blk s3 H3 scope ce fp) ([]++NT fp s7.heap) σ8 H' s'->Nx H'->∃m,m<n/\∃i H',Inv (X.blk s3 H3 scope ce fp) [] (wipe σ (own.map (·.2))) H' s'/\tn i s'.heap/\(∀b∈fp,H' b=none)/\W i m H':=fun{s' H'} I' nx=>by
    obtain⟨m',hm,w'⟩:=hNx H' nx
    have agD:∀b∈fp,∀o,s7.heap.get? b=some o->s'.heap.get? b=some o/\H' b=none:=fun b hb o e=>
     let z:=I'.pin (b,o) (iD _ (iD _ (Fv hb e)))
     ⟨z.1,z.2.1⟩
    have hl:(wipe σ (own.map (·.2))).length=σ8.length:=by rw[<-hw8,DR]
    refine⟨m',hm,i+1,H',(I'.Ir (pins:=[])).weak hl (fun j v e=>?_),T.keep _ _ _ st7 fun b hb o e=>(agD b hb o e).1,fun b hb=>?_,w'⟩
    .rw[<-hw8] at e
     exact(JK e).1
    .obtain⟨o,e,_⟩:=T.obj _ _ st7 b hb
     exact(agD b hb o e).2
   cases b with
   |false=>
    simp only[Bool.false_eq_true,if_false] at q9 ⊢
    exact fin I9 q9
   |true=>
    simp only[if_true] at q9 ⊢
    refine aaw (pe _ s9 σ8 H9 _ I9 q9) fun z s10 ⟨yv,H10,I10,r10,acc,aof,aox,nx⟩=>?_
    exact aeC (X:=X.blk s3 H3 scope ce fp) I10 aof aox r10 fun s11 I11=>fin I11 nx
 exact codeAny_compStart_list loop (T.self X.A 0 _ _ _ st4 loop)
theorem VF{elt tg iter:Expr}{ifs:List Expr}{scope:Scope}{own:List (Str×Nat)}{pos:Pos}{wi:TI}{g:TG}{tt:TT}{te:TE}(hc:X.calm=true)(hN:X.N.Nodup)(hi:PI X tg iter wi)(ok:Ud X.N X.env.scope scope own)
  (hg:∀(s:Shared) (H:Hp) (C:Addr) (cl:List (Str×Addr)) (fp:List Addr),PG (X.blk s H scope (compEnvC scope cl C X.env) fp) tg g)(ht:∀(s:Shared) (H:Hp) (C:Addr) (cl:List (Str×Addr)) (fp:List Addr),PTs (X.blk s H scope (compEnvC scope cl C X.env) fp) ifs tt)
  (he:∀(s:Shared) (H:Hp) (C:Addr) (cl:List (Str×Addr)) (fp:List Addr),PE (X.blk s H scope (compEnvC scope cl C X.env) fp) elt te)(hs:∀x,foldedSetIterable iter X.env x=pure x:=by intro _;rfl):
  PE X (.ListComp elt [⟨tg,iter,ifs,0⟩] scope pos) (tLc wi g tt te (own.map (·.2))):=by
 intro pins s σ H Q I h
 rw[eval_ListComp]
 refine Yx hc hN I hi ok hg ht he hs h fun D C s' m H' I' q hn f=>⟨m,hn,fun h'' sb=>?_⟩
 obtain⟨f0,f1,f2,f3,f4,f5⟩:=f
 exact⟨.ref D,H',I'.turned (t':=s'.toks) (fun b o hb e=>(sb.2 b hb).trans e) f0 f1 f3 f4 f5,rfl,q⟩
theorem ab4{i:Nat}{y:Str}{py:Pos}{elt tg iter:Expr}{ifs:List Expr}{scope:Scope}{own:List (Str×Nat)}{pos spos:Pos}{wi:TI}{g:TG}{tt:TT}{te:TE}(hc:X.calm=true)(hN:X.N.Nodup)(hy:X.N[i]? =some y)(hyl:X.env.scope.names.lookup y=some .local)
  (hsw:swapsWith (.ListComp elt [⟨tg,iter,ifs,0⟩] scope pos) (some (.Name y py)) spos.line X.env=pure true)(hi:PI X tg iter wi)(ok:Ud X.N X.env.scope scope own)
  (hg:∀(s:Shared) (H:Hp) (C:Addr) (cl:List (Str×Addr)) (fp:List Addr),PG (X.blk s H scope (compEnvC scope cl C X.env) fp) tg g)(ht:∀(s:Shared) (H:Hp) (C:Addr) (cl:List (Str×Addr)) (fp:List Addr),PTs (X.blk s H scope (compEnvC scope cl C X.env) fp) ifs tt)
  (he:∀(s:Shared) (H:Hp) (C:Addr) (cl:List (Str×Addr)) (fp:List Addr),PE (X.blk s H scope (compEnvC scope cl C X.env) fp) elt te)(hs:∀x,foldedSetIterable iter X.env x=pure x:=by intro _;rfl):
  PS X (.Assign [.Name y py] (.ListComp elt [⟨tg,iter,ifs,0⟩] scope pos) spos) (afP (tLc wi g tt te (own.map (·.2))) (QX i)):=by
 intro pins s σ H D I h
 rw[exec_Assign_Name_used _ _ _ _ hsw]
 refine aR (wpAny_standAt (aR ?_))
 show wpAny _ X.A (do let _<-comprehension (.ListComp elt [⟨tg,iter,ifs,0⟩] scope pos) scope X.env (firstIterPos [⟨tg,iter,ifs,0⟩] pos) (newList []) false (eval iter X.env) (some (assign (.Name y py) X.env))) _ _ s
 have h:tLc wi g tt te (own.map (·.2)) σ H (fun x H1=>QX i x σ H1 D.nx):=h
 refine aR (jk (Yx (Qf:=fun _ s'=>SP X pins D .next s') hc hN I hi ok hg ht he hs h fun L C s' m H' I' q hn f=>?_) fun _ s' hq=>bW (bW hq))
 show wpAny _ _ (assign (.Name y py) X.env (.ref L)) _ _ _
 refine wpAny_assign_Name (Rv (v:=V.ref L) I' hN hy (.inl hyl) rfl (fun s2 I2 ⟨a,sb,ha⟩=>?_) (.inr hyl))
 obtain⟨f0,f1,f2,f3,f4,f5⟩:=f
 have haC:C≠a:=by
  rcases ha with z|z
  .rw[z];exact f1
  .exact fun e=>f4 y a z e.symm
 refine⟨m,hn.sameBut sb haC,fun h3 sb3=>?_⟩
 exact⟨_,H',I2.turned (t':=s2.toks) (fun b o hb e=>(sb3.2 b hb).trans e) f0 f1 f3 f4 f5,q⟩
end
theorem DY{K:bw}{a:Addr}{xs:List V}{g:TG}{tt:TT}{te:TE}{vs:List Nat}{σ:St}{H1:Hp}{D:Addr}{Qd:Hp->Prop}(Pv:Nat->Hp->Prop)(h0:Pv 0 (upd H1 D (.lst [])))(hl:∀i H,i<=xs.length->Pv i H->bN K H a xs)
  (hs:∀i x H,xs[i]? =some x->Pv i H->g x (wipe σ vs) H fun σ2 H2=>wipe σ2 vs=wipe σ vs/\tt σ2 H2 fun b H3=>
   if b=true then te σ2 H3 fun y H4=>∃acc,H4 D=some (.lst acc)/\acc.length<dM/\Pv (i+1) (upd H4 D (.lst (acc++[y]))) else Pv (i+1) H3)(hd:∀H,Pv xs.length H->Qd H):
  ∃W:Nat->Nat->Hp->Prop,(∃m,W 0 m (upd H1 D (.lst [])))/\∀i m H,W i m H->
   ((Itl K a).stop i H/\Qd H)\/((Itl K a).go i H/\∃Nx:Hp->Prop,(∀H',Nx H'->∃m',m'<m/\W (i+1) m' H')/\∀x H',(Itl K a).yld i H x H'->g x (wipe σ vs) H' fun σ2 H2=>wipe σ2 vs=wipe σ vs/\tt σ2 H2 fun b H3=>
    if b=true then te σ2 H3 fun y H4=>∃acc,H4 D=some (.lst acc)/\acc.length<dM/\Nx (upd H4 D (.lst (acc++[y]))) else Nx H3):=by
 refine⟨fun i m H=>m=xs.length-i/\i<=xs.length/\Pv i H,⟨xs.length,by simp,j_ _,h0⟩,?_⟩
 rintro i m H ⟨rfl,hi,p⟩
 have q:=hl i H hi p
 by_cases hlt:i<xs.length
 .refine .inr ⟨⟨xs,xs[i],q,by simp[hlt]⟩,Pv (i+1),fun H' p'=>⟨xs.length-(i+1),by omega,rfl,hlt,p'⟩,fun x H' y=>?_⟩
  obtain⟨e,y⟩:=y
  subst e
  exact hs i x _ (y xs q) p
 .have e:i=xs.length:=by omega
  subst e
  exact .inl ⟨⟨xs,q,cF _⟩,hd H p⟩
def agd(N:List Str)(sc scope:Scope)(own:List (Str×Nat)):Bool:=
 (match scope.kind with| .function=>true|_=>false)&&(scope.names.all fun y=>decide (scope.names.lookup y.1=some y.2))&&(own.all fun p=>decide (N[p.2]? =some p.1))&&
  (scope.names.all fun y=>match y.2 with
   | .free=>(match sc.names.lookup y.1 with|some .cell=>true|some .free=>true|_=>false)
   | .local=>decide (y.1∈own.map (·.1))||decide (y.1∉N)
   | .cell=>decide (y.1∈own.map (·.1))||decide (y.1∉N)
   |_=>true)
theorem yW{N:List Str}{sc scope:Scope}{own:List (Str×Nat)}(h:agd N sc scope own=true):Ud N sc scope own:=by
 unfold agd at h
 simp only[lB,wU,decide_eq_true_eq] at h
 obtain⟨⟨⟨h1,h2⟩,h3⟩,h4⟩:=h
 refine⟨?_,h2,h3,fun y hy e=>?_,fun y hy e=>?_⟩
 .split at h1
  .assumption
  .cases h1
 .have q:=h4 y hy
  simp only[e] at q
  split at q<;>first|exact .inl (by assumption)|exact .inr (by assumption)|cases q
 .have q:=h4 y hy
  rcases e with e|e<;>(simp only[e,Bool.or_eq_true,decide_eq_true_eq] at q;exact q)
section
variable{κ:Type}[DecidableEq κ]
def iJ(kvs:List (κ×V))(k:κ):Option V:=(kvs.find? fun kv=>decide (kv.1=k)).map (·.2)
def putK(kvs:List (κ×V))(k:κ)(v:V):List (κ×V):=
 if(kvs.any fun kv=>decide (kv.1=k))=true then kvs.map (fun kv=>if kv.1=k then(kv.1,v) else kv) else kvs++[(k,v)]
def Hl(kvs:List (κ×V))(k:κ):List (κ×V):=kvs.filter fun kv=>decide (kv.1≠k)
theorem mH{p:κ×V}{r:List (κ×V)}{k:κ}(e:p.1=k):iJ (p::r) k=some p.2:=by simp[iJ,List.find?_cons,e]
theorem mG{p:κ×V}{r:List (κ×V)}{k:κ}(e:¬p.1=k):iJ (p::r) k=iJ r k:=by simp[iJ,List.find?_cons,e]
theorem wN(k:κ):∀kvs:List (κ×V),(kvs.any fun kv=>decide (kv.1=k))=(iJ kvs k).isSome
 |[]=>rfl
 |p::r=>by
  rw[GP]
  by_cases e:p.1=k
  .simp only[mH e,decide_eq_true e,Bool.true_or,Option.isSome_some]
  .rw[mG e,decide_eq_false e,Bool.false_or];exact wN k r
theorem Wd(k j:κ)(y:V):∀kvs:List (κ×V),iJ (kvs.map fun kv=>if kv.1=k then(kv.1,y) else kv) j=(iJ kvs j).map fun x=>if j=k then y else x
 |[]=>rfl
 |p::r=>by
  have ih:=Wd k j y r
  rw[cU]
  by_cases h:p.1=k
  .rw[if_pos h]
   by_cases e:p.1=j
   .rw[mH (p:=(p.1,y)) e,mH e,Option.map_some,if_pos (e.symm.trans h)]
   .rw[mG (p:=(p.1,y)) e,mG e,ih]
  .rw[if_neg h]
   by_cases e:p.1=j
   .rw[mH (p:=p) e,mH e,Option.map_some,if_neg (fun z=>h (e.trans z))]
   .rw[mG (p:=p) e,mG e,ih]
theorem Ry(k j:κ)(y:V):∀kvs:List (κ×V),iJ kvs k=none->iJ (kvs++[(k,y)]) j=if j=k then some y else iJ kvs j
 |[],_=>by
  by_cases e:k=j
  .rw[if_pos e.symm];exact mH (p:=(k,y)) e
  .rw[if_neg (fun z=>e z.symm)];exact mG (p:=(k,y)) e
 |p::r,hn=>by
  rw[List.cons_append]
  have hk:¬p.1=k:=fun z=>by rw[mH z] at hn;cases hn
  rw[mG hk] at hn
  have ih:=Ry k j y r hn
  by_cases e:p.1=j
  .rw[mH e,mH e,if_neg (fun z=>hk (e.trans z))]
  .rw[mG e,mG e,ih]
theorem DP(kvs:List (κ×V))(k j:κ)(y:V):iJ (putK kvs k y) j=if j=k then some y else iJ kvs j:=by
 unfold putK
 by_cases a:(kvs.any fun kv=>decide (kv.1=k))=true
 .rw[if_pos a,Wd]
  rw[wN] at a
  by_cases e:j=k
  .obtain⟨x,hx⟩:=Qq.mp a
   rw[if_pos e,e,hx,Option.map_some,if_pos rfl]
  .rw[if_neg e]
   cases iJ kvs j with
   |none=>rfl
   |some x=>rw[Option.map_some,if_neg e]
 .rw[if_neg a]
  refine Ry k j y kvs ?_
  rw[wN] at a
  cases q:iJ kvs k with
  |none=>rfl
  |some x=>rw[q] at a;exact(a rfl).elim
theorem qw(kvs:List (κ×V))(k:κ)(v:V):(putK kvs k v).length<=kvs.length+1:=by
 unfold putK
 split
 .rw[aW];omega
 .rw[dN,pD,BJ];omega
theorem ab5{kvs:List (κ×V)}{k:κ}(v:V)(h:iJ kvs k=none):putK kvs k v=kvs++[(k,v)]:=by
 unfold putK
 rw[wN,h]
 exact if_neg (by decide)
theorem GC.vB{o:Option V}{u:Option Value}(r:GC o u):o.isSome=u.isSome:=by
 cases o with
 |none=>cases u with
  |none=>rfl
  |some _=>exact(show False from r).elim
 |some _=>cases u with
  |none=>exact(show False from r).elim
  |some _=>rfl
theorem KV.val{kvs:List (κ×V)}{vs:List (κ×Value)}(r:KV kvs vs)(k:κ):GC (iJ kvs k) (valueAt vs k):=by
 unfold KV at r
 induction r with
 |nil=>exact True.intro
 | @cons p q ps qs h t ih=>
  obtain⟨h1,h2⟩:=h
  by_cases e:p.1=k
  .have e':q.1=k:=h1.symm.trans e
   have b:valueAt (q::qs) k=some q.2:=by simp[valueAt,List.find?_cons,e']
   rw[mH e,b];exact h2
  .have e':¬q.1=k:=fun z=>e (h1.trans z)
   have b:valueAt (q::qs) k=valueAt qs k:=by simp[valueAt,List.find?_cons,e']
   rw[mG e,b];exact ih
theorem KV.any{kvs:List (κ×V)}{vs:List (κ×Value)}(r:KV kvs vs)(k:κ):(kvs.any fun kv=>decide (kv.1=k))=vs.any fun kv=>decide (kv.1=k):=by
 unfold KV at r
 induction r with
 |nil=>rfl
 |cons h t ih=>rw[GP,GP,ih,h.1]
theorem KV.repl{kvs:List (κ×V)}{vs:List (κ×Value)}(r:KV kvs vs)(k:κ){y:V}{u:Value}(ry:RelV y u):
  KV (kvs.map fun kv=>if kv.1=k then(kv.1,y) else kv) (vs.map fun kv=>if kv.1=k then(kv.1,u) else kv):=by
 unfold KV at r ⊢
 induction r with
 |nil=>exact .nil
 | @cons p q ps qs h t ih=>
  rw[cU,cU]
  refine .cons ?_ ih
  obtain⟨h1,h2⟩:=h
  by_cases e:p.1=k
  .rw[if_pos e,if_pos (h1.symm.trans e)];exact⟨h1,ry⟩
  .rw[if_neg e,if_neg (fun z=>e (h1.trans z))];exact⟨h1,h2⟩
theorem KV.put{kvs:List (κ×V)}{vs:List (κ×Value)}(r:KV kvs vs)(k:κ){y:V}{u:Value}(ry:RelV y u):KV (putK kvs k y) (stored vs k u):=by
 unfold putK stored
 rw[r.any k]
 by_cases e:(vs.any fun kv=>decide (kv.1=k))=true
 .rw[if_pos e,if_pos e];exact r.repl k ry
 .rw[if_neg e,if_neg e];exact Paired.snoc r ⟨rfl,ry⟩
theorem KV.drop{kvs:List (κ×V)}{vs:List (κ×Value)}(r:KV kvs vs)(k:κ):KV (Hl kvs k) (without vs k):=by
 unfold KV at r ⊢
 unfold Hl without
 induction r with
 |nil=>exact .nil
 | @cons p q ps qs h t ih=>
  obtain⟨h1,h2⟩:=h
  rw[wV,wV]
  by_cases e:p.1=k
  .have a:¬decide (p.1≠k)=true:=by simp[e]
   have b:¬decide (q.1≠k)=true:=by simp[h1.symm.trans e]
   rw[if_neg a,if_neg b];exact ih
  .have e':¬q.1=k:=fun z=>e (h1.trans z)
   have a:decide (p.1≠k)=true:=by simp[e]
   have b:decide (q.1≠k)=true:=by simp[e']
   rw[if_pos a,if_pos b];exact .cons ⟨h1,h2⟩ ih
theorem KV.length{kvs:List (κ×V)}{vs:List (κ×Value)}(r:KV kvs vs):kvs.length=vs.length:=gC r
theorem Uz(kvs:List (κ×V))(k:κ):(Hl kvs k).length<=kvs.length:=List.length_filter_le _ _
end
theorem J2{P:Program}{w:World}{k:Key}{u:Value}(r:RelV (kV k) u):(jm P w).is k u=true:=by
 cases k with
 |inl i=>obtain⟨t,e⟩:=(show ∃t,u=Value.int i t from r);subst e;exact Vl P w i t
 |inr x=>obtain⟨t,e⟩:=(show ∃t,u=Value.str x t from r);subst e;exact Vm P w x t
theorem Q0{P:Program}{w:World}:∀{ks:List Key} {us:List Value},Vals (ks.map kV) us->ItemsAre (jm P w) ks us
 |[],_,r=>by rw[GK] at r;cases r;exact .nil
 |k::ks,_,r=>by
  rw[cU] at r
  cases r with
  |cons h t=>exact .cons (J2 h) (Q0 t)
abbrev KT(H:Hp):List (List Key×V)->List (List Key×Addr×Value)->Prop:=Paired fun p q=>p.1=q.1/\H q.2.1=some (.tup (p.1.map kV))/\RelV p.2 q.2.2
theorem KT.val{H:Hp}{kvs:List (List Key×V)}{xs:List (List Key×Addr×Value)}(r:KT H kvs xs)(k:List Key):GC (iJ kvs k) ((atKey xs k).map (·.2)):=by
 induction r with
 |nil=>exact True.intro
 | @cons p q ps qs h t ih=>
  obtain⟨h1,_,h2⟩:=h
  by_cases e:p.1=k
  .have e':q.1=k:=h1.symm.trans e
   have b:atKey (q::qs) k=some q.2:=by simp[atKey,List.find?_cons,e']
   rw[mH e,b];exact h2
  .have e':¬q.1=k:=fun z=>e (h1.trans z)
   have b:atKey (q::qs) k=atKey qs k:=by simp[atKey,List.find?_cons,e']
   rw[mG e,b];exact ih
theorem KT.repl{H:Hp}{kvs:List (List Key×V)}{xs:List (List Key×Addr×Value)}(r:KT H kvs xs)(k:List Key){y:V}{u:Value}(ry:RelV y u):
  KT H (kvs.map fun kv=>if kv.1=k then(kv.1,y) else kv) (xs.map (putAt k u)):=by
 induction r with
 |nil=>exact .nil
 | @cons p q ps qs h t ih=>
  rw[cU,cU]
  refine .cons ?_ ih
  obtain⟨h1,h2,h3⟩:=h
  unfold putAt
  by_cases e:p.1=k
  .rw[if_pos e,if_pos (h1.symm.trans e)];exact⟨h1,h2,ry⟩
  .rw[if_neg e,if_neg (fun z=>e (h1.trans z))];exact⟨h1,h2,h3⟩
theorem KT.put{H:Hp}{kvs:List (List Key×V)}{xs:List (List Key×Addr×Value)}(r:KT H kvs xs)(k:List Key){b:Addr}{y:V}{u:Value}(hb:H b=some (.tup (k.map kV)))(ry:RelV y u):
  KT H (putK kvs k y) (storedH xs k b u):=by
 have e:(kvs.any fun kv=>decide (kv.1=k))=(atKey xs k).isSome:=by
  rw[wN,(r.val k).vB,Option.isSome_map]
 unfold putK storedH
 rw[e]
 by_cases q:(atKey xs k).isSome=true
 .rw[if_pos q,if_pos q];exact r.repl k ry
 .rw[if_neg q,if_neg q];exact Paired.snoc r ⟨rfl,hb,ry⟩
theorem KT.keeps{H H':Hp}{kvs:List (List Key×V)}{xs:List (List Key×Addr×Value)}(r:KT H kvs xs)(ht:∀b ys,H b=some (.tup ys)->H' b=some (.tup ys)):KT H' kvs xs:=
 Paired.iM r fun _ _ z=>⟨z.1,ht _ _ z.2.1,z.2.2⟩
section
variable{P:Program}{w:World}{H:Hp}{h:Heap}{a:Addr}
theorem ael{u:HO}(ok:xO P w H h)(e:Rd H a u):iC P w H h a u:=e.ok ok
theorem Mm{kvs:List (Key×V)}(ok:xO P w H h)(e:Rd H a (.dK kvs)):kvs.length<=dM/\(a==sysModules)=false/\∃vs,KV kvs vs/\h.DictOf (jm P w) a vs:=
 show iC P w H h a (.dK kvs) from ael ok e
theorem aba{kvs:List (Key×V)}(ok:xO P w H h)(e:H a=some (.dK kvs)):kvs.length<=dM/\(a==sysModules)=false/\∃vs,KV kvs vs/\h.DictOf (jm P w) a vs:=Mm ok (.inl e)
theorem Jj{ks:List Key}(ok:xO P w H h)(e:H a=some (.tup (ks.map kV))):(tupleKind (jm P w)).is h ks a:=by
 obtain⟨_,its,r,o,h1,h2,n,h3⟩:=(show iC P w H h a (.tup (ks.map kV)) from ok a _ e)
 exact⟨o,its.toArray,n,h1,h2,h3,by simpa using Q0 r⟩
theorem QK{kvs:List (List Key×V)}(ok:xO P w H h)(e:Rd H a (.dT kvs)):kvs.length<=dM/\(a==sysModules)=false/\
  ∃xs,KT H kvs xs/\h.DictOfH (tupleKind (jm P w)) a xs:=by
 obtain⟨z,y,xs,r,o,es,ep,h1,h2,h3,h4,h5⟩:=(show iC P w H h a (.dT kvs) from ael ok e)
 refine⟨z,y,xs,r,o,es,ep,h1,h2,h3,h4,fun x hx=>?_,h5⟩
 have all:∀{l:List (List Key×V)} {m:List (List Key×Addr×Value)},KT H l m->∀x∈m,(tupleKind (jm P w)).is h x.1 x.2.1:=by
  intro l m q
  induction q with
  |nil=>intro x hx;exact nomatch hx
  | @cons p q ps qs hq t ih=>
   intro x hx
   rcases bU.mp hx with e|hx
   .subst e
    exact Jj ok (by rw[<-hq.1];exact hq.2.1)
   .exact ih x hx
 exact all r x hx
theorem abe{kvs:List (List Key×V)}(ok:xO P w H h)(e:H a=some (.dT kvs)):kvs.length<=dM/\(a==sysModules)=false/\
  ∃xs,KT H kvs xs/\h.DictOfH (tupleKind (jm P w)) a xs:=QK ok (.inl e)
end
def zJ(H:Hp)(a:Addr)(y:V)(r:Option V):Prop:=
 (∃kvs k,Rd H a (.dK kvs)/\y=kV k/\r=iJ kvs k)\/∃kvs k b,Rd H a (.dT kvs)/\y= .ref b/\H b=some (.tup (k.map kV))/\r=iJ kvs k
def RC(H:Hp)(a:Addr)(y v:V)(H':Hp):Prop:=
 (∃kvs k,H a=some (.dK kvs)/\y=kV k/\kvs.length<dM/\H'=upd H a (.dK (putK kvs k v)))\/
 ∃kvs k b,H a=some (.dT kvs)/\y= .ref b/\H b=some (.tup (k.map kV))/\kvs.length<dM/\H'=upd H a (.dT (putK kvs k v))
theorem zJ.k{H:Hp}{a:Addr}{kvs:List (Key×V)}{k:Key}(e:H a=some (.dK kvs)):zJ H a (kV k) (iJ kvs k):= .inl ⟨kvs,k,.inl e,rfl,rfl⟩
theorem zJ.t{H:Hp}{a b:Addr}{kvs:List (List Key×V)}{k:List Key}(e:H a=some (.dT kvs))(eb:H b=some (.tup (k.map kV))):zJ H a (.ref b) (iJ kvs k):= .inr ⟨kvs,k,b,.inl e,rfl,eb,rfl⟩
theorem RC.k{H:Hp}{a:Addr}{kvs:List (Key×V)}{k:Key}{v:V}(e:H a=some (.dK kvs))(hl:kvs.length<dM):RC H a (kV k) v (upd H a (.dK (putK kvs k v))):= .inl ⟨kvs,k,e,rfl,hl,rfl⟩
theorem RC.t{H:Hp}{a b:Addr}{kvs:List (List Key×V)}{k:List Key}{v:V}(e:H a=some (.dT kvs))(eb:H b=some (.tup (k.map kV)))(hl:kvs.length<dM):
  RC H a (.ref b) v (upd H a (.dT (putK kvs k v))):= .inr ⟨kvs,k,b,e,rfl,eb,hl,rfl⟩
section
variable{X:Cx}{pins:List (Addr×Obj)}{σ:St}{H:Hp}{s:Shared}{a:Addr}{y v:V}{u r:Value}{o:Option V}{A:Around}{E:Value->Shared->Prop}
theorem Inv.big(I:Inv X pins σ H s):sysModules<s.heap.objs.size:=by
 have h:lA<s.heap.objs.size:=(I.mod.glob.keeps I.bk).lt
 exact Nat.lt_trans (by decide) h
theorem Zw{Q:Value->Shared->Prop}(hu:A.units+1<cLine)(I:Inv X pins σ H s)(g:zJ H a y (some v))(ry:RelV y u)(h:∀w' s',Inv X pins σ H s'->RelV v w'->Q w' s'):
  wpAny (model X.prog X.w) A (getItem (.ref a) u) Q E s:=by
 rcases g with⟨kvs,k,e,ey,l⟩|⟨kvs,k,b,e,ey,eb,l⟩
 .subst ey
  obtain⟨z,hd,vs,rel,dd⟩:=Mm I.hok e
  obtain⟨w',hw,Tr⟩:=GC.some_of (v:=v) (o:=valueAt vs k) (by rw[l];exact rel.val k)
  exact wpAny_getItem_of (J2 ry) dd.mapOf hw (h w' _ (I.tok _) Tr)
 .subst ey
  cases(show u=Value.ref b from ry)
  obtain⟨z,hd,xs,rel,dd⟩:=QK I.hok e
  obtain⟨w',hw,Tr⟩:=GC.some_of (v:=v) (o:=(atKey xs k).map (·.2)) (by rw[l];exact rel.val k)
  obtain⟨p,hp,hp2⟩:=Option.map_eq_some_iff.mp hw
  refine wpAny_getItem_heap (tupleKind_room_in1 hu) (Jj I.hok eb) dd hp ?_
  rw[hp2]
  exact h w' _ (I.tok _) Tr
theorem ag8{Q:Value->Shared->Prop}(hu:A.units+1<cLine)(I:Inv X pins σ H s)(g:zJ H a y o)(ry:RelV y u)(h:∀s',Inv X pins σ H s'->Q (.bool o.isSome) s'):
  wpAny (model X.prog X.w) A (compareOp .In u (.ref a)) Q E s:=by
 rcases g with⟨kvs,k,e,ey,l⟩|⟨kvs,k,b,e,ey,eb,l⟩
 .subst ey
  obtain⟨z,hd,vs,rel,dd⟩:=Mm I.hok e
  refine wpAny_in_of (J2 ry) hd dd.mapOf ?_
  rw[<-(rel.val k).vB,<-l]
  exact h _ (I.tok _)
 .subst ey
  cases(show u=Value.ref b from ry)
  obtain⟨z,hd,xs,rel,dd⟩:=QK I.hok e
  refine wpAny_in_heap (tupleKind_room_in1 hu) (Jj I.hok eb) hd dd ?_
  have q:=(rel.val k).vB
  rw[Option.isSome_map] at q
  rw[<-q,<-l]
  exact h _ (I.tok _)
theorem ac5{Q:Value->Shared->Prop}(hu:A.units+1<cLine)(I:Inv X pins σ H s)(g:zJ H a y o)(ry:RelV y u)(h:∀s',Inv X pins σ H s'->Q (.bool (!o.isSome)) s'):
  wpAny (model X.prog X.w) A (compareOp .NotIn u (.ref a)) Q E s:=by
 rcases g with⟨kvs,k,e,ey,l⟩|⟨kvs,k,b,e,ey,eb,l⟩
 .subst ey
  obtain⟨z,hd,vs,rel,dd⟩:=Mm I.hok e
  refine wpAny_notIn_of (J2 ry) hd dd.mapOf ?_
  rw[<-(rel.val k).vB,<-l]
  exact h _ (I.tok _)
 .subst ey
  cases(show u=Value.ref b from ry)
  obtain⟨z,hd,xs,rel,dd⟩:=QK I.hok e
  refine wpAny_notIn_heap (tupleKind_room_in1 hu) (Jj I.hok eb) hd dd ?_
  have q:=(rel.val k).vB
  rw[Option.isSome_map] at q
  rw[<-q,<-l]
  exact h _ (I.tok _)
theorem Hh{h':Heap}{t':Nat}{ob:HO}(I:Inv X pins σ H s)(mu:Mut (H a))(hs:Heap.SameBut a s.heap h')(he:∃q,h'.get? a=some q)(new:iC X.prog X.w (upd H a ob) h' a ob):
  Inv X pins σ (upd H a ob) {s with heap:=h',toks:=t'}:=
 I.write (x:=a) (e:=a) mu (.inl rfl) (fun b q hb z=>(hs.2 b hb).trans z) he new
theorem WQ{P:Program}{w:World}{H':Hp}{h':Heap}{kvs:List (Key×V)}{vs:List (Key×Value)}(z:kvs.length<=dM)(hd:(a==sysModules)=false)(rel:KV kvs vs)(dd:h'.DictOf (jm P w) a vs):
  iC P w H' h' a (.dK kvs):=⟨z,hd,vs,rel,dd⟩
theorem Zx{H':Hp}{Q:Unit->Shared->Prop}(hu:A.units+1<cLine)(I:Inv X pins σ H s)(g:RC H a y v H')(ry:RelV y u)(rv:RelV v r)(h:∀s',Inv X pins σ H' s'->Q () s'):
  wpAny (model X.prog X.w) A (setItem (.ref a) u r) Q E s:=by
 rcases g with⟨kvs,k,e,ey,l,eH⟩|⟨kvs,k,b,e,ey,eb,l,eH⟩
 .subst ey eH
  obtain⟨z,hd,vs,rel,dd⟩:=aba I.hok e
  have hz:vs.length<=dM:=by rw[<-rel.length];exact z
  have hl:(putK kvs k v).length<=dM:=by have:=qw kvs k v;omega
  refine wpAny_setItem_pairs (hsz:=hz) (J2 ry) dd fun h' dd' hs=>h _ ?_
  have he:∃q,h'.get? a=some q:=let⟨q,_,_,hq,_⟩:=dd';⟨q,hq⟩
  exact Hh I (by rw[e];exact True.intro) hs he (WQ hl hd (rel.put k rv) dd')
 .subst ey eH
  cases(show u=Value.ref b from ry)
  obtain⟨z,hd,xs,rel,dd⟩:=abe I.hok e
  have hz:xs.length<=dM:=by rw[<-gC rel];exact z
  have hl:(putK kvs k v).length<=dM:=by have:=qw kvs k v;omega
  refine wpAny_setItem_heap (hsz:=hz) (tupleKind_room_in1 hu) (Jj I.hok eb) dd fun h' dd' hs=>h _ ?_
  obtain⟨q,es,ep,hq,h2,h3,h4,_,h5⟩:=dd'
  refine Hh I (by rw[e];exact True.intro) hs ⟨q,hq⟩ ⟨hl,hd,_,(rel.put k eb rv).keeps fun c ys ec=>?_,q,es,ep,hq,h2,h3,h4,h5⟩
  rw[aD (vX ec e (fun z=>nomatch z))]
  exact ec
end
section
variable{X:Cx}{pins:List (Addr×Obj)}{σ:St}{H:Hp}{s:Shared}{a:Addr}{kvs:List (Key×V)}{k:Key}{u:Value}{A:Around}{E:Value->Shared->Prop}
theorem afZ{Q:Unit->Shared->Prop}(I:Inv X pins σ H s)(e:H a=some (.dK kvs))(ry:RelV (kV k) u)(l:(iJ kvs k).isSome=true)(h:∀s',Inv X pins σ (upd H a (.dK (Hl kvs k))) s'->Q () s'):
  wpAny (model X.prog X.w) A (delItem (.ref a) u) Q E s:=by
 obtain⟨z,hd,vs,rel,dd⟩:=aba I.hok e
 refine wpAny_delItem_slot dd.typeIs (by decide) PySem.F.slot_dict_delitem
  (call_meetsIn PySem.F.slot_dict_delitem dd.typeIs PySem.F.entry_dict_delitem (PySem.F.args_dict_delitem_2 _ _) (meets_dict_delitem_pairs (jm X.prog X.w) a (J2 ry)) ⟨vs,dd,by rw[<-rel.length];exact z,by rw[<-(rel.val k).vB];exact l,fun h' dd' hs=>h _ ?_⟩)
 have he:∃q,h'.get? a=some q:=let⟨q,_,_,hq,_⟩:=dd';⟨q,hq⟩
 exact Hh I (by rw[e];exact True.intro) hs he (WQ (mR (Uz kvs k) z) hd (rel.drop k) dd')
theorem agf{v:V}{more:List Value}{Q:Value->Shared->Prop}(I:Inv X pins σ H s)(e:H a=some (.dK kvs))(ry:RelV (kV k) u)(l:iJ kvs k=some v)(hm:more=[]\/∃x,more=[x])
  (h:∀w' s',Inv X pins σ (upd H a (.dK (Hl kvs k))) s'->RelV v w'->Q w' s'):wpAny (model X.prog X.w) A (call (.builtin "dict.pop") (.ref a::u::more)) Q E s:=by
 obtain⟨z,hd,vs,rel,dd⟩:=aba I.hok e
 obtain⟨w',hw,Tr⟩:=GC.some_of (v:=v) (o:=valueAt vs k) (by rw[<-l];exact rel.val k)
 have hp:(keyPart u).isSome=true:=by
  cases k with
  |inl i=>obtain⟨t,q⟩:=(show ∃t,u=Value.int i t from ry);subst q;rfl
  |inr x=>obtain⟨t,q⟩:=(show ∃t,u=Value.str x t from ry);subst q;rfl
 have ha:argsOk "dict.pop" ⟨.ref a::u::more,[]⟩:=by
  rcases hm with q|⟨x,q⟩
  .subst q;exact PySem.F.args_dict_pop_2 _ _
  .subst q;exact PySem.F.args_dict_pop_3 _ _ _
 refine call_meetsIn PySem.F.slot_dict_pop dd.typeIs PySem.F.entry_dict_pop ha (meets_dict_pop_there (jm X.prog X.w) a (J2 ry) more hm hp)
  ⟨vs,w',dd,by rw[<-rel.length];exact z,hw,fun h' dd' hs=>h w' _ ?_ Tr⟩
 have he:∃q,h'.get? a=some q:=let⟨q,_,_,hq,_⟩:=dd';⟨q,hq⟩
 exact Hh I (by rw[e];exact True.intro) hs he (WQ (mR (Uz kvs k) z) hd (rel.drop k) dd')
theorem age{Q:Value->Shared->Prop}(I:Inv X pins σ H s)(e:Rd H a (.dK kvs))(h:∀t s',Inv X pins σ H s'->Q (.int kvs.length t) s'):wpAny (model X.prog X.w) A (call (.builtin "len") [.ref a]) Q E s:=by
 obtain⟨z,hd,vs,rel,dd⟩:=Mm I.hok e
 refine call_len_dict hd dd (by rw[<-rel.length];rw[Es] at z;omega) ?_
 rw[<-rel.length]
 exact h _ _ (I.tok _)
end
def aeA(i:Expr):Prop:=∀ov iv,subscripted i false ov iv=operate [ov,iv] (getItem ov iv)
theorem YZ{prog:Program}{w:World}{A:Around}{E:Value->Shared->Prop}{s:Shared}{env:Env}{value slice:Expr}{pos:Pos}{T id:String}{Q:Value->Shared->Prop}
  (hl:typeLookup (.type T) "__getitem__"=pure (some (.builtin id)))(hs:aeA slice)
  (h:wpAny (model prog w) A (eval value env) (fun o s₁=>wpAny (model prog w) A (eval slice env) (fun i s₂=>s₂.TypeIs o T/\wpAny (model prog w) A (getItem o i) Q E s₂) E s₁) E s):
  wpAny (model prog w) A (eval (.Subscript value slice pos) env) Q E s:=by
 refine Subscript_ (qF h (fun o s₁ h₁=>qF h₁ (fun i s₂ h₂=>?_) fun _ _ x=>x) fun _ _ x=>x)
 obtain⟨hT,h₂⟩:=h₂
 unfold subscriptTail
 refine aR ?_
 rw[getitemInPython_of_ne hT.not_modules]
 refine aR (wpAny_specialOf hT hl ?_)
 have fin:wpAny (model prog w) A (subscripted slice false o i) (fun r s₃=>wpAny (model prog w) A (letTemporaryGo value o r>>=fun _=>pure r) Q E s₃) E s₂:=by
  rw[hs o i]
  exact wpAny_operating (qF h₂ (fun r s₃ h₃=>aR (wpAny_letTemporaryGo (bW h₃))) fun _ _ x=>x)
 first
  |exact bW (aR fin)
  |exact aR (bW (aR fin))
  |exact aR fin
theorem Ux{X:Cx}{pins:List (Addr×Obj)}{σ:St}{H:Hp}{s:Shared}{a:Addr}{y:V}{o:Option V}(I:Inv X pins σ H s)(g:zJ H a y o):s.TypeIs (.ref a) "dict":=by
 rcases g with⟨kvs,k,e,_,_⟩|⟨kvs,k,b,e,_,_,_⟩
 .obtain⟨_,_,vs,_,dd⟩:=Mm I.hok e
  exact dd.typeIs
 .obtain⟨_,_,xs,_,dd⟩:=QK I.hok e
  exact dd.typeIs
def agS(td ty:TE):TE:=fun σ H Q=>td σ H fun x H1=>ty σ H1 fun y H2=>∃a v,x= .ref a/\zJ H2 a y (some v)/\Q v H2
def agT(ty td:TE):TE:=fun σ H Q=>ty σ H fun y H1=>td σ H1 fun x H2=>∃a o,x= .ref a/\zJ H2 a y o/\Q (.bl o.isSome) H2
def Y0(ty td:TE):TE:=fun σ H Q=>ty σ H fun y H1=>td σ H1 fun x H2=>∃a o,x= .ref a/\zJ H2 a y o/\Q (.bl (!o.isSome)) H2
def agL(td ty tv:TE):TS:=fun D σ H=>tv σ H fun v H1=>td σ H1 fun x H2=>ty σ H2 fun y H3=>∃a H4,x= .ref a/\RC H3 a y v H4/\D.nx σ H4
section
variable{X:Cx}{o i e value:Expr}{pos pos' tpos:Pos}{td ty tv:TE}
theorem Te(hu:X.A.units+1<cLine)(ho:PE X o td)(hi:PE X i ty)(hs:aeA i):PE X (.Subscript o i pos) (agS td ty):=by
 intro pins s σ H Q I h
 refine YZ PySem.F.slot_dict_getitem.lookup hs (jk (ho pins s σ H _ I h) fun u s1 ⟨x,H1,I1,rx,q1⟩=>jk (hi pins s1 σ H1 _ I1 q1) fun iv s2 ⟨y,H2,I2,ry,a,v,ex,g,q2⟩=>?_)
 subst ex
 obtain rfl:u=Value.ref a:=rx
 exact⟨Ux I2 g,Zw hu I2 g ry fun w' s3 I3 Tr=>⟨v,H2,I3,Tr,q2⟩⟩
theorem afm(hu:X.A.units+1<cLine)(hi:PE X i ty)(ho:PE X o td):PC X .In i o (agT ty td):=by
 intro pins s σ H Q I h
 refine jk (hi pins s σ H _ I h) fun iv s1 ⟨y,H1,I1,ry,q1⟩=>jk (ho pins s1 σ H1 _ I1 q1) fun u s2 ⟨x,H2,I2,rx,a,ov,ex,g,q2⟩=>?_
 subst ex
 obtain rfl:u=Value.ref a:=rx
 exact ag8 hu I2 g ry fun s3 I3=>⟨.bl ov.isSome,H2,I3,rfl,q2⟩
theorem Ec(hu:X.A.units+1<cLine)(hi:PE X i ty)(ho:PE X o td):PC X .NotIn i o (Y0 ty td):=by
 intro pins s σ H Q I h
 refine jk (hi pins s σ H _ I h) fun iv s1 ⟨y,H1,I1,ry,q1⟩=>jk (ho pins s1 σ H1 _ I1 q1) fun u s2 ⟨x,H2,I2,rx,a,ov,ex,g,q2⟩=>?_
 subst ex
 obtain rfl:u=Value.ref a:=rx
 exact ac5 hu I2 g ry fun s3 I3=>⟨.bl (!ov.isSome),H2,I3,rfl,q2⟩
theorem Ti(hu:X.A.units+1<cLine)(ho:PE X o td)(hi:PE X i ty)(hv:PE X value tv)(hs:swapsWith value (some (.Subscript o i pos')) pos.line X.env=pure false):
  PS X (.Assign [.Subscript o i pos'] value pos) (agL td ty tv):=by
 intro pins s σ H D I h
 refine wpAny_Assign_Subscript (jk (hv pins s σ H _ I h) fun r s1 ⟨v,H1,I1,rv,q1⟩=>jk (ho pins s1 σ H1 _ I1 q1) fun u s2 ⟨x,H2,I2,rx,q2⟩=>jk (hi pins s2 σ H2 _ I2 q2) fun iv s3 ⟨y,H3,I3,ry,a,H4,ex,g,q3⟩=>?_) hs
 subst ex
 obtain rfl:u=Value.ref a:=rx
 exact Zx hu I3 g ry rv fun s4 I4=>⟨σ,H4,I4,q3⟩
end
theorem aa'{P:Program}{w:World}{H:Hp}(h:Heap)(hb:sysModules<h.objs.size):iC P w H (h.push {cls:= .type "dict",data:= .dict #[]}) h.objs.size (.dK []):=
 ⟨j_ _,beq_eq_false_iff_ne.mpr (Ne.symm (rR hb)),[],.nil,Heap.DictOf.new h⟩
theorem abd{P:Program}{w:World}{H:Hp}(h:Heap)(hb:sysModules<h.objs.size):iC P w H (h.push {cls:= .type "dict",data:= .dict #[]}) h.objs.size (.dT []):=
 ⟨j_ _,beq_eq_false_iff_ne.mpr (Ne.symm (rR hb)),[],.nil,_,#[],0,uc _ rfl,⟨rfl,rfl,rfl⟩,rfl,rfl,List.nodup_nil⟩
def afR:TE:=fun _ H Q=>∀p,H p=none->Q (.ref p) (upd H p (.dK []))
def afS:TE:=fun _ H Q=>∀p,H p=none->Q (.ref p) (upd H p (.dT []))
section
variable{X:Cx}{pos:Pos}
theorem abY:PE X (.Dict [] [] pos) afR:=fun pins s σ H Q I h=>
 wpAny_Dict_empty ⟨.ref s.heap.objs.size,_,I.laid (a:=s.heap.objs.size) (o:= .dK []) (t':=s.toks) (fun _ _ q=>jW _ q) (cF _) (aa' s.heap I.big),rfl,h _ (I.hok.fresh (cF _))⟩
theorem NK:PE X (.Dict [] [] pos) afS:=fun pins s σ H Q I h=>
 wpAny_Dict_empty ⟨.ref s.heap.objs.size,_,I.laid (a:=s.heap.objs.size) (o:= .dT []) (t':=s.toks) (fun _ _ q=>jW _ q) (cF _) (abd s.heap I.big),rfl,h _ (I.hok.fresh (cF _))⟩
end
structure M1(X:Cx)(o:Expr)(m:Str)(apos:Pos)(e:Expr)(cpos:Pos):Prop where
 base:attributeBase o m X.env (eval o X.env)=eval o X.env
 few:((backTo cpos (starEach [e] X.env)).all (fun x=> !x.1)&&(backToKw cpos (keywordEach [] X.env)).all (fun x=>x.1.isSome)
  &&decide (([e]:List Expr).length+([]:List Keyword).length+(if([]:List Keyword).isEmpty then 0 else 1)<30))=true
 line:(apos.endLine==cpos.line)=true
 trees:backTo cpos (starEach [e] X.env)=[(false,eval e X.env)]
structure M2(X:Cx)(o:Expr)(m:Str)(apos:Pos)(e f:Expr)(cpos:Pos):Prop where
 base:attributeBase o m X.env (eval o X.env)=eval o X.env
 few:((backTo cpos (starEach [e,f] X.env)).all (fun x=> !x.1)&&(backToKw cpos (keywordEach [] X.env)).all (fun x=>x.1.isSome)
  &&decide (([e,f]:List Expr).length+([]:List Keyword).length+(if([]:List Keyword).isEmpty then 0 else 1)<30))=true
 line:(apos.endLine==cpos.line)=true
 trees:backTo cpos (starEach [e,f] X.env)=[(false,eval e X.env),(false,eval f X.env)]
def IsD(H:Hp)(a:Addr):Prop:=(∃kvs,Rd H a (.dK kvs))\/∃kvs,Rd H a (.dT kvs)
theorem abD{X:Cx}{pins:List (Addr×Obj)}{σ:St}{H:Hp}{s:Shared}{a:Addr}(I:Inv X pins σ H s)(d:IsD H a):
  s.TypeIs (.ref a) "dict"/\(∀b,Value.ref a= .ref b->∃ob,s.heap.get? b=some ob/\ob.dict=none)/\(a==sysModules)=false:=by
 rcases d with⟨kvs,e⟩|⟨kvs,e⟩
 .obtain⟨_,hd,vs,_,dd⟩:=Mm I.hok e
  refine⟨dd.typeIs,fun b q=>?_,hd⟩
  cases q
  obtain⟨ob,_,_,h1,h2,_⟩:=dd
  exact⟨ob,h1,h2.2.1⟩
 .obtain⟨_,hd,xs,_,dd⟩:=QK I.hok e
  refine⟨dd.typeIs,fun b q=>?_,hd⟩
  cases q
  obtain⟨ob,_,_,h1,h2,_⟩:=dd
  exact⟨ob,h1,h2.2.1⟩
def afT(td ty:TE):TE:=fun σ H Q=>td σ H fun x H1=>∃a,x= .ref a/\IsD H1 a/\ty σ H1 fun y H2=>∃kvs k v,H2 a=some (.dK kvs)/\y=kV k/\iJ kvs k=some v/\Q v (upd H2 a (.dK (Hl kvs k)))
section
variable{X:Cx}{o e f:Expr}{apos cpos:Pos}{td ty tx:TE}
theorem abZ(ho:PE X o td)(he:PE X e ty)(m:M1 X o "pop" apos e cpos):PE X (.Call (.Attribute o "pop" apos) [e] [] cpos) (afT td ty):=by
 intro pins s σ H Q I h
 refine wpAny_Call_method m.base m.few m.line PySem.F.plainAttrs_dict PySem.F.slot_dict_pop PySem.F.type_dict_pop (jk (ho pins s σ H _ I h) fun u s1 ⟨x,H1,I1,rx,a,ex,d,q1⟩=>?_)
 subst ex
 obtain rfl:u=Value.ref a:=rx
 obtain⟨t1,t2,_⟩:=abD I1 d
 refine⟨t1,t2,?_⟩
 rw[m.trees]
 refine Calls.callWith_builtin rfl (Calls.evalArgs_plain (Calls.spliced_cons (jk (he pins s1 σ H1 _ I1 q1) fun iv s2 ⟨y,H2,I2,ry,kvs,k,v,ea,ey,l,q2⟩=>Calls.spliced_nil ?_)))
 subst ey
 exact agf I2 ea ry l (.inl rfl) fun w' s3 I3 Tr=>⟨v,_,I3,Tr,q2⟩
end
section
variable{X:Cx}{pins:List (Addr×Obj)}{σ:St}{H:Hp}{s:Shared}{h':Heap}
theorem Inv.T9{t':Nat}{ch:List Addr}(I:Inv X pins σ H s)(k:∀b o,b∉ch->s.heap.get? b=some o->h'.get? b=some o)(hf:∀b∈ch,Em X pins H b):Inv X pins σ H {s with heap:=h',toks:=t'}:=by
 have nit:∀b u,H b=some u->b∉ch:=fun b u e z=>by
  have q:=(hf b z).1
  rw[q] at e;cases e
 refine I.step (g':=s.gens) (d':=s.drawn) (ch:=ch) (fun b hb=>⟨(hf b hb).2.2.2.1,(hf b hb).2.1,(hf b hb).2.2.2.2.1,(hf b hb).2.2.2.2.2⟩) (fun b o _ _ hc e _=>k b o hc e) (fun b o _ _ hc e _=>⟨o.slots,k b o hc e⟩)
  (fun _ _ _ _ n=>n) (fun b o hc e=>⟨o,k b o hc e⟩) (fun _ _ e=>e) (fun _ _ _ e=>e) (fun b ps e=>⟨#[],by rw[e];simp⟩) (fun m hm=>?_) (fun b u e=>?_) I.bare
 .obtain⟨o,es,ep,ho,r⟩:=hm
  exact⟨o,es,ep,k _ o (fun z=>(hf _ z).2.1 rfl) ho,r⟩
 .refine(I.hok b u e).stay (fun c v hc q=>k c v ?_ q) (fun _ q=>q) fun _ _ q=>q
  rcases hc with z|z
  .rw[z];exact nit b u e
  .exact nit c _ z
theorem Inv.aay{t':Nat}{ch:List Addr}{T:Addr}{ob:HO}(I:Inv X pins σ H s)(k:∀b o,b∉ch->s.heap.get? b=some o->h'.get? b=some o)(hf:∀b∈ch,Em X pins H b)(hT:s.heap.objs.size<=T)
  (new:iC X.prog X.w (upd H T ob) h' T ob):Inv X pins σ (upd H T ob) {s with heap:=h',toks:=t'}:=by
 have hn:H T=none:=I.hok.fresh hT
 have nit:∀b u,H b=some u->b∉ch:=fun b u e z=>by
  have q:=(hf b z).1
  rw[q] at e;cases e
 refine I.step (g':=s.gens) (d':=s.drawn) (ch:=ch) (fun b hb=>⟨(hf b hb).2.2.2.1,(hf b hb).2.1,(hf b hb).2.2.2.2.1,(hf b hb).2.2.2.2.2⟩) (fun b o _ _ hc e _=>k b o hc e) (fun b o _ _ hc e _=>⟨o.slots,k b o hc e⟩)
  (fun b o _ e n=>?_) (fun b o hc e=>⟨o,k b o hc e⟩) (fun b xs e=>?_) (fun b o u e=>?_) (fun b ps e=>⟨#[],?_⟩) (fun m hm=>?_) (fun b u e=>?_) I.bare
 .rw[aD (rR (wQ (jZ e) hT))];exact n
 .rw[aD (aJ e hn)];exact e
 .rw[aD (aJ e hn)];exact e
 .rw[aD (aJ e hn),e];simp
 .obtain⟨o,es,ep,ho,r⟩:=hm
  exact⟨o,es,ep,k _ o (fun z=>(hf _ z).2.1 rfl) ho,r⟩
 .by_cases hb:b=T
  .subst hb
   rw[ao] at e
   cases e
   exact new
  .rw[aD hb] at e
   refine(I.hok b u e).stay (fun c v hc q=>k c v ?_ q) (fun c q=>by rw[aD (aJ q hn)];exact q) fun c xs q=>by rw[aD (aJ q hn)];exact q
   rcases hc with z|z
   .rw[z];exact nit b u e
   .exact nit c _ z
end
section
variable{prog:Program}{w:World}{A:Around}{E:Value->Shared->Prop}{s:Shared}
theorem ZZ{d:Addr}{o:Obj}{es:Array DictEntry}{ep:Nat}{Q:Value->Shared->Prop}(hd:(d==sysModules)=false)(ho:s.heap.get? d=some o)(hc:o.ExactDict)(hdat:o.data= .dict es ep)
  (hQ:Q (.ref s.heap.objs.size) {s with heap:=s.heap.push {cls:= .type "dict_keyiterator",data:= .fields #[.ref d,.int 0 0,.int es.size 0,.int ep 0]}}):
  wpAny (model prog w) A (pyIter (.ref d)) Q E s:=by
 have hT:s.TypeIs (.ref d) "dict":=⟨o,ho,hc.1⟩
 refine wpAny_pyIter_slot hT F.slot_dict_iter (wpAny_call_entry F.slot_dict_iter hT F.entry_dict_iter ?_ (F.args_dict_iter_1 _))
 unfold Builtin.«dict.__iter__»
 refine aR ?_
 unfold Builtin.Dict.dictSlotNone
 refine aR (wpAny_notOrdered_dict hT ?_)
 show wpAny _ _ (pure (Value.ref d)) _ _ s
 refine bW ?_
 show wpAny _ _ (Builtin.Dict.showsAll d>>=_) _ _ s
 unfold Builtin.Dict.showsAll
 rw[if_neg (by rw[hd];exact iY)]
 refine aR (bW ?_)
 refine aR (wpAny_dictEntries ho hdat ?_)
 refine aR (wpAny_dictEpoch ho hdat ?_)
 refine aR (wpAny_newObj_type (bW ⟨_,rfl,"dict_keyiterator",_,⟨_,uc _ rfl,rfl⟩,Uh.lookup,?_⟩))
 simpa [rawInt] using hQ
theorem Pu{it d:Addr}{i n ep:Nat}{od:Obj}{es:Array DictEntry}{en:DictEntry}{Q:Option Value->Shared->Prop}(hit:s.heap.IsKeyIter it d i n ep)(hod:s.heap.get? d=some od)(hdd:od.data= .dict es ep)
  (hsz:es.size=n)(hx:es[i]? =some en)(hQ:∀h',h'.IsKeyIter it d (i+1) n ep->Heap.SameBut it s.heap h'->Q (some en.key) {s with heap:=h'}):wpAny (model prog w) A (pyNext (.ref it)) Q E s:=by
 obtain⟨o,ho,hc,hd⟩:=id hit
 unfold pyNext
 refine aR (wpAny_attempt (wpAny_callSpecial?_slot (name:=GJ "__next__") hit.typeIs Uh
  (wpAny_call_entry Uh hit.typeIs F.entry_dict_keyiterator_next ?_ (F.args_dict_keyiterator_next_1 _))))
 refine aR (bW ?_)
 refine aR ?_
 refine aR ?_
 first|refine aR (wpAny_typeNameOfWhole_keyiter hit.typeIs (bW ?_))|refine aR (wpAny_typeNameOf_keyiter hit.typeIs (bW ?_))
 refine aR (wpAny_fieldsOf ho hd ?_)
 have hown:Builtin.Dict_items.ownsTuple "dict_keyiterator"=false:=by decide
 simp only[hown,Bool.false_eq_true,if_false]
 show wpAny _ _ (if(Value.ref d==Value.none)=true then _ else _) _ _ s
 rw[if_neg (show ¬((Value.ref d==Value.none)=true) from iY)]
 refine aR (bW ?_)
 refine aR (wpAny_dictEntries hod hdd ?_)
 rw[if_neg (by rw[hsz];simp)]
 refine aR (bW ?_)
 refine aR (wpAny_dictEpoch hod hdd ?_)
 rw[if_neg (by simp)]
 refine bW ?_
 obtain⟨hlt',hen⟩:=Array.getElem?_eq_some_iff.mp hx
 simp only[show ¬((i:Int)<0) from by omega,if_false,Int.toNat_natCast,Ui hlt']
 refine aR ?_
 first|refine aR (wpAny_typeNameOfWhole_keyiter hit.typeIs (bW ?_))|refine aR (wpAny_typeNameOf_keyiter hit.typeIs (bW ?_))
 refine aR (wpAny_isOneOf_keyiter hit.typeIs ?_)
 show wpAny _ _ (setField (.ref it) 1 (rawInt ((i:Int)+1))>>=_) _ _ s
 refine aR (wpAny_setField ho hd (by simp) ?_)
 have hit':(s.heap.update it (Obj.mapFields (·.setIfInBounds 1 (rawInt ((i:Int)+1))))).IsKeyIter it d (i+1) n ep:=
  ⟨_,Heap.get?_update_self _ ho (Obj.isFreed_of_fields (Obj.data_mapFields hd _)),(Obj.cls_mapFields ..).trans hc,by rw[Obj.data_mapFields hd];simp[rawInt]⟩
 refine aR (wpAny_holding ?_)
 refine aR (wpAny_isOneOf_keyiter (s:={s with heap:=s.heap.update it (Obj.mapFields (·.setIfInBounds 1 (rawInt ((i:Int)+1))))}) hit'.typeIs ?_)
 show wpAny _ _ (pure es[i].key) _ _ _
 rw[hen]
 exact bW (bW ⟨_,rfl,bW (hQ _ hit' (JQ ..))⟩)
theorem Sv{it d:Addr}{i n ep:Nat}{od:Obj}{es:Array DictEntry}{Q:Option Value->Shared->Prop}(hh:A.handled=none)(hit:s.heap.IsKeyIter it d i n ep)(hod:s.heap.get? d=some od)(hdd:od.data= .dict es ep)
  (hsz:es.size=n)(hge:n<=i)(hQ:∀h',Heap.ExtBut it s.heap h'->Q none {s with heap:=h'}):wpAny (model prog w) A (pyNext (.ref it)) Q E s:=by
 obtain⟨o,ho,hc,hd⟩:=id hit
 unfold pyNext
 refine aR (wpAny_attempt (wpAny_callSpecial?_slot (name:=GJ "__next__") hit.typeIs Uh
  (wpAny_call_entry Uh hit.typeIs F.entry_dict_keyiterator_next ?_ (F.args_dict_keyiterator_next_1 _))))
 refine aR (bW ?_)
 refine aR ?_
 refine aR ?_
 first|refine aR (wpAny_typeNameOfWhole_keyiter hit.typeIs (bW ?_))|refine aR (wpAny_typeNameOf_keyiter hit.typeIs (bW ?_))
 refine aR (wpAny_fieldsOf ho hd ?_)
 have hown:Builtin.Dict_items.ownsTuple "dict_keyiterator"=false:=by decide
 simp only[hown,Bool.false_eq_true,if_false]
 show wpAny _ _ (if(Value.ref d==Value.none)=true then _ else _) _ _ s
 rw[if_neg (show ¬((Value.ref d==Value.none)=true) from iY)]
 refine aR (bW ?_)
 refine aR (wpAny_dictEntries hod hdd ?_)
 rw[if_neg (by rw[hsz];simp)]
 refine aR (bW ?_)
 refine aR (wpAny_dictEpoch hod hdd ?_)
 rw[if_neg (by simp)]
 refine bW ?_
 have hge':es.size<=i:=by rw[hsz];exact hge
 simp only[show ¬((i:Int)<0) from by omega,if_false,Int.toNat_natCast,Array.getElem?_eq_none hge']
 refine aR ?_
 first|refine aR (wpAny_typeNameOfWhole_keyiter hit.typeIs (bW ?_))|refine aR (wpAny_typeNameOf_keyiter hit.typeIs (bW ?_))
 show wpAny _ _ (setField (.ref it) 0 .none>>=_) _ _ s
 refine aR (wpAny_setField ho hd (by simp) ?_)
 show wpAny _ _ (newExc (.type "StopIteration") []>>=_) _ _ _
 refine aR ?_
 simp only[newExc,newTuple]
 refine aR (wpAny_newObj_type ?_ (by size_fits))
 refine aR (m:=firstArgMember _ _) (wpAny_of_eq (a:=Value.none) (by first|rfl|(simp only[firstArgMember];rfl)) ?_)
 refine wpAny_newObj_type ?_ (by size_fits)
 simp only[raiseNew]
 refine aR (wpAny_handled ?_)
 rw[show A.in1.handled=none from hh]
 refine aR (bW (wpAny_throw ?_))
 refine aR (wpAny_isInstance (T:="StopIteration") (b:=true) ⟨_,uc _ rfl,rfl⟩ isSubtype_stop ?_)
 exact bW (hQ _ (((JQ ..).extBut.push _).push _))
end
theorem cD{α β:Type}{G:α->β->Prop}{l₁:List α}{l₂:List β}(h:Paired G l₁ l₂):∀{i:Nat} {a:α},l₁[i]? =some a->∃b,l₂[i]? =some b/\G a b:=by
 induction h with
 |nil=>intro i a e;simp at e
 | @cons a b l₁ l₂ r t ih=>
  intro i a' e
  cases i with
  |zero=>
   simp only[List.getElem?_cons_zero,Option.some.injEq] at e
   subst e
   exact⟨b,rfl,r⟩
  |succ j=>
   simp only[List.getElem?_cons_succ] at e ⊢
   exact ih e
theorem Zr:bootBuiltins "zip"=some (.type "zip"):=by decide+kernel
def Itz(K:bw)(a b:Addr):It:=
 ⟨fun i H=>∃(xs ys:List V) (x y:V),bN K H a xs/\bN K H b ys/\xs[i]? =some x/\ys[i]? =some y,
  fun i H v H'=>∃T x y,v= .ref T/\H T=none/\H'=upd H T (.tup [x,y])/\(∀xs,bN K H a xs->xs[i]? =some x)/\∀ys,bN K H b ys->ys[i]? =some y,
  fun i H=>∃xs ys:List V,bN K H a xs/\bN K H b ys/\(xs.length<=i\/ys.length<=i)⟩
theorem acB{P:Program}{w:World}{K:bw}{elts:List Expr}{kk:Nat}{tpos:Pos}{a b z TI TO i1 i2:Addr}(D:ZipApart z TI TO i1 i2 a b):
  Turn P w K (.Tuple elts kk tpos) (Itz K a b) [z,TI,TO,i1,i2] z (fun i h=>IsZip h z TI TO .none/\IsPair h TI (.ref i1) (.ref i2)/\(∃x y,IsPair h TO x y)/\h.IsListIter i1 a i/\h.IsListIter i2 b i) where
 mem:=by simp
 obj:=fun i h st c hc=>by
  obtain⟨hz,hTI,⟨x,y,hTO⟩,⟨o1,e1,_,d1⟩,⟨o2,e2,_,d2⟩⟩:=st
  have e':c=z\/c=TI\/c=TO\/c=i1\/c=i2:=by simpa using hc
  rcases e' with q|q|q|q|q
  .rw[q];exact⟨_,hz,fun v q=>nomatch q⟩
  .rw[q];exact⟨_,hTI,fun v q=>nomatch q⟩
  .rw[q];exact⟨_,hTO,fun v q=>nomatch q⟩
  .rw[q];exact⟨o1,e1,fun v q=>by rw[d1] at q;cases q⟩
  .rw[q];exact⟨o2,e2,fun v q=>by rw[d2] at q;cases q⟩
 keep:=fun i h h' st k=>by
  obtain⟨hz,hTI,⟨x,y,hTO⟩,h1,h2⟩:=st
  exact⟨k z (by simp) _ hz,k TI (by simp) _ hTI,⟨x,y,k TO (by simp) _ hTO⟩,h1.at fun o q=>k i1 (by simp) o q,h2.at fun o q=>k i2 (by simp) o q⟩
 item:=by
  intro X hP hw hK hc i pins s σ H E I hf st hg
  subst hP hw hK
  obtain⟨hz,hTI,⟨x0,y0,hTO⟩,h1,h2⟩:=st
  obtain⟨xs,ys,x,y,hqx,hqy,hx,hy⟩:=hg
  obtain⟨its,rv,p,_⟩:=I.list hqx
  obtain⟨its2,rv2,p2,_⟩:=I.list hqy
  obtain⟨u,hu,ru⟩:=rv.get hx
  obtain⟨u2,hu2,ru2⟩:=rv2.get hy
  have hzl:z<s.heap.objs.size:=jZ hz
  refine wpAny_pyNext_zip_item D hz hTI hTO h1 h2 p.isList p2.isList (x:=u) (y:=u2) (by simpa using hu) (by simpa using hu2) fun h' z' TO' h1' h2' hT hsz hk=>?_
  refine⟨_,rfl,wpAny_letOwnedTupleGo_zip (s:={s with heap:=h'}) z' fun h'' z'' sb=>?_⟩
  have hT2:h''.get? s.heap.objs.size=some {cls:= .type "tuple",data:= .seq #[u,u2]}:=(sb.2 _ (Nat.ne_of_gt hzl)).trans hT
  have new:iC X.prog X.w (upd H s.heap.objs.size (.tup [x,y])) h'' s.heap.objs.size (.tup [x,y]):=
   ⟨by show 2<=dM;decide,[u,u2],.cons ru (.cons ru2 .nil),⟨_,hT2,rfl,_,rfl⟩⟩
  have I1:Inv X pins σ (upd H s.heap.objs.size (.tup [x,y])) {s with heap:=h''}:=
   I.aay (t':=s.toks) (ch:=[z,TI,TO,i1,i2]) (fun c o hb q=>(sb.2 c (fun q'=>hb (by simp[q']))).trans (hk c o (fun q'=>hb (by simp[q'])) (fun q'=>hb (by simp[q'])) (fun q'=>hb (by simp[q'])) (fun q'=>hb (by simp[q'])) q)) hf (cF _) new
  refine⟨.ref s.heap.objs.size,_,I1,rfl,⟨_,x,y,rfl,I.hok.fresh (cF _),rfl,fun l hl=>by rw[I.MT hl hqx];exact hx,fun l hl=>by rw[I.MT hl hqy];exact hy⟩,⟨z'',?_,⟨u,u2,?_⟩,?_,?_⟩,fun c hcm=>?_⟩
  .exact(sb.2 _ D.TIz).trans (hk _ _ D.TIz D.TITO D.TIi1 D.TIi2 hTI)
  .exact(sb.2 _ D.TOz).trans TO'
  .exact h1'.at fun o q=>(sb.2 _ D.i1z).trans q
  .exact h2'.at fun o q=>(sb.2 _ D.i2z).trans q
  .have hlt:c<s.heap.objs.size:=by
    have e':c=z\/c=TI\/c=TO\/c=i1\/c=i2:=by simpa using hcm
    rcases e' with q|q|q|q|q
    .rw[q];exact hzl
    .rw[q];exact jZ hTI
    .rw[q];exact jZ hTO
    .rw[q];obtain⟨_,e1,_⟩:=h1;exact jZ e1
    .rw[q];obtain⟨_,e2,_⟩:=h2;exact jZ e2
   rw[aD (rR hlt)]
   exact(hf c hcm).1
 done:=by
  intro X hP hw hK hc i pins s σ H E I hf st hg
  subst hP hw hK
  obtain⟨hz,hTI,⟨x0,y0,hTO⟩,h1,h2⟩:=st
  obtain⟨xs,ys,hqx,hqy,hend⟩:=hg
  obtain⟨its,rv,p,_⟩:=I.list hqx
  obtain⟨its2,rv2,p2,_⟩:=I.list hqy
  have l1:=rv.length
  have l2:=rv2.length
  have he:its.toArray[i]? =none\/its2.toArray[i]? =none:=by
   rcases hend with q|q
   .exact .inl (by simp;omega)
   .exact .inr (by simp;omega)
  exact wpAny_pyNext_zip_end (I.ok.hd hc) D hz hTI hTO h1 h2 p.isList p2.isList he fun h' hk=>⟨rfl,I.T9 (t':=s.toks) (ch:=[z,TI,TO,i1,i2]) (fun c o hb q=>
   hk c o (fun q'=>hb (by simp[q'])) (fun q'=>hb (by simp[q'])) (fun q'=>hb (by simp[q'])) (fun q'=>hb (by simp[q'])) q) hf⟩
 self:=fun A i s Q E st h=>wpAny_pyIter_zip st.1 h
def aoy(K:bw)(ta:TA):TI:=fun σ H R=>ta σ H fun vs H1=>∃a b xs ys,vs=[.ref a,.ref b]/\bN K H1 a xs/\bN K H1 b ys/\R (Itz K a b) H1
theorem afp{X:Cx}{e e2:Expr}{ta:TA}{p pos tpos:Pos}{elts:List Expr}{kk:Nat}(hg:Gl X "zip")(hm:X.mg "zip"=none)(ha:PA X [e,e2] ta)
  (hs:starEach [e,e2] X.env=(false,eval e X.env)::starEach [e2] X.env:=by rfl)(hpl:(backTo pos (starEach [e2] X.env)).any (·.1)=false:=by rfl):
  PI X (.Tuple elts kk tpos) (.Call (.Name "zip" p) [e,e2] [] pos) (aoy X.K ta):=by
 intro pins s σ H R I h
 refine Call_ (Sh I hg hm Zr (PyProof.Rows.callWith_type1 (jk (ha pos pins s σ H _ I h) fun us s1 ⟨vs,H1,I1,r1,q1⟩=>?_) hs hpl))
 obtain⟨a,b,xs,ys,ex,hqx,hqy,q⟩:=q1
 subst ex
 cases r1 with
 |cons r rr=>
  cases rr with
  |cons r' rr=>
   cases rr
   cases r
   cases r'
   obtain⟨its,rv,p1,_⟩:=I1.list hqx
   obtain⟨its2,rv2,p2,_⟩:=I1.list hqy
   have la:a<s1.heap.objs.size:=p1.lt
   have lb:b<s1.heap.objs.size:=p2.lt
   refine call_zip_2 p1.isList p2.isList fun h' hz hTI hTO h1 h2 hsz hk=>wpAny_pyIter_zip hz ?_
   have I2:Inv X pins σ H1 {s1 with heap:=h'}:=I1.kept (t':=s1.toks) hk
   refine⟨s1.heap.objs.size+4,[s1.heap.objs.size+4,s1.heap.objs.size+2,s1.heap.objs.size+3,s1.heap.objs.size,s1.heap.objs.size+1],_,_,H1,rfl,I2,acB (PySem.W.ktu_apart s1.heap.objs.size a b la lb),⟨hz,hTI,⟨_,_,hTO⟩,h1,h2⟩,fun c hcm=>?_,q⟩
   have e':c=s1.heap.objs.size+4\/c=s1.heap.objs.size+2\/c=s1.heap.objs.size+3\/c=s1.heap.objs.size\/c=s1.heap.objs.size+1:=by simpa using hcm
   have hle:s1.heap.objs.size<=c:=by
    rcases e' with z|z|z|z|z
    .rw[z];exact Nat.le_add_right _ _
    .rw[z];exact Nat.le_add_right _ _
    .rw[z];exact Nat.le_add_right _ _
    .rw[z];exact cF _
    .rw[z];exact Nat.le_add_right _ _
   exact I1.abm hle (I1.hok.fresh hle)
end L2
section
namespace TL
open PySem PySem.Builtin PySem.Builtin.Str PySem.StrLaws
abbrev tl(x:Str):List Nat:=x.cps.toList
theorem Sq(x:Str):x.length=(tl x).length:=by simp[tl,Str.length]
def pre(S l:List Nat):Bool:=l.take S.length==S
def par(S:List Nat):List Nat->List Nat->Option (List Nat×List Nat)
 |_,[]=>none
 |acc,c::r=>if pre S (c::r)=true then some (acc,(c::r).drop S.length) else par S (acc++[c]) r
theorem len1{y:Str}(hy:tl y≠[]):1<=y.length:=by
 have e2:0<(tl y).length:=List.length_pos_iff.mpr hy
 rw[Sq y]
 exact e2
def afe(n:Nat):List Nat:=(Nat.toDigits 10 n).map Char.toNat
theorem XQ(n:Nat):tl (GJ (toString ((n:Nat):Int)))=afe n:=PySem.W.KIN.signs_num n
theorem abP{n k:Nat}(hk:0<k)(h:n<10^k):(afe n).length<=k:=by
 have z:=PyProof.Rows.toString_length_le (v:=(n:Int)) (by omega) hk (by
  have e:((10:Int)^k)=((10^k:Nat):Int):=by
   first
    |exact(Int.natCast_pow 10 k).symm
    |simp
  rw[e]
  first|exact Int.ofNat_lt.mpr h|omega)
 rw[Sq,XQ] at z
 exact z
end TL
end
namespace L2
open PySem PySem.Spec PyProof.Rows
def inClass(s:Stmt)(j:Nat):Stmt:=match s with
 | .ClassDef _ _ _ body _ _ _ _ _ _ _=>body.getD j (.Pass ⟨0,0,0,0⟩)
 |_=> .Pass ⟨0,0,0,0⟩
def DX(s:Stmt):Arguments:=match s with
 | .FunctionDef _ a _ _ _ _ _ _ _ _=>a
 |_=>{posonlyargs:=[],args:=[],vararg:=none,kwonlyargs:=[],kw_defaults:=[],kwarg:=none,defaults:=[]}
def wY(s:Stmt):List Stmt:=match s with
 | .FunctionDef _ _ b _ _ _ _ _ _ _=>b
 |_=>[]
def aH(s:Stmt):Scope:=match s with
 | .FunctionDef _ _ _ _ _ _ sc _ _ _=>sc
 |_=>{kind:= .function,names:=[],isGenerator:=false,isCoroutine:=false}
abbrev E0:XK:=fun _ _ _=>False
structure Fun(K:bw)(x qual:Str)(st:Stmt)(f:Addr)(fd:FuncData):Prop where
 ex:∃(oc:Value) (od:Option Addr) (kV doc pm:Value) (an:Option Addr) (cdv ct:Value) (osl:Array (Option Value)),
  fd=Lz x qual (DX st) (wY st) (aH st) .none kV doc pm an cdv ct/\K.lookup f=some ⟨oc,od,.func fd,osl⟩/\PySem.W.codeIn K cdv qual=true
 kp:Qo K (.ref f)=true
section
variable{P:Program}{w:World}{K:bw}{mg:Str->Option Value}{base:Heap}
theorem Fun.binds{x qual:Str}{st:Stmt}{f:Addr}{fd:FuncData}{ps:List Str}(F:Fun K x qual st f fd)
  (h:∀(kV doc pm:Value) (an:Option Addr) (cdv ct:Value) (us:List Value),us.length=ps.length->bindArgs (Lz x qual (DX st) (wY st) (aH st) .none kV doc pm an cdv ct) ⟨us,[]⟩=pure (ps.zip us)):Binds K fd ps []:=by
 obtain⟨oc,od,kV,doc,pm,an,cdv,ct,osl,rfl,lk,hcd⟩:=F.ex
 exact .all (h kV doc pm an cdv ct)
theorem abo{x qual:Str}{st:Stmt}{f:Addr}{oc:Value}{od an:Option Addr}{osl:Array (Option Value)}{kV doc pm cdv ct:Value}(l:K.lookup f=some ⟨oc,od,.func (Lz x qual (DX st) (wY st) (aH st) .none kV doc pm an cdv ct),osl⟩)
  (c:PySem.W.codeIn K cdv qual=true)(k:Qo K (.ref f)=true):Fun K x qual st f (Lz x qual (DX st) (wY st) (aH st) .none kV doc pm an cdv ct):=⟨⟨oc,od,kV,doc,pm,an,cdv,ct,osl,rfl,l,c⟩,k⟩
end
theorem J1{A:Around}{k:Nat}(hr:cI k A):A.units+1<cLine:=Nat.lt_of_le_of_lt (Nat.add_le_add_left (by decide:1<=64) _) hr.units
section
variable{X:Cx}
theorem pv(i:Nat){x:Str}{pos:Pos}(hN:X.N[i]? =some x:=by rfl)(hv:Vis X.env.scope x:=by first|exact Or.inl rfl|exact Or.inr (Or.inl rfl)|exact Or.inr (Or.inr rfl))(hd:(x==("__debug__":Str))=false:=by decide)
  (hcd:(x==("__classdict__":Str))=false:=by decide):PE X (.Name x pos) (vd i):=ab1 hN hv hd hcd
theorem QF:yR X (.builtin "len") (fun xs H Q=>∃a kvs,xs=[V.ref a]/\H a=some (.dK kvs)/\Q (.int kvs.length) H):=by
 intro pins s σ H xs us Q I r h
 obtain⟨a,kvs,rfl,ha,q⟩:=h
 obtain⟨u,rfl,ru⟩:=vals1 r
 cases ru
 exact age I (.inl ha) fun t s' I'=>⟨.int kvs.length,H,I',⟨t,rfl⟩,q⟩
end
theorem lG{A B:Prop}(h:B):if false=true then A else B:=by
 rw[if_neg iY]
 exact h
theorem j4{A B:Prop}(h:A):if true=true then A else B:=by
 rw[if_pos rfl]
 exact h
theorem agt{c A B:Prop}[Decidable c](h1:c->A)(h2:¬c->B):if c then A else B:=by
 by_cases h:c
 .rw[if_pos h]
  exact h1 h
 .rw[if_neg h]
  exact h2 h
def aF(H H':Hp):Prop:=∀b o,H b=some o->H' b=some o
theorem aF.trans{H H1 H2:Hp}(a:aF H H1)(b:aF H1 H2):aF H H2:=fun c o h=>b c o (a c o h)
theorem aF.free{H H':Hp}(e:aF H H'){l:Addr}(h:H' l=Option.none):H l=Option.none:=by
 cases q:H l with
 |none=>rfl
 |some o=>
  rw[e l o q] at h
  cases h
theorem aF.seq{K:bw}{H H':Hp}{a:Addr}{xs:List V}(e:aF H H')(h:bN K H a xs):bN K H' a xs:=by
 rcases h with(h|⟨o,h⟩)|h
 .exact .inl (.inl (e _ _ h))
 .exact .inl (.inr ⟨o,e _ _ h⟩)
 .exact .inr h
theorem aF.made{H H1:Hp}{x dx C:Addr}(nx:H x=Option.none)(nd:H dx=Option.none)(k:∀b o,(upd (upd H dx (.own x)) x (.ins C dx [])) b=some o->b≠x->H1 b=some o):aF H H1:=fun b o e=>
 k b o (by rw[aD (aJ e nx),aD (aJ e nd)];exact e) (aJ e nx)
theorem iC.there{P:Program}{w:World}{H:Hp}{h:Heap}{a:Addr}:∀{o:HO},iC P w H h a o->∃u,h.get? a=some u:=fun{o} x=>by
 cases o with
 |lst xs=>obtain⟨_,_,_,_,e⟩:=x;exact⟨_,e⟩
 |tup xs=>obtain⟨_,_,_,_,e,_⟩:=x;exact⟨_,e⟩
 |dK kvs=>obtain⟨_,_,_,_,o,_,_,e,_⟩:=x;exact⟨_,e⟩
 |dT kvs=>obtain⟨_,_,_,_,o,_,_,e,_⟩:=x;exact⟨_,e⟩
 |set S n=>obtain⟨o,_,_,_,e,_⟩:=x;exact⟨_,e⟩
 |ins C dx fs=>obtain⟨_,_,_,e,_⟩:=x;exact⟨_,e⟩
 |own y=>exact x
 |xd fs=>obtain⟨_,⟨_,_,_,e,_⟩,_⟩:=x;exact⟨_,e⟩
 |rng lo hi=>obtain⟨_,_,_,e⟩:=x;exact⟨_,e⟩
 |QV ob u=>obtain⟨e,_⟩:=x;exact⟨_,e⟩
 |Ls ps=>exact⟨_,x⟩
 |met f y=>exact⟨_,x⟩
 |ext p=>obtain⟨_,⟨_,e⟩,_⟩:=x;exact⟨_,e⟩
structure Cov(fs:List Addr)(H H':Hp)(h h' B:Heap):Prop where
 old:∀b o,h.get? b=some o->H b=none->b∉fs->B.get? b=some o
 trk:∀b o u,H' b=some u->h'.get? b=some o->B.get? b=some o
 any:∀b o,h.get? b=some o->b∉fs->∃o',B.get? b=some o'
structure Fly(P:Program)(w:World)(outer:List Env)(H:Hp)(s:Shared)(H':Hp)(ea C:Addr)(s':Shared):Prop where
 os:s'.os=s.os
 bare:AllBare s'.gens
 un:Un (frs outer) [] H H' s.heap s'.heap
 hok:xO P w H' s'.heap
 fly:∃B a0,Heap.FlyingW B outer ea (.ref C) a0 s'.heap/\Cov (frs outer) H H' s.heap s'.heap B
def CX1(P:Program)(w:World):Y5:=fun outer H s E e s'=>∃ea C H',e= .ref ea/\Fly P w outer H s H' ea C s'/\E (.ref C) none H'
theorem QZ{P:Program}{w:World}{H:Hp}{h h' B:Heap}(hok:xO P w H h)(c:∀b o u,H b=some u->h.get? b=some o->B.get? b=some o)(st:B.StaysIn h'):xO P w H h':=fun a o e=>
 (hok a o e).stay (fun b u hb q=>by
  rcases hb with rfl|hb
  .exact st b u (c b u o e q)
  .exact st b u (c b u _ hb q)) (fun _ q=>q) fun _ _ q=>q
section
variable{X:Cx}{pins ux:List (Addr×Obj)}{σ σ':St}{H H':Hp}{s s':Shared}{B h':Heap}{ea C:Addr}{a0:Value}
theorem abk(I:Inv X pins σ H s)(I':Inv X ux σ' H' s')(hex:X.ex=[])(hst:X.stack=X.env::X.outer/\X.env.frame=some X.env.locals)(c:Cov (frs X.stack) H H' s.heap s'.heap B)
  (fl:Heap.FlyingW B X.outer ea (.ref C) a0 h')(up:s'.heap.UpToSlots h'):Fly X.prog X.w X.outer X.H_0 X.Gz H' ea C {s' with heap:=h'}:=by
 have nex:∀b:Addr,b∉X.ex:=fun b=>by rw[hex];simp
 have nst:∀b o,X.Gz.heap.get? b=some o->b∉X.fs->b∉frs X.stack:=fun b o e hb hm=>by
  rcases bU.mp (I.T7 b hm) with z|z
  .exact rR (wQ (jZ e) I.ok.above) z
  .exact hb z
 have ao7:∀b o u,H' b=some u->h'.get? b=some o->B.get? b=some o:=fun b o u e q=>by
  obtain⟨o',e'⟩:=(I'.hok b u e).there
  have q1:=c.trk b o' u e e'
  have q2:=fl.1 b o' q1
  rw[q] at q2;cases q2;exact q1
 have agB:∀b o,X.Gz.heap.get? b=some o->X.H_0 b=none->b∉X.fs->B.get? b=some o:=fun b o e n hb=>
  c.old b o (I.base.keep b o e n hb (nex b)) (I.base.free b o e n (nex b)) (nst b o e hb)
 have agc:∀b o,X.Gz.heap.get? b=some o->b∉X.fs->∃o',B.get? b=some o':=fun b o e hb=>by
  obtain⟨o',e'⟩:=I.base.there b o e (nex b)
  exact c.any b o' e' (nst b o e hb)
 have aem:∀b o,X.Gz.heap.get? b=some o->X.H_0 b=none->b∈X.fs->∃sl,h'.get? b=some {o with slots:=sl}:=fun b o e n hb=>by
  obtain⟨sl,e1⟩:=I'.base.slot b o e n hb (nex b)
  obtain⟨_,o2,ho2,nd⟩:=I.ok.Fj.mem hb
  rw[e] at ho2;cases ho2
  obtain⟨sl',e2⟩:=up b _ e1 nd
  exact⟨sl',e2⟩
 refine⟨I'.os,I'.bare,⟨fun b o e n hb _=>fl.1 b o (agB b o e n hb),fun b o e n hb _=>aem b o e n hb,fun b o e n _=>I'.base.free b o e n (nex b),fun b o e _=>?_,I'.base.tups,I'.base.Mw,I'.base.O5⟩,
  QZ I'.hok c.trk fl.1,B,a0,fl,agB,ao7,agc⟩
 by_cases hb:b∈X.fs
 .obtain⟨sl,q⟩:=aem b o e (I.ok.frf b hb) hb
  exact⟨_,q⟩
 .obtain⟨o',q⟩:=agc b o e hb
  exact⟨o',fl.1 b o' q⟩
end
section
variable{P:Program}{w:World}{K:bw}{mg:Str->Option Value}{base:Heap}{N:List Str}{qual:Str}{scope:Scope}{f:Addr}{cd:Value}{A:Around}{outer:List Env}{s0:Shared}{H0:Hp}{E:XK}
abbrev Pg(P:Program)(w:World)(K:bw)(mg:Str->Option Value)(base:Heap)(N:List Str)(qual:Str)(scope:Scope)(f:Addr)(cd:Value)(A:Around)(outer:List Env)(s0:Shared)(H0:Hp)(E:XK):Cx:=
 Zv (CX1 P w) P w K mg base N qual scope f cd A outer s0 H0 E
theorem abJ{pins:List (Addr×Obj)}{σ:St}{H H':Hp}{s s':Shared}{ea C:Addr}(I:Inv (Pg P w K mg base N qual scope f cd A outer s0 H0 E) pins σ H s)
  (F:Fly P w (Pg P w K mg base N qual scope f cd A outer s0 H0 E).stack H s H' ea C s')(hE:E (.ref C) none H'):(Pg P w K mg base N qual scope f cd A outer s0 H0 E).xe (.ref ea) s':=by
 have I':Inv (Pg P w K mg base N qual scope f cd A outer s0 H0 E) pins σ H' s':=I.call' F.os F.un F.hok F.bare (ch:=[]) fun b z=>absurd z (by simp)
 obtain⟨B,a0,fl,c⟩:=F.fly
 refine wpAny_leaves_onW I.ok.frames rfl fl fun h' fl' up=>?_
 exact⟨ea,C,H',rfl,abk I I' rfl ⟨rfl,rfl⟩ c fl' up,hE⟩
theorem cA:Passes (CX1 P w) (Pg P w K mg base N qual scope f cd A outer s0 H0 E) E:=fun pins σ H s e s' I h=>by
 obtain⟨ea,C,H',rfl,F,hE⟩:=h
 exact abJ I F hE
theorem Xe{pins:List (Addr×Obj)}{σ:St}{H:Hp}{s:Shared}{h1:Heap}{ea C:Addr}{vs:List Value}(I:Inv (Pg P w K mg base N qual scope f cd A outer s0 H0 E) pins σ H s)
  (hx:Heap.MadeExcOf s.heap h1 ea (.ref C) vs)(hE:E (.ref C) none H):(Pg P w K mg base N qual scope f cd A outer s0 H0 E).xe (.ref ea) {s with heap:=h1}:=by
 have hin:∀env∈(Pg P w K mg base N qual scope f cd A outer s0 H0 E).stack,∀b,env.frame=some b->b∈frs (Pg P w K mg base N qual scope f cd A outer s0 H0 E).stack:=fun env he b hb=>List.mem_filterMap.mpr ⟨env,he,hb⟩
 have fr:=PySem.W.funFrames_hide I.stack hin
 refine wpAny_leaves_madeW (s:={s with heap:=h1}) (base:=PySem.W.hideAll s.heap (frs (Pg P w K mg base N qual scope f cd A outer s0 H0 E).stack)) I.ok.frames rfl (fun b o q=>PySem.W.of_hideAll _ q) fr hx fun h' t fl _ _ up=>?_
 have I1:Inv (Pg P w K mg base N qual scope f cd A outer s0 H0 E) pins σ H {s with heap:=h1}:=I.kept (t':=s.toks) hx.keeps
 refine⟨ea,C,H,rfl,abk I I1 rfl ⟨rfl,rfl⟩ ⟨fun b o e _ hb=>PySem.W.hideAll_get _ e hb,fun b o u e q=>?_,fun b o e hb=>⟨o,PySem.W.hideAll_get _ e hb⟩⟩ fl up,hE⟩
 obtain⟨o',e'⟩:=(I.hok b u e).there
 have q2:=hx.keeps b o' e'
 have q3:h1.get? b=some o:=q
 rw[q3] at q2;cases q2
 exact PySem.W.hideAll_get _ e' fun hm=>by
  have:=I.Lr b hm
  rw[e] at this;cases this
end
theorem bG{P:Program}{w:World}{X:Cx}:Passes (CX1 P w) X E0:=fun _ _ _ _ _ _ _ h=>by
 obtain⟨_,_,_,_,_,z⟩:=h
 exact z.elim
theorem Fun.ok1{P:Program}{w:World}{K:bw}{mg:Str->Option Value}{base:Heap}{x qual:Str}{st:Stmt}{f:Addr}{fd:FuncData}{N ps:List Str}{k:Nat}{sp:Sp}(F:Fun K x qual st f fd)(S:aM N ps (aH st))(len:∀vs H Q E,sp vs H Q E->vs.length=ps.length)
  (hbody:∀(cdv:Value) (A:Around) (outer:List Env) (s:Shared) (H:Hp) (vs:List V) (Q:VK) (E:XK),cI k (A.deeper (envOfC qual (aH st) s.heap.objs.size f cdv))->sp vs H Q E->
   ∃t,Zo (Pg P w K mg base N qual (aH st) f cdv A outer s H E) (wY st) t/\t {nx:=fun _ H'=>Q .non H',rt:=Q} (start N vs) H):Fg P w K mg base (CX1 P w) (k+1) f fd ps sp:=by
 obtain⟨oc,od,kV,doc,pm,an,cdv,ct,osl,rfl,lk,hcd⟩:=F.ex
 exact aeh lk hcd S len fun A outer s H vs Q E hr hsp=>hbody cdv A outer s H vs Q E hr hsp
structure Err(K:bw)(mg:Str->Option Value)(x:Str)(C:Addr):Prop where
 glob:mg x=some (.ref C)
 obj:∀h:Heap,K.In h->∃B newId initId bmB bm N nm q bs hdct sn sub ab col dd k0 k1 k2 k3 k5,∃mN:Str->Option Value,ExcBaseFacts B newId initId bmB/\bm.contains (.type "BaseException")=true/\
  h.get? C=some (excClassObj nm q C N bs bm hdct sn sub ab col dd k0 k1 k2 k3 k5 newId)/\h.Ns N mN/\mN "__init__"=none/\OwnTail h bmB bm
section
variable{P:Program}{w:World}{K:bw}{mg:Str->Option Value}{base:Heap}{N:List Str}{qual:Str}{scope:Scope}{f:Addr}{cd:Value}{A:Around}{outer:List Env}{s0:Shared}{H0:Hp}{E:XK}{x:Str}{C:Addr}{np cpos pos:Pos}
def afV(C:Addr)(E:XK):TS:=fun _ _ H=>E (.ref C) none H
theorem jg(e:Err K mg x C)(hg:Gl (Pg P w K mg base N qual scope f cd A outer s0 H0 E) x)(hd:(x==("__debug__":Str))=false:=by decide):
  PS (Pg P w K mg base N qual scope f cd A outer s0 H0 E) (.Raise (some (.Call (.Name x np) [] [] cpos)) none pos) (afV C E):=by
 intro pins s σ H D I h
 obtain⟨B,newId,initId,bmB,bm,Nn,nm,q,bs,hdct,sn,sub,ab,col,dd,k0,k1,k2,k3,k5,mN,FB,hb,hC,hN,hi,T⟩:=e.obj s.heap I.R7
 refine wpAny_Raise_call_subT (C:=C) (nm:=nm) (q:=q) (N:=Nn) (bs:=bs) (bm:=bm) (hdct:=hdct) (sn:=sn) (sub:=sub) (ab:=ab) (col:=col) (dd:=dd) (k0:=k0) (k1:=k1) (k2:=k2) (k3:=k3) (k5:=k5) FB (mN:=mN) hb (I.ok.hd rfl) rfl hi (Hx I hg e.glob ⟨rfl,?_⟩ hd)
 exact evalArgs_empty ⟨rfl,j_ _,hC,hN,T,fun h' ea hx=>Xe I hx h⟩
end
abbrev Cx.pin(X:Cx)(pins:List (Addr×Obj))(E:Value->Shared->Prop):Cx:={X with pn:=X.pn++pins,xe:=E}
section
variable{X:Cx}{pins ux:List (Addr×Obj)}{σ:St}{H:Hp}{s:Shared}{E:Value->Shared->Prop}
theorem Cx.Ok.pin(ok:X.Ok):(X.pin pins E).Ok:=⟨ok.mod,ok.kind,ok.glob,ok.blt,ok.above,ok.inj,ok.has,ok.cab,ok.hd,ok.frames,ok.stk,ok.exf,ok.bs,ok.bsz,ok.Z7,ok.ZC,ok.Fj,ok.frf⟩
theorem Cx.Ok.Y4(ok:(X.pin pins E).Ok):X.Ok:=⟨ok.mod,ok.kind,ok.glob,ok.blt,ok.above,ok.inj,ok.has,ok.cab,ok.hd,ok.frames,ok.stk,ok.exf,ok.bs,ok.bsz,ok.Z7,ok.ZC,ok.Fj,ok.frf⟩
theorem Inv.aoE(I:Inv X pins σ H s)(E:Value->Shared->Prop):Inv (X.pin pins E) [] σ H s:=⟨I.ok.pin,I.os,I.bare,I.base,I.loc,I.cell,I.free,I.xg,fun p hp=>I.pin p (by simpa using hp),I.hok,I.len⟩
theorem Inv.Gr(I:Inv (X.pin pins E) ux σ H s):Inv X pins σ H s:=⟨I.ok.Y4,I.os,I.bare,I.base,I.loc,I.cell,I.free,I.xg,fun p hp=>I.pin p (Bw _ hp),I.hok,I.len⟩
theorem SP.Gr{D:Ends}{fl:Flow}{s':Shared}(h:SP (X.pin pins E) ux D fl s'):SP X pins D fl s':=by
 cases fl with
 |next=>obtain⟨σ',H',I,q⟩:=h;exact⟨σ',H',I.Gr,q⟩
 |brk=>obtain⟨σ',H',I,q⟩:=h;exact⟨σ',H',I.Gr,q⟩
 |cont=>obtain⟨σ',H',I,q⟩:=h;exact⟨σ',H',I.Gr,q⟩
 |ret u=>obtain⟨v,σ',H',I,r,q⟩:=h;exact⟨v,σ',H',I.Gr,r,q⟩
abbrev Cx.suite(X:Cx)(e:Value):Cx:={X with A:=X.A.mark (some e),calm:=false,xe:=fun _ _=>False}
theorem Inv.suite(I:Inv X pins σ H s)(e:Value):Inv (X.suite e) pins σ H s:=
 ⟨⟨I.ok.mod,I.ok.kind,I.ok.glob,I.ok.blt,I.ok.above,I.ok.inj,I.ok.has,I.ok.cab,(fun z=>nomatch z),I.ok.frames,I.ok.stk,I.ok.exf,I.ok.bs,I.ok.bsz,I.ok.Z7,I.ok.ZC,I.ok.Fj,I.ok.frf⟩,I.os,I.bare,I.base,I.loc,I.cell,I.free,I.xg,I.pin,I.hok,I.len⟩
theorem Inv.Ek{e:Value}(I:Inv (X.suite e) pins σ H s)(ok:X.Ok):Inv X pins σ H s:=⟨ok,I.os,I.bare,I.base,I.loc,I.cell,I.free,I.xg,I.pin,I.hok,I.len⟩
theorem SP.Ek{e:Value}{D:Ends}{fl:Flow}{s':Shared}(h:SP (X.suite e) pins D fl s')(ok:X.Ok):SP X pins D fl s':=by
 cases fl with
 |next=>obtain⟨σ',H',I,q⟩:=h;exact⟨σ',H',I.Ek ok,q⟩
 |brk=>obtain⟨σ',H',I,q⟩:=h;exact⟨σ',H',I.Ek ok,q⟩
 |cont=>obtain⟨σ',H',I,q⟩:=h;exact⟨σ',H',I.Ek ok,q⟩
 |ret u=>obtain⟨v,σ',H',I,r,q⟩:=h;exact⟨v,σ',H',I.Ek ok,r,q⟩
theorem U6{P:Program}{w:World}{H':Hp}{ea C:Addr}{s':Shared}{h' B:Heap}{a0:Value}(I:Inv X pins σ H s)(F:Fly P w X.stack H s H' ea C s')(c:Cov (frs X.stack) H H' s.heap s'.heap B)
  (fl:Heap.FlyingW B X.stack ea (.ref C) a0 h')(up:s'.heap.UpToSlots h'):Fly P w X.stack H s H' ea C {s' with heap:=h'}:=by
 have sl:∀b o,s.heap.get? b=some o->H b=none->b∈frs X.stack->∃z,h'.get? b=some {o with slots:=z}:=fun b o e n hb=>by
  obtain⟨_,o2,ho2,nd⟩:=I.stack.mem hb
  rw[e] at ho2;cases ho2
  obtain⟨z,q⟩:=F.un.slot b o e n hb (by simp)
  obtain⟨z2,q2⟩:=up b _ q nd
  exact⟨z2,q2⟩
 refine⟨F.os,F.bare,⟨fun b o e n hb _=>fl.1 b o (c.old b o e n hb),fun b o e n hb _=>sl b o e n hb,fun b o e n _=>F.un.free b o e n (by simp),fun b o e _=>?_,F.un.tups,F.un.Mw,F.un.O5⟩,QZ F.hok c.trk fl.1,B,a0,fl,c.old,fun b o u e q=>?_,c.any⟩
 .by_cases hb:b∈frs X.stack
  .obtain⟨z,q⟩:=sl b o e (I.Lr b hb) hb
   exact⟨_,q⟩
  .obtain⟨o',q⟩:=c.any b o e hb
   exact⟨o',fl.1 b o' q⟩
 .obtain⟨o',e'⟩:=(F.hok b u e).there
  have q1:=c.trk b o' u e e'
  have q2:=fl.1 b o' q1
  have q3:h'.get? b=some o:=q
  rw[q3] at q2;cases q2;exact q1
theorem Fly.inv{H':Hp}{ea C:Addr}{s':Shared}(F:Fly X.prog X.w X.stack H s H' ea C s')(I:Inv X pins σ H s):Inv X pins σ H' s':=I.call' F.os F.un F.hok F.bare (ch:=[]) fun b z=>absurd z (by simp)
theorem Fly.ty{P:Program}{w:World}{l:List Env}{H':Hp}{ea C:Addr}{s':Shared}{M:Model}(F:Fly P w l H s H' ea C s'):PySem.W.Looks M s'.heap (typeOf (.ref ea)) (.ref C):=by
 obtain⟨B,a0,fl,_⟩:=F.fly
 obtain⟨ob,hob,hc⟩:=fl.there
 rw[<-hc]
 exact(PySem.W.Looks.ld hob).andThen .now
end
inductive PH(X:Cx):List ExceptHandler->(Addr->TS)->Prop
 |nil:PH X [] (fun _ _ _ _=>False)
 |cons {x:Str} {D:Addr} {np pos:Pos} {b:Stmt} {suite:List Stmt} {hs:List ExceptHandler} {t:TS} {r:Addr->TS}:Gl X x->X.mg x=some (.ref D)->(x==("__debug__":Str))=false->
   (∀e,Zo (X.suite e) (b::suite) t)->PH X hs r->PH X (.ExceptHandler (some (.Name x np)) none (b::suite) pos::hs) (fun C=>if PySem.W.exmOne X.K (.ref C) (.ref D)=some true then t else if PySem.W.exmOne X.K (.ref C) (.ref D)=some false then r C else fun _ _ _=>False)
section
variable{X:Cx}{pins:List (Addr×Obj)}{σ:St}{H:Hp}{s:Shared}
theorem handle{D:Ends}:∀{hs:List ExceptHandler} {r:Addr->TS},PH X hs r->∀{H':Hp} {ea C:Addr} {s':Shared},Inv X pins σ H s->Fly X.prog X.w X.stack H s H' ea C s'->r C D σ H'->
  wpAny (model X.prog X.w) X.A (handleBy (.ref ea) X.env hs) (SP X pins D) X.xe s':=by
 intro hs r h
 induction h with
 |nil=>intro H' ea C s' _ _ q;exact q.elim
 | @cons x D' np pos b suite hs t r hg hm hd hp _ ih=>
  intro H' ea C s' I F q
  have I':=F.inv I
  refine wpAny_handleBy_cons (codeAny_handlers_test ?_) (by intro z;cases z)
  refine Calls.Name_function_global I.ok.kind hg (Calls.loadGlobal_global (by rw[I.ok.glob];exact I.mod.glob.keeps I'.bk) hm ?_) hd
  by_cases h1:PySem.W.exmOne X.K (.ref C) (.ref D')=some true
  .rw[if_pos h1] at q
   refine(PySem.W.exm_one I'.R7 F.ty h1).here ?_
   refine codeAny_handlers_suite ?_
   obtain⟨B,a0,fl,c⟩:=F.fly
   refine wpAny_setFlight_noneW fl.1 fl.2.2.1 fl.2.2.2.at fun h' k1 k2 k3 k4=>?_
   have F2:=U6 I F c (h':=h') ⟨k1,fl.2.1,k2,k3⟩ fun b o e nd=>⟨o.slots,k4 b o e nd⟩
   exact qF (hp (.ref ea) pins _ σ H' D ((F2.inv I).suite _) q) (fun fl s2 z=>z.Ek I.ok) fun _ _ z=>z.elim
  .rw[if_neg h1] at q
   by_cases h2:PySem.W.exmOne X.K (.ref C) (.ref D')=some false
   .rw[if_pos h2] at q
    refine(PySem.W.exm_one I'.R7 F.ty h2).here ?_
    exact ih I F q
   .rw[if_neg h2] at q
    exact q.elim
def ao2(E:XK)(tb:TS)(r:Addr->TS):TS:=fun D σ H=>tb D σ H/\∀C σ' H',E (.ref C) none H'->r C D σ' H'
theorem afr{body:List Stmt}{h0:ExceptHandler}{hs:List ExceptHandler}{E:XK}{tb:TS}{r:Addr->TS}{pos:Pos}(hst:∃L,X.stack=X.env::X.outer/\X.env.frame=some L)
  (hb:∀(pins:List (Addr×Obj)) (E':Value->Shared->Prop),Passes (CX1 X.prog X.w) (X.pin pins E') E->Zo (X.pin pins E') body tb)(hh:PH X (h0::hs) r):PS X (.Try body (h0::hs) [] [] pos) (ao2 E tb r):=by
 intro pins s σ H D I h
 obtain⟨L,hs1,hs2⟩:=hst
 refine wpAny_Try_except ?_
 have key:∀(σ':St) (H1:Hp) (s1:Shared) (ea C:Addr) (H':Hp) (s':Shared),Inv X pins σ' H1 s1->Fly X.prog X.w X.stack H1 s1 H' ea C s'->E (.ref C) none H'->
   wpAny (model X.prog X.w) X.A (noteFrame (.ref ea) X.env) (fun _ s2=>wpAny (model X.prog X.w) X.A (setFlight (.ref ea) none) (fun _ s3=>wpAny (model X.prog X.w) X.A (handleBy (.ref ea) X.env (h0::hs)) (SP X pins D) X.xe s3) X.xe s2) X.xe s':=fun σ' H1 s1 ea C H' s' I1 F hE=>by
  obtain⟨B,a0,fl,c⟩:=F.fly
  have fl0:=fl
  rw[hs1] at fl0
  refine wpAny_looks_onW (hs1▸I.ok.frames) hs2 fl0 fun h4 held up=>?_
  refine wpAny_landsW held fun h5 fl5 up5=>?_
  have F5:=U6 (h':=h5) I1 F c (hs1▸fl5) (up.trans up5)
  exact handle hh I1 F5 (h.2 C σ' H' hE)
 refine qF (hb pins (fun e s'=>∃(σ':St) (H1:Hp) (s1:Shared) (ea C:Addr) (H':Hp),e= .ref ea/\Inv X pins σ' H1 s1/\Fly X.prog X.w X.stack H1 s1 H' ea C s'/\E (.ref C) none H') ?_ [] s σ H D (I.aoE _) h.1) (fun fl s1 q=>?_) fun e s1 q=>?_
 .intro ao9 σ1 H1 s1 e s' I1 hx
  obtain⟨ea,C,H',rfl,F,hE⟩:=hx
  exact⟨σ1,H1,s1,ea,C,H',rfl,I1.Gr,F,hE⟩
 .have q':=q.Gr
  cases fl with
  |next=>exact wpAny_execs_nil q'
  |brk=>exact q'
  |cont=>exact q'
  |ret u=>exact q'
 .obtain⟨σ1,H1,s0,ea,C,H',rfl,I1,F,hE⟩:=q
  exact key σ1 H1 s0 ea C H' s1 I1 F hE
end
end L2
namespace L2
open PySem PySem.Spec PyProof.Rows
open PySem.W (CodeHd tabObj kla_obj kla_fn envX)
def FnO(f:Addr)(qual:Str)(params:Arguments)(body:Expr)(scope:Scope)(clos:List (Str×Addr))(c':Addr):HO:= .ext fun h=>∃pm ctv,h.get? f=some (kla_obj "<lambda>" qual params body scope clos pm c' ctv)
def CdO(c':Addr)(qual:Str):HO:= .ext fun h=>h.CodeRec (.ref c') qual
theorem abl{P:Program}{w:World}{H:Hp}{h:Heap}{f c':Addr}{qual:Str}{params:Arguments}{body:Expr}{scope:Scope}{clos:List (Str×Addr)}{pm ctv:Value}(e:h.get? f=some (kla_obj "<lambda>" qual params body scope clos pm c' ctv)):
  iC P w H h f (FnO f qual params body scope clos c'):=⟨⟨pm,ctv,e⟩,⟨_,e⟩,fun h1 h2 ⟨p,c,q⟩ k=>⟨p,c,k _ q⟩⟩
theorem aeE{P:Program}{w:World}{H:Hp}{h:Heap}{c':Addr}{qual:Str}(e:h.CodeRec (.ref c') qual):iC P w H h c' (CdO c' qual):=by
 obtain⟨c,o,vs,t,e1,e2,e3⟩:=id e
 cases e1
 refine⟨e,⟨o,e2⟩,fun h1 h2 x k=>?_⟩
 obtain⟨c,o,vs,t,q1,q2,q3⟩:=x
 cases q1
 exact⟨_,o,vs,t,rfl,k _ q2,q3⟩
def TabAt(H:Hp)(P:Addr)(pos:Pos)(qual:Str):Prop:=∃ps:Array Value,H P=some (.Ls ps)/\TriplesOk ps.toList/\(codeAmong pos ps.toList=none\/∃c',codeAmong pos ps.toList=some (.ref c')/\H c'=some (CdO c' qual))
def tZ(P:Addr)(H H':Hp):Prop:=∀b u,H b=some u->b≠P->H' b=some u
def BMain(mg:Str->Option Value)(base:Heap):Prop:=∃bm ob,mg "__builtins__"=some (.ref bm)/\bm≠builtinsNs/\base.get? bm=some ob/\ob.cls= .type "module"/\ob.dict=some builtinsNs/\ob.data= .plain
def agW(P:Addr)(pos:Pos)(qual:Str)(params:Arguments)(body:Expr)(scope:Scope)(clos:List (Str×Addr)):TE:=fun σ H Q=>TabAt H P pos qual/\
 ∀(f c':Addr) (H':Hp),tZ P H H'->TabAt H' P pos qual->H f=none->H' f=some (FnO f qual params body scope clos c')->H' c'=some (CdO c' qual)->Q (.ref f) H'
theorem Jp{X:Cx}{c P:Addr}{params:Arguments}{body:Expr}{scope:Scope}{pos:Pos}{qual:Str}{clos:List (Str×Addr)}(hC:∀h:Heap,X.K.In h->CodeHd h c P)(hcode:X.env.code= .ref c)(hb:BMain X.mg X.base)
  (hdef:defaultsOf params X.env=([],[]))(hcl:closureFor scope X.env=pure clos)(hq:X.env.qual++"<lambda>"=qual):PE X (.Lambda params body scope pos) (agW P pos qual params body scope clos):=by
 intro pins s σ H Q I h
 obtain⟨⟨ps,hP,ht,hc⟩,k⟩:=h
 refine PySem.W.kla_eval hdef ?_
 rw[hq]
 have hPo:s.heap.get? P=some (tabObj ps):=I.hok P _ hP
 have hg:s.heap.Ns lA X.mg:=I.ok.mod.glob.keeps I.bk
 have hgP:lA≠P:=fun q=>by
  obtain⟨o,es,ep,e,hd,_⟩:=hg
  rw[q,hPo] at e;cases e;cases hd
 have hB:s.heap.BuiltinsAt X.mg P:=by
  obtain⟨bm,ob,b1,b2,b3,b4,b5,b6⟩:=hb
  have b3':=I.bk _ _ b3
  refine⟨bm,ob,b1,b2,fun q=>?_,fun q=>?_,b3',b4,b5,b6⟩
  .obtain⟨o,es,ep,e,hd,_⟩:=hg
   rw[q,e] at b3';cases b3';rw[hd] at b6;cases b6
  .rw[q,hPo] at b3';cases b3';cases b4
 rcases hc with hnf|⟨c',hf,hc'⟩
 .refine PySem.W.kla_makeFunction (mg:=X.mg) hcl I.ok.glob hg hcode (hC _ I.R7) hPo ht hnf hgP hB fun c' ctv h' tk hx hge hlt hrec htb=>?_
  have hsz:s.heap.objs.size<=h'.objs.size:=qz (Nat.lt_of_le_of_lt hge hlt)
  have Ew:∀b u,H b=some u->b<s.heap.objs.size:=fun b u e=>I.hok.lt e
  have nC:∀b,b<s.heap.objs.size->b≠c':=fun b hb=>rR (wQ hb hge)
  have nF:∀b,b<s.heap.objs.size->b≠h'.objs.size:=fun b hb=>rR (wQ hb hsz)
  have ePC:P≠c':=nC P (Ew P _ hP)
  have ePF:P≠h'.objs.size:=nF P (Ew P _ hP)
  have eCF:c'≠h'.objs.size:=rR hlt
  have up:∀b,b≠P->b<s.heap.objs.size->upd (upd (upd H P (.Ls (ps++ #[rawInt pos.line,rawInt pos.col,.ref c']))) c' (CdO c' qual)) h'.objs.size (FnO h'.objs.size qual params body scope clos c') b=H b:=fun b h1 h2=>by
   rw[aD (nF b h2),aD (nC b h2),aD h1]
  have upP:upd (upd (upd H P (.Ls (ps++ #[rawInt pos.line,rawInt pos.col,.ref c']))) c' (CdO c' qual)) h'.objs.size (FnO h'.objs.size qual params body scope clos c') P=some (.Ls (ps++ #[rawInt pos.line,rawInt pos.col,.ref c'])):=by
   rw[aD ePF,aD ePC,ao]
  have upC:upd (upd (upd H P (.Ls (ps++ #[rawInt pos.line,rawInt pos.col,.ref c']))) c' (CdO c' qual)) h'.objs.size (FnO h'.objs.size qual params body scope clos c') c'=some (CdO c' qual):=by
   rw[aD eCF,ao]
  have kp:∀b o,b≠P->s.heap.get? b=some o->(h'.push (kla_obj "<lambda>" qual params body scope clos ((X.mg "__name__").getD .none) c' ctv)).get? b=some o:=fun b o n e=>jW _ (hx b o n e)
  have nP:∀b,H b=none->b≠P:=fun b n z=>by rw[z,hP] at n;cases n
  refine⟨.ref h'.objs.size,_,?_,rfl,k h'.objs.size c' _ (fun b u e n=>by rw[up b n (Ew b u e)];exact e) ⟨_,upP,?_,.inr ⟨c',?_,upC⟩⟩ (I.hok.fresh hsz) ao upC⟩
  .refine I.step (g':=s.gens) (d':=s.drawn) (ch:=[]) (fun b hb=>absurd hb (by simp)) (fun b o _ _ _ e n=>kp b o (nP b n) e) (fun b o _ _ _ e n=>⟨o.slots,kp b o (nP b n) e⟩) (fun b o _ e n=>?_) (fun b o _ e=>?_) (fun b xs e=>?_) (fun b o u e=>?_) (fun b qs e=>?_) (fun m hm=>?_) (fun b u e=>?_) I.bare
   .rw[up b (nP b n) (jZ e)];exact n
   .by_cases z:b=P
    .subst z;exact⟨_,jW _ htb⟩
    .exact⟨o,kp b o z e⟩
   .rw[up b (fun z=>by rw[z,hP] at e;cases e) (Ew b _ e)];exact e
   .rw[up b (fun z=>by rw[z,hP] at e;cases e) (Ew b _ e)];exact e
   .by_cases z:b=P
    .subst z
     rw[hP] at e;cases e
     exact⟨_,upP⟩
    .rw[up b z (Ew b _ e)]
     exact⟨#[],by rw[e];simp⟩
   .obtain⟨o,es,ep,ho,r⟩:=hm
    exact⟨o,es,ep,kp _ o (nP _ I.free) ho,r⟩
   .by_cases z1:b=h'.objs.size
    .subst z1
     rw[ao] at e
     cases e
     exact abl (uc _ rfl)
    .by_cases z2:b=c'
     .subst z2
      rw[upC] at e
      cases e
      exact aeE (hrec.keeps fun b o q=>jW _ q)
     .by_cases z3:b=P
      .subst z3
       rw[upP] at e
       cases e
       exact jW _ htb
      .rw[aD z1,aD z2,aD z3] at e
       refine(I.hok b u e).stay (fun c v hc q=>kp c v ?_ q) (fun c q=>?_) fun c xs q=>?_
       .rcases hc with z|z
        .rw[z];exact z3
        .exact fun z'=>by rw[z',hP] at z;cases z
       .rw[up c (fun z'=>by rw[z',hP] at q;cases q) (Ew c _ q)];exact q
       .rw[up c (fun z'=>by rw[z',hP] at q;cases q) (Ew c _ q)];exact q
  .rw[Array.toList_append];exact TriplesOk_snoc _ _ _ _ ht
  .rw[Array.toList_append];exact codeAmong_snoc _ ht hnf
 .refine PySem.W.kla_makeFunctionHit (mg:=X.mg) hcl I.ok.glob hg hcode (hC _ I.R7) hPo ht hf hB fun ctv h' tk hk hsz=>?_
  have Ew:∀b u,H b=some u->b<s.heap.objs.size:=fun b u e=>I.hok.lt e
  have nF:∀b u,H b=some u->b≠h'.objs.size:=fun b u e=>rR (wQ (Ew b u e) hsz)
  refine⟨.ref h'.objs.size,upd H h'.objs.size (FnO h'.objs.size qual params body scope clos c'),I.laid (fun b u e=>jW _ (hk b u e)) hsz (abl (uc _ rfl)),rfl,
   k h'.objs.size c' _ (fun b u e _=>by rw[aD (nF b u e)];exact e) ⟨ps,by rw[aD (nF P _ hP)];exact hP,ht,.inr ⟨c',hf,by rw[aD (nF c' _ hc')];exact hc'⟩⟩ (I.hok.fresh hsz) ao (by rw[aD (nF c' _ hc')];exact hc')⟩
def abI(X:Cx)(A:Around)(N:List Str)(qual:Str)(scope:Scope)(f c':Addr)(clos:List (Str×Addr))(s:Shared)(H:Hp):Cx where
 prog:=X.prog
 w:=X.w
 K:=X.K
 mg:=X.mg
 base:=X.base
 A:=A.deeper (envX qual scope s.heap.objs.size f (.ref c') clos)
 N:=N
 Gz:=s
 H_0:=H
 env:=envX qual scope s.heap.objs.size f (.ref c') clos
 outer:=X.stack
 stack:=envX qual scope s.heap.objs.size f (.ref c') clos::X.stack
 ex:=[]
 fn:=fun _=>false
 calm:=true
 pn:=[]
 xe:=fun _ _=>False
structure af0(X:Cx)(σ:St)(p:Str)(caps:List Str)(σc:St)(scope:Scope)(clos:List (Str×Addr)):Prop where
 len:σc.length=caps.length
 kind:scope.kind= .function
 co:scope.isCoroutine=false
 gen:scope.isGenerator=false
 par:scope.names.lookup p=some .local
 abO:∀x∈scope.names,x.2≠ .cell
 has:∀x,scope.names.lookup x=some .free->∃c,clos.lookup x=some c
 from_:∀x c,clos.lookup x=some c->X.env.cells.lookup x=some c
 caps:∀(i:Nat) (x:Str) (v:V),caps[i]? =some x->σc[i]? =some (some v)->scope.names.lookup x=some .free/\(∃c,clos.lookup x=some c)/\∃j:Nat,X.N[j]? =some x/\σ[j]? =some (some v)/\Vis X.env.scope x/\X.env.kindOf x≠some .local
theorem adC{X:Cx}{A:Around}{pins:List (Addr×Obj)}{σ σc:St}{H:Hp}{s:Shared}{f c':Addr}{p:Str}{caps:List Str}{qual:Str}{params:Arguments}{body:Expr}{scope:Scope}{clos:List (Str×Addr)}{v:V}{u:Value}{tb:TE}{R:VK}
  (I:Inv X pins σ H s)(hA:A.frames=some X.stack)(hh:A.handled=none)(hroom:A.depth<recursionLimit)(hf:H f=some (FnO f qual params body scope clos c'))(hc:H c'=some (CdO c' qual))(C:af0 X σ p caps σc scope clos)
  (hbind:∀pm ct u,bindArgs (kla_fn "<lambda>" qual params body scope clos pm (.ref c') ct) ⟨[u],[]⟩=pure [(p,u)])(rv:RelV v u)(hb:PE (abI X A (p::caps) qual scope f c' clos s H) body tb)(hq:tb (some v::σc) H R):
  wpAny (model X.prog X.w) A (call (.ref f) [u]) (fun u' s'=>∃v' H',Inv X pins σ H' s'/\(∀b xs,H b=some (.tup xs)->H' b=some (.tup xs))/\RelV v' u'/\R v' H') (fun _ _=>False) s:=by
 obtain⟨⟨pm,ctv,ho⟩,_,_⟩:=I.hok f _ hf
 obtain⟨hcd,_,_⟩:=I.hok c' _ hc
 refine wpAny_call ?_
 refine PySem.W.kla_callFunE hroom ho rfl C.co C.gen rfl hcd ?_
 rw[hbind]
 refine bW (wpAny_newFunctionEnv C.abO (fun y hy=>by rw[rN.mp hy];exact C.par) (fun h₁ hns hsb=>⟨I.nolimit.fresh _ hsb,?_⟩) C.kind)
 show codeAny _ _ (.expr body (envX qual scope s.heap.objs.size f (.ref c') clos)) _ _
 have hk₁:∀b o,s.heap.get? b=some o->h₁.get? b=some o:=fun b o e=>hsb.extBut b o (rR (jZ e)) (jW _ e)
 have noA:∀b:Addr,b∉([]:List Addr):=fun b z=>by simp at z
 have e0:=I.env0
 have J:Inv (abI X A (p::caps) qual scope f c' clos s H) [] (some v::σc) H {s with heap:=h₁,toks:=s.toks+[(p,u)].length}:=by
  refine⟨⟨e0.mod,C.kind,rfl,rfl,cF _,fun y z c h1 h2=>I.ok.inj y z c (C.from_ y c h1) (C.from_ z c h2),fun y hy=>?_,fun y c z _=>(nomatch z),fun _=>hh,Around.frames_deeper hA,.inr ⟨rfl,rfl⟩,fun b z=>absurd z (noA b),e0.bs,e0.bsz,fun b _ _=>noA b,fun b z=>absurd z (noA b),e0.Fj,e0.frf⟩,
   rfl,I.bare,Un.kept hk₁,⟨_,hns,fun i y w' h1 h2 h3=>?_⟩,fun y c h=>?_,I.hok.fresh (cF _),fun y c h=>I.xg y c (C.from_ y c h),fun q hq=>absurd (show q∈([]:List (Addr×Obj)) from hq) (by simp),I.hok.kept hk₁,?_⟩
  .have hy':scope.names.lookup y=some .cell\/scope.names.lookup y=some .free:=hy
   rcases hy' with z|z
   .exact absurd rfl (C.abO _ (qG z))
   .exact C.has y z
  .cases i with
   |zero=>
    have h1':p=y:=by simpa [abI] using h1
    have h2':v=w':=by simpa using h2
    subst h1' h2'
    exact⟨u,rv,.inl ⟨C.par,by simp⟩⟩
   |succ i=>
    have h1':caps[i]? =some y:=by simpa [abI] using h1
    have h2':σc[i]? =some (some w'):=by simpa using h2
    obtain⟨q1,⟨c,q2⟩,j,q3,q4,q5,q6⟩:=C.caps i y w' h1' h2'
    obtain⟨m,hn,hl⟩:=I.loc
    obtain⟨u',ru,lk⟩:=hl j y w' q3 q4 q5
    refine⟨u',ru,.inr ⟨.inr q1,c,q2,?_⟩⟩
    rcases lk with⟨z,_⟩|⟨_,c2,z1,o,z2,z3⟩
    .exact absurd z q6
    .rw[C.from_ y c q2] at z1;cases z1
     exact⟨o,hk₁ _ _ z2,z3⟩
  .obtain⟨v',o,z2,z3⟩:=I.cell y c (C.from_ y c h)
   exact⟨v',o,hk₁ _ _ z2,z3⟩
  .show σc.length+1=caps.length+1
   rw[C.len]
 refine PySem.W.kla_codeExpr (qF (hb [] _ _ H R J hq) (fun u' s' hs=>?_) fun _ _ hF=>hF.elim)
 obtain⟨v',H',J',rv',q'⟩:=hs
 exact⟨v',H',I.call' J'.os J'.base J'.hok J'.bare (ch:=[]) fun b z=>absurd z (noA b),J'.base.tups,rv',q'⟩
end L2
namespace L2
open PySem PySem.Spec PyProof.Rows
open PyProof.Rows.G (tupKeyC tupKindC LtAt TupsOf.keep tupC_ltAt KeepsTups)
def t_(ks:List (List Int))(as bs:List Addr):Prop:=∃ps:List (List Int×Addr),ps.Perm (ks.zip as)/\bs=ps.map Prod.snd/\ps.Pairwise (fun p q=>HT.lexLt q.1 p.1=false)/\∀c,ps.filter (fun p=>p.1==c)=(ks.zip as).filter (fun p=>p.1==c)
abbrev TV:Nat->Bool:=fun _=>false
theorem MF:∀(ns:List Int) (its:List Value) (i:Nat),Vals (ns.map V.int) its->tupItems TV i its=some (ns.map Sum.inl)
 |[],_,_,.nil=>rfl
 |n::r,_,i,.cons ⟨t,e⟩ q=>by
  subst e
  show(if TV i=true then none else(tupItems TV (i+1) _).map (Sum.inl n:: ·))=_
  rw[if_neg iY,MF r _ (i+1) q];rfl
theorem abG{P:Program}{w:World}{H:Hp}{h:Heap}{t:Addr}{ns:List Int}(hok:xO P w H h)(e:H t=some (.tup (ns.map V.int))):tupKeyC h TV (.ref t)=some (ns.map Sum.inl):=by
 obtain⟨_,its,r,o,ho,hc,n,hd⟩:=hok t _ e
 unfold tupKeyC
 rw[if_pos (by simp[G.isTupObj,ho,hc])]
 unfold tupKey
 simp only[ho,hd]
 exact MF ns _ 0 (by simpa using r)
theorem afX{P:Program}{w:World}{H:Hp}{h:Heap}{t:Addr}{ns:List Int}(hok:xO P w H h)(e:H t=some (.tup (ns.map V.int)))(hne:ns≠[]):∃f,TupOf h TV (.ref t) f:=by
 obtain⟨_,its,r,o,ho,hc,n,hd⟩:=hok t _ e
 cases ns with
 |nil=>exact absurd rfl hne
 |cons z zs=>
  cases r with
  |cons r1 r2=>
   obtain⟨tk,rfl⟩:=r1
   exact⟨_,t,o,_,n,rfl,ho,hc,hd,(by simp:_=some (Value.int z tk)),fun _=>⟨_,_,rfl⟩,fun z=>absurd z iY⟩
theorem zp:∀x y:List Int,lexLt itemOrd (x.map Sum.inl) (y.map Sum.inl)=HT.lexLt x y
 |[],[]=>rfl
 |[],_::_=>rfl
 |_::_,[]=>rfl
 |x::r,y::t=>by
  rw[HT.zR]
  show(decide (x<y)||(!decide (y<x)&&lexLt itemOrd (r.map Sum.inl) (t.map Sum.inl)))=_
  rw[zp r t]
  by_cases e:x=y
  .subst e;simp
  .rw[if_neg e]
   by_cases h:x<y
   .simp[h]
   .have h2:y<x:=by omega
    simp[h,h2]
theorem abA:∀{x y:List Int},x.map (Sum.inl:Int->Int ⊕ List Nat)=y.map Sum.inl->x=y
 |[],[],_=>rfl
 |[],_::_,h=>by simp at h
 |_::_,[],h=>by simp at h
 |x::r,y::t,h=>by
  rw[cU,cU] at h
  injection h with h1 h2
  injection h1 with h1
  rw[h1,abA h2]
theorem ae9(k c:List Int):(!HT.lexLt k c&& !HT.lexLt c k)=(k==c):=by
 by_cases e:k=c
 .subst e
  have:HT.lexLt k k=false:=by rw[<-zp];exact(listOrd itemOrd).irrefl _
  simp[this]
 .rw[beq_eq_false_iff_ne.mpr e]
  cases h1:HT.lexLt k c with
  |true=>rfl
  |false=>
   cases h2:HT.lexLt c k with
   |true=>rfl
   |false=>
    rw[<-zp] at h1 h2
    exact absurd (abA ((listOrd itemOrd).total _ _ h1 h2)) e
def ad:Value->Addr
 | .ref a=>a
 |_=>0
def vInt:V->Int
 | .int n=>n
 |_=>0
def abH(H:Hp)(t:Addr):List Int:=match H t with
 |some (.tup xs)=>xs.map vInt
 |_=>[]
theorem Yv{H:Hp}{t:Addr}{ns:List Int}(e:H t=some (.tup (ns.map V.int))):abH H t=ns:=by
 unfold abH
 rw[e]
 show(ns.map V.int).map vInt=ns
 rw[BK]
 exact(Qt fun _ _=>rfl).trans (List.map_id ns)
theorem Vh{H:Hp}:∀{ts:List Addr} {ks:List (List Int)},Paired (fun t k=>H t=some (.tup (k.map V.int))) ts ks->ts.map (abH H)=ks
 |_,_,.nil=>rfl
 |_,_,.cons e r=>by rw[cU,Yv e,Vh r]
theorem YH:∀{as:List Addr} {vs:List Value},Vals (as.map V.ref) vs->vs=as.map Value.ref
 |[],_,.nil=>rfl
 |a::r,_,.cons e q=>by
  obtain rfl:_=Value.ref a:=e
  rw[YH q];rfl
theorem Rn:∀as:List Addr,Vals (as.map V.ref) (as.map Value.ref)
 |[]=> .nil
 |a::r=> .cons rfl (Rn r)
theorem R_{H:Hp}:∀{ts:List Addr} {ks:List (List Int)},Paired (fun t k=>H t=some (.tup (k.map V.int))) ts ks->∀t∈ts,∃k:List Int,H t=some (.tup (k.map V.int))
 |_,_,.nil,t,ht=>by simp at ht
 |_,_,.cons e r,t,ht=>by
  rcases bU.mp ht with z|z
  .subst z;exact⟨_,e⟩
  .exact R_ r t z
theorem aal{P:Program}{w:World}{H:Hp}{h:Heap}{ts as:List Addr}{ks:List (List Int)}{arr a0:Array Keyed}(hok:xO P w H h)(hk:Paired (fun t k=>H t=some (.tup (k.map V.int))) ts ks)
  (h0:a0.toList=(ts.map Value.ref).zip (as.map Value.ref))(hp:arr.Perm a0)(hs:SortedToK (tupKindC h TV) arr a0.size)(hst:Stable (tupKindC h TV) arr a0):
  ∃bs:List Addr,(arr.map (·.2)).toList=bs.map Value.ref/\t_ ks as bs:=by
 have hz:a0.toList=(ts.zip as).map fun p=>(Value.ref p.1,Value.ref p.2):=by
  rw[h0,List.zip_map];exact Qt fun _ _=>rfl
 have pl:arr.toList.Perm a0.toList:=Array.perm_iff_toList_perm.mp hp
 have ae4:=R_ hk
 have agy:∀p∈a0.toList,∃(t a:Addr) (k:List Int),p=(Value.ref t,Value.ref a)/\H t=some (.tup (k.map V.int)):=fun p hp'=>by
  rw[hz] at hp'
  obtain⟨q,hq,rfl⟩:=uU.mp hp'
  obtain⟨k,hk'⟩:=ae4 q.1 (List.of_mem_zip hq).1
  exact⟨q.1,q.2,k,rfl,hk'⟩
 have ae':∀p∈arr.toList,∃(t a:Addr) (k:List Int),p=(Value.ref t,Value.ref a)/\H t=some (.tup (k.map V.int)):=fun p hp'=>agy p (pl.mem_iff.mp hp')
 let F:Keyed->List Int×Addr:=fun p=>(abH H (ad p.1),ad p.2)
 have hF:a0.toList.map F=ks.zip as:=by
  rw[hz,BK,<-Vh hk,List.zip_map_left]
  exact Qt fun _ _=>rfl
 have agu:∀p,(∃(t a:Addr) (k:List Int),p=(Value.ref t,Value.ref a)/\H t=some (.tup (k.map V.int)))->tupKeyC h TV p.1=some ((F p).1.map Sum.inl):=fun p ⟨t,a,k,e,q⟩=>by
  subst e
  show _=some ((abH H t).map Sum.inl)
  rw[Yv q];exact abG hok q
 have same:∀(c:List Int) (l:List Keyed),(∀p∈l,∃(t a:Addr) (k:List Int),p=(Value.ref t,Value.ref a)/\H t=some (.tup (k.map V.int)))->(l.map F).filter (fun p=>p.1==c)=(rowOf (tupKindC h TV) (c.map Sum.inl) l).map F:=fun c l hl=>by
  rw[List.filter_map]
  congr 1
  refine List.filter_congr fun p hp'=>?_
  show((F p).1==c)=sameKey _ _ p
  unfold sameKey
  have e:(tupKindC h TV).keyOf p.1=some ((F p).1.map Sum.inl):=agu p (hl p hp')
  rw[e]
  show _=(!lexLt itemOrd ((F p).1.map Sum.inl) (c.map Sum.inl)&& !lexLt itemOrd (c.map Sum.inl) ((F p).1.map Sum.inl))
  rw[zp,zp,ae9]
 refine⟨(arr.toList.map F).map Prod.snd,?_,arr.toList.map F,?_,rfl,?_,fun c=>?_⟩
 .rw[Array.toList_map,BK,BK]
  refine Qt fun p hp'=>?_
  obtain⟨t,a,k,e,_⟩:=ae' p hp'
  subst e;rfl
 .rw[<-hF];exact pl.map F
 .rw[List.pairwise_map,Uj]
  intro i j hi hj hij
  have hj':j<arr.size:=by simpa using hj
  have q:=hs i j (qz hij) (by rw[<-hp.size_eq];exact hj')
  have kk:∀n (hn:n<arr.toList.length),KK (tupKindC h TV) arr n=(F arr.toList[n]).1.map Sum.inl:=fun n hn=>by
   unfold KK
   have hn':n<arr.size:=by simpa using hn
   rw[Ui hn']
   show(tupKeyC h TV (arr[n]).1).getD _=_
   rw[agu arr[n] (ae' _ (by rw[<-Array.getElem_toList hn'];exact List.getElem_mem _))]
   simp
  rw[kk i hi,kk j hj] at q
  have q':lexLt itemOrd ((F arr.toList[j]).1.map Sum.inl) ((F arr.toList[i]).1.map Sum.inl)=false:=q
  rw[zp] at q'
  exact q'
 .rw[same c _ ae',<-hF,same c _ agy,hst (c.map Sum.inl)]
section
variable{X:Cx}{pins:List (Addr×Obj)}{σ:St}{H:Hp}{s:Shared}{h':Heap}
theorem Inv.adopt{t':Nat}{ch:List Addr}{T:Addr}{ob:HO}(I:Inv X pins σ H s)(k:∀b o,b∉ch->s.heap.get? b=some o->h'.get? b=some o)(hf:∀b∈ch,Em X pins H b)(hT:T∈ch)
  (new:iC X.prog X.w (upd H T ob) h' T ob):Inv X pins σ (upd H T ob) {s with heap:=h',toks:=t'}:=by
 have hn:H T=none:=(hf T hT).1
 have nit:∀b u,H b=some u->b∉ch:=fun b u e z=>by
  have q:=(hf b z).1
  rw[q] at e;cases e
 refine I.step (g':=s.gens) (d':=s.drawn) (ch:=ch) (fun b hb=>⟨(hf b hb).2.2.2.1,(hf b hb).2.1,(hf b hb).2.2.2.2.1,(hf b hb).2.2.2.2.2⟩) (fun b o _ _ hc e _=>k b o hc e) (fun b o _ _ hc e _=>⟨o.slots,k b o hc e⟩)
  (fun b o hc e n=>?_) (fun b o hc e=>⟨o,k b o hc e⟩) (fun b xs e=>?_) (fun b o u e=>?_) (fun b ps e=>⟨#[],?_⟩) (fun m hm=>?_) (fun b u e=>?_) I.bare
 .rw[aD (fun(z:b=T)=>hc (by rw[z];exact hT))];exact n
 .rw[aD (aJ e hn)];exact e
 .rw[aD (aJ e hn)];exact e
 .rw[aD (aJ e hn),e];simp
 .obtain⟨o,es,ep,ho,r⟩:=hm
  exact⟨o,es,ep,k _ o (fun z=>(hf _ z).2.1 rfl) ho,r⟩
 .by_cases hb:b=T
  .subst hb
   rw[ao] at e
   cases e
   exact new
  .rw[aD hb] at e
   refine(I.hok b u e).stay (fun c v hc q=>k c v ?_ q) (fun c q=>by rw[aD (aJ q hn)];exact q) fun c xs q=>by rw[aD (aJ q hn)];exact q
   rcases hc with z|z
   .rw[z];exact nit b u e
   .exact nit c _ z
theorem Inv.ab3{YC:List (Addr×Obj)}{a:Addr}{o:Obj}(I:Inv X (pins++YC) σ H s)(hm:(a,o)∈YC)(hs:X.Gz.heap.objs.size<=a)(hn:∀p∈X.pn++pins,p.1≠a):Em X pins H a:=by
 obtain⟨e,n,ne,nf,d⟩:=I.pin (a,o) (iD _ (iD _ hm))
 refine⟨n,ne,nf,.inr hs,fun x c q z=>?_,hn⟩
 obtain⟨v,o',q1,q2⟩:=I.cell x c q
 rw[z] at q1
 rw[e] at q1;cases q1
 exact d v q2
theorem Inv.Y4{YC:List (Addr×Obj)}(I:Inv X (pins++YC) σ H s):Inv X pins σ H s:=I.H_ fun p hp=>I.pin p (iD _ (Bw _ hp))
end
section
variable{X:Cx}{A:Around}{E:Value->Shared->Prop}{pins:List (Addr×Obj)}{σ:St}{H:Hp}{s:Shared}{a kS:Addr}{e e1:Nat}{as ts:List Addr}{ks:List (List Int)}{P:PySem.Fin->Shared->Prop}
abbrev YL(pins:List (Addr×Obj))(kS a:Addr)(kA:Array Value)(e e1:Nat):List (Addr×Obj):=pins++[(kS,seqObj "list" kA e),(a,seqObj "list" #[] e1)]
structure ac1(X:Cx)(pins:List (Addr×Obj))(kS a:Addr):Prop where
 ka:kS≠a
 sk:X.Gz.heap.objs.size<=kS
 sa:X.Gz.heap.objs.size<=a
 nk:∀p∈X.pn++pins,p.1≠kS
 na:∀p∈X.pn++pins,p.1≠a
theorem YM{st:SortSt}(L:ac1 X pins kS a)(I:Inv X (YL pins kS a (ts.map Value.ref).toArray e e1) σ H s)(hk:Paired (fun t k=>H t=some (.tup (k.map V.int))) ts ks)(hl:ts.length=as.length)(hZ:as.length<=dM)
  (hp:(arrOf st).Perm ((ts.map Value.ref).toArray.zip (as.map Value.ref).toArray))(hs:SortedToK (tupKindC s.heap TV) (arrOf st) ((ts.map Value.ref).toArray.zip (as.map Value.ref).toArray).size)(hfl:failedOf st=none)
  (hst:Stable (tupKindC s.heap TV) (arrOf st) ((ts.map Value.ref).toArray.zip (as.map Value.ref).toArray))
  (h:∀(bs:List Addr) (s':Shared),t_ ks as bs->Inv X pins σ (upd H a (.lst (bs.map V.ref))) s'->H a=none->P (.done (.ret .none)) s'):wpAny (model X.prog X.w) A (ksk_tail a false e1 (.ref kS) st) P E s:=by
 have hZ2:=hZ
 rw[Es] at hZ2
 obtain⟨bs,hb1,hb2⟩:=aal (P:=X.prog) (w:=X.w) (as:=as) I.hok hk (by rw[Array.toList_zip]) hp hs hst
 have pk:=I.pin (kS,seqObj "list" (ts.map Value.ref).toArray e) (iD _ (iD _ (.head _)))
 have pa:=I.pin (a,seqObj "list" #[] e1) (iD _ (iD _ (.tail _ (.head _))))
 have fk:=I.ab3 (.head _) L.sk L.nk
 have fa:=I.ab3 (.tail _ (.head _)) L.sa L.na
 have hsz2:(arrOf st).size=as.length:=by rw[hp.size_eq,Array.size_zip];simp;omega
 have s1:=JQ s.heap kS (kh fun _=>(#[]:Array Value))
 have na1:(s.heap.update kS (kh fun _=>(#[]:Array Value))).get? a=some (seqObj "list" #[] e1):=(s1.2 a L.ka.symm).trans pa.1
 have s2:=JQ (s.heap.update kS (kh fun _=>(#[]:Array Value))) a (kh fun _=>(arrOf st).map (·.2))
 obtain⟨c2,hc2⟩:∃c2,((s.heap.update kS (kh fun _=>(#[]:Array Value))).update a (kh fun _=>(arrOf st).map (·.2))).get? a=some (seqObj "list" ((arrOf st).map (·.2)) c2):=⟨_,get?_update_seq na1 fun _=>(arrOf st).map (·.2)⟩
 unfold ksk_tail
 try dsimp only
 refine aR (listUpdate_at pk.1 rfl ?_ (by simp;omega) (j_ _))
 refine aR (wpAny_letGo ?_)
 refine aR (seqEpoch_at na1 rfl ?_)
 refine aR (listUpdate_at na1 rfl ?_ (j_ _) (by show((arrOf st).map (·.2)).size<=_;rw[Array.size_map,hsz2,Es];omega))
 rw[hfl]
 simp only[bne_self_eq_false,Bool.false_eq_true,if_false]
 refine bW (h bs _ hb2 ?_ fa.1)
 refine I.Y4.adopt (ch:=[kS,a]) (t':=s.toks) (fun b o hb q=>?_) (fun b hb=>?_) (by simp) ?_
 .have n1:b≠kS:=fun z=>hb (by simp[z])
  have n2:b≠a:=fun z=>hb (by simp[z])
  exact(s2.2 b n2).trans ((s1.2 b n1).trans q)
 .rcases bU.mp hb with z|z
  .rw[z];exact fk
  .rw[rN.mp z];exact fa
 .have hbl:bs.length=as.length:=by
   have:=congrArg List.length hb1
   rw[Array.length_toList,Array.size_map,hsz2,aW] at this
   exact this.symm
  refine⟨by rw[aW,hbl];exact hZ,bs.map Value.ref,c2,Rn bs,?_⟩
  have e:(bs.map Value.ref).toArray=(arrOf st).map (·.2):=by rw[<-hb1]
  rw[e];exact hc2
theorem Wa{P:Program}{w:World}{H:Hp}{h:Heap}(hok:xO P w H h):∀{ts:List Addr} {ks:List (List Int)},Paired (fun t k=>H t=some (.tup (k.map V.int))) ts ks->(∀k∈ks,k≠[])->∃fs,TupsOf h TV (ts.map Value.ref) fs
 |_,_,.nil,_=>⟨[],.nil⟩
 |_,_,.cons e r,hn=>by
  obtain⟨f,hf⟩:=afX hok e (hn _ fY)
  obtain⟨fs,hfs⟩:=Wa hok r fun k hk=>hn k (dU _ hk)
  exact⟨f::fs,.cons hf hfs⟩
theorem afx(L:ac1 X pins kS a)(I:Inv X (YL pins kS a (ts.map Value.ref).toArray e e1) σ H s)(hk:Paired (fun t k=>H t=some (.tup (k.map V.int))) ts ks)(hne:∀k∈ks,k≠[])(hl:ts.length=as.length)(hZ:as.length<=dM)
  (h:∀(bs:List Addr) (s':Shared),t_ ks as bs->Inv X pins σ (upd H a (.lst (bs.map V.ref))) s'->H a=none->P (.done (.ret .none)) s'):wpAny (model X.prog X.w) A (ksk_end a false (as.map Value.ref).toArray e1 (.ref kS) (ts.map Value.ref).toArray) P E s:=by
 have hzs:((ts.map Value.ref).toArray.zip (as.map Value.ref).toArray).size=as.length:=by rw[Array.size_zip];simp;omega
 unfold ksk_end
 try dsimp only
 rw[if_neg iY]
 by_cases h2:(as.map Value.ref).toArray.size<2
 .rw[if_pos h2,if_pos h2]
  refine aR (bW ?_)
  rw[StateT.run_pure]
  refine aR (bW ?_)
  try dsimp only
  refine YM (st:=SortSt.mk' general' ((ts.map Value.ref).toArray.zip (as.map Value.ref).toArray) #[] 7 none) L I hk hl hZ (Array.Perm.refl _) ?_ rfl (Stable.refl _) h
  intro i j hij hj
  rw[hzs] at hj
  simp at h2
  have:i=j:=by omega
  subst this
  exact KeyOrd.kle_refl _
 .rw[if_neg h2,if_neg h2]
  simp at h2
  obtain⟨fs,hfs⟩:=Wa I.hok hk hne
  have hfl:=G.TupsOf.length hfs
  rw[aW] at hfl
  refine aR (tup_kind (by rw[hfl];omega) hfs ?_)
  have h0:KeysOf (tupKindC s.heap TV) ((ts.map Value.ref).toArray.zip (as.map Value.ref).toArray):=fun p hp=>by
   rw[Array.toList_zip] at hp
   have m:=(List.of_mem_zip hp).1
   obtain⟨t,ht,e⟩:=uU.mp m
   have ae4:=R_ hk t ht
   obtain⟨k,hk'⟩:=ae4
   exact⟨_,by rw[<-e];exact abG I.hok hk'⟩
  refine aR (qF (G.wpS_sortRunsSt (κ:=tupKindC s.heap TV) (kd:=tuples' true) (a₀:=(ts.map Value.ref).toArray.zip (as.map Value.ref).toArray) (st:=SortSt.mk' (tuples' true) ((ts.map Value.ref).toArray.zip (as.map Value.ref).toArray) #[] 7 none)
   (Q:=fun _ st'=>(arrOf st').Perm ((ts.map Value.ref).toArray.zip (as.map Value.ref).toArray)/\failedOf st'=none/\SortedToK (tupKindC s.heap TV) (arrOf st') ((ts.map Value.ref).toArray.zip (as.map Value.ref).toArray).size/\Stable (tupKindC s.heap TV) (arrOf st') ((ts.map Value.ref).toArray.zip (as.map Value.ref).toArray))
   (tupC_ltAt true (KeepsTups.refl _)) h0 ⟨Array.Perm.refl _,rfl,rfl⟩ rfl (Stable.refl _) (by rw[hzs];omega) fun st' a1 a2 a3 a4=>⟨a1,a2,a3,a4⟩) ?_ fun _ _ e=>e)
  rintro⟨⟨⟩,st'⟩ s' ⟨rfl,hp,hf,hs,hst⟩
  try dsimp only
  exact YM L I hk hl hZ hp hs hf hst h
end
end L2
namespace L2
open PySem PySem.Spec PyProof.Rows
open PySem.W (CodeHd tabObj kla_obj kla_fn envX)
section
variable{X:Cx}{A:Around}{E:Value->Shared->Prop}{pins:List (Addr×Obj)}{σ:St}{H:Hp}{s:Shared}{a kS:Addr}{e e1:Nat}{as ts:List Addr}{ks:List (List Int)}{P:PySem.Fin->Shared->Prop}{f:Value}{Iv:Hp->Prop}
theorem Vz{H:Hp}{ts:List Addr}{ks:List (List Int)}{i:Nat}{t:Addr}{k:List Int}(h:Paired (fun t k=>H t=some (.tup (k.map V.int))) ts (ks.take i))(hk:ks[i]? =some k)(ht:H t=some (.tup (k.map V.int))):
  Paired (fun t k=>H t=some (.tup (k.map V.int))) (ts++[t]) (ks.take (i+1)):=by
 have e:ks.take (i+1)=ks.take i++[k]:=by rw[mY,hk];rfl
 rw[e]
 have go:∀{l:List Addr} {m:List (List Int)},Paired (fun t k=>H t=some (.tup (k.map V.int))) l m->Paired (fun t k=>H t=some (.tup (k.map V.int))) (l++[t]) (m++[k]):=fun{l m} h=>by
  induction h with
  |nil=>exact .cons ht .nil
  |cons a b ih=>exact .cons a ih
 exact go h
theorem adS(L:ac1 X pins kS a)(I:Inv X (YL pins kS a #[] 0 e1) σ H s)(hne:∀k∈ks,k≠[])(hl:ks.length=as.length)(hZ:as.length<=dM)(h0:Iv H)
  (turn:∀(i:Nat) (b:Addr) (k:List Int) (ux:List (Addr×Obj)) (H':Hp) (s':Shared),as[i]? =some b->ks[i]? =some k->Iv H'->Inv X ux σ H' s'->
   wpAny (model X.prog X.w) A (call f [.ref b]) (fun u s''=>∃(t:Addr) (RD:Hp),u= .ref t/\Inv X ux σ RD s''/\(∀b xs,H' b=some (.tup xs)->RD b=some (.tup xs))/\RD t=some (.tup (k.map V.int))/\Iv RD) (fun _ _=>False) s')
  (h:∀(bs:List Addr) (H':Hp) (s':Shared),Iv H'->t_ ks as bs->Inv X pins σ (upd H' a (.lst (bs.map V.ref))) s'->H' a=none->P (.done (.ret .none)) s'):
  wpAny (model X.prog X.w) A (ksk_rest a f false (as.map Value.ref).toArray e1 (.ref kS)) P E s:=by
 have hZ2:=hZ
 rw[Es] at hZ2
 unfold ksk_rest
 refine aR (wpAny_rule ?_)
 first
  |rw[List.forIn_toArray]
  |(rw[<-Array.forIn_toList];simp only[List.toList_toArray])
  |rw[<-Array.forIn_toList]
 refine aR (ksk_fold (fun i s'=>∃(H':Hp) (ts:List Addr) (e:Nat),Inv X (YL pins kS a (ts.map Value.ref).toArray e e1) σ H' s'/\ts.length=i/\Paired (fun t k=>H' t=some (.tup (k.map V.int))) ts (ks.take i)/\Iv H') (as.map Value.ref) 0 s
  ⟨H,[],0,I,rfl,.nil,h0⟩ ?step ?done)
 case step=>
  rintro j x s' hx ⟨H',ts,e,I',htl,hp,hv⟩
  simp only[Nat.zero_add] at htl hp ⊢
  obtain⟨b,hb,rfl⟩:∃b,as[j]? =some b/\x=Value.ref b:=by
   rw[gw] at hx
   cases q:as[j]? with
   |none=>rw[q] at hx;cases hx
   |some z=>rw[q] at hx;exact⟨z,rfl,(dJ hx).symm⟩
  have hj:j<as.length:=(gn.mp hb).1
  obtain⟨k,hkj⟩:∃k,ks[j]? =some k:=⟨_,pF (by omega)⟩
  refine aR (wpAny_attempt (qF (turn j b k _ H' s' hb hkj hv I') (fun v s'' he=>?_) fun _ _ hF=>hF.elim))
  obtain⟨t,H2,rfl,I2,tp,ht,hv2⟩:=he
  try dsimp only
  have pk:=I2.pin (kS,seqObj "list" (ts.map Value.ref).toArray e) (iD _ (iD _ (.head _)))
  have pa:=I2.pin (a,seqObj "list" #[] e1) (iD _ (iD _ (.tail _ (.head _))))
  have fk:=I2.ab3 (.head _) L.sk L.nk
  have s1:=JQ s''.heap kS (kh (·.push (.ref t)))
  obtain⟨c2,hc2⟩:∃c2,(s''.heap.update kS (kh (·.push (.ref t)))).get? kS=some (seqObj "list" ((ts.map Value.ref).toArray.push (.ref t)) c2):=⟨_,get?_update_seq pk.1 (·.push (.ref t))⟩
  have ea:((ts++[t]).map Value.ref).toArray=(ts.map Value.ref).toArray.push (.ref t):=by simp
  refine aR (listUpdate_at pk.1 rfl ?_ (by simp;omega) (by simp;omega))
  refine bW ⟨rfl,H2,ts++[t],c2,?_,by simp[htl],Vz (Paired.iM hp fun _ _ z=>tp _ _ z) hkj ht,hv2⟩
  have I3:Inv X pins σ H2 {s'' with heap:=s''.heap.update kS (kh (·.push (.ref t))),toks:=s''.toks}:=I2.Y4.T9 (ch:=[kS]) (fun b o hb q=>(s1.2 b (fun z=>hb (by simp[z]))).trans q) fun b hb=>by rw[rN.mp hb];exact fk
  refine I3.H_ fun p hp'=>?_
  rcases j9.mp hp' with hp'|hp'
  .exact I3.pin p (iD _ hp')
  .rcases bU.mp hp' with rfl|hp'
   .refine⟨?_,pk.2.1,pk.2.2.1,pk.2.2.2.1,fun v z=>by cases z⟩
    show _=some (seqObj "list" ((ts++[t]).map Value.ref).toArray c2)
    rw[ea];exact hc2
   .rw[rN.mp hp']
    exact⟨(s1.2 a L.ka.symm).trans pa.1,pa.2.1,pa.2.2.1,pa.2.2.2.1,fun v z=>by cases z⟩
 case done=>
  rintro s' ⟨H',ts,e,I',htl,hp,hv⟩
  have aou:ts.length=as.length:=by rw[htl];simp
  have hp':Paired (fun t k=>H' t=some (.tup (k.map V.int))) ts ks:=by
   have e3:ks.take (0+(as.map Value.ref).length)=ks:=List.take_of_length_le (by simp;omega)
   rw[e3] at hp
   exact hp
  have pk:=I'.pin (kS,seqObj "list" (ts.map Value.ref).toArray e) (iD _ (iD _ (.head _)))
  try dsimp only
  refine aR (listItems_at pk.1 rfl ?_)
  exact afx L I' hp' hne aou hZ fun bs s2 h1 h2 h3=>h bs H' s2 hv h1 h2 h3
theorem adT{n:Nat}(I:Inv X pins σ H s)(ho:s.heap.get? a=some (seqObj "list" (as.map Value.ref).toArray n))(fa:Em X pins H a)(hsa:X.Gz.heap.objs.size<=a)(hne:∀k∈ks,k≠[])(hl:ks.length=as.length)(hZ:as.length<=dM)(h0:Iv H)
  (turn:∀(i:Nat) (b:Addr) (k:List Int) (ux:List (Addr×Obj)) (H':Hp) (s':Shared),as[i]? =some b->ks[i]? =some k->Iv H'->Inv X ux σ H' s'->
   wpAny (model X.prog X.w) A (call f [.ref b]) (fun u s''=>∃(t:Addr) (RD:Hp),u= .ref t/\Inv X ux σ RD s''/\(∀b xs,H' b=some (.tup xs)->RD b=some (.tup xs))/\RD t=some (.tup (k.map V.int))/\Iv RD) (fun _ _=>False) s')
  (h:∀(bs:List Addr) (H':Hp) (s':Shared),Iv H'->t_ ks as bs->Inv X pins σ (upd H' a (.lst (bs.map V.ref))) s'->H' a=none->P (.done (.ret .none)) s'):
  wpAny (model X.prog X.w) A (ksk_tree a f false) P E s:=by
 have hZ2:=hZ
 rw[Es] at hZ2
 have ha:a<s.heap.objs.size:=jZ ho
 have s1:=JQ s.heap a (kh fun _=>(#[]:Array Value))
 obtain⟨e1,ho1⟩:∃e1,(s.heap.update a (kh fun _=>(#[]:Array Value))).get? a=some (seqObj "list" #[] e1):=⟨_,get?_update_seq ho fun _=> #[]⟩
 have hkS:((s.heap.update a (kh fun _=>(#[]:Array Value))).push (seqObj "tuple" (as.map Value.ref).toArray 0)).objs.size=s.heap.objs.size+1:=by rw[size_push',Heap.size_update]
 unfold ksk_tree
 refine aR (listItems_at ho rfl ?_)
 refine aR (listUpdate_at ho rfl ?_ (by simp;omega) (j_ _))
 refine aR (seqEpoch_at ho1 rfl ?_)
 refine aR (wpAny_newTuple ?_ (by simp;omega))
 refine aR (wpAny_newList ?_ (j_ _))
 refine wpAny_holding ?_
 have keep:∀b o,b≠a->s.heap.get? b=some o->(((s.heap.update a (kh fun _=>(#[]:Array Value))).push (seqObj "tuple" (as.map Value.ref).toArray 0)).push (seqObj "list" #[] 0)).get? b=some o:=fun b o hb q=>
  jW _ (jW _ ((s1.2 b hb).trans q))
 have I6:Inv X pins σ H {s with heap:=((s.heap.update a (kh fun _=>(#[]:Array Value))).push (seqObj "tuple" (as.map Value.ref).toArray 0)).push (seqObj "list" #[] 0),toks:=s.toks}:=
  I.T9 (ch:=[a]) (fun b o hb q=>keep b o (fun z=>hb (by simp[z])) q) fun b hb=>by rw[rN.mp hb];exact fa
 have fk:Em X pins H (s.heap.objs.size+1):=I.abm (Nat.le_succ _) (I.hok.fresh (Nat.le_succ _))
 have L:ac1 X pins (s.heap.objs.size+1) a:=⟨Nat.ne_of_gt (Nat.lt_succ_of_lt ha),Nat.le_succ_of_le I.sz,hsa,fk.2.2.2.2.2,fa.2.2.2.2.2⟩
 show wpAny _ _ (ksk_rest a f false (as.map Value.ref).toArray e1 (.ref ((s.heap.update a (kh fun _=>(#[]:Array Value))).push (seqObj "tuple" (as.map Value.ref).toArray 0)).objs.size)) _ _ {s with heap:=((s.heap.update a (kh fun _=>(#[]:Array Value))).push (seqObj "tuple" (as.map Value.ref).toArray 0)).push (seqObj "list" #[] 0)}
 rw[hkS]
 refine adS L (I6.H_ fun p hp=>?_) hne hl hZ h0 turn h
 rcases j9.mp hp with hp|hp
 .exact I6.pin p (iD _ hp)
 .rcases bU.mp hp with rfl|hp
  .refine⟨?_,fk.1,fk.2.1,fk.2.2.1,fun v z=>by cases z⟩
   show(((s.heap.update a (kh fun _=>(#[]:Array Value))).push (seqObj "tuple" (as.map Value.ref).toArray 0)).push (seqObj "list" #[] 0)).get? (s.heap.objs.size+1)=some (seqObj "list" #[] 0)
   rw[<-hkS];exact uc _ rfl
  .rw[rN.mp hp]
   exact⟨jW _ (jW _ ho1),fa.1,fa.2.1,fa.2.2.1,fun v z=>by cases z⟩
end
section
variable{X:Cx}{E:Value->Shared->Prop}{pins:List (Addr×Obj)}{σ:St}{H:Hp}{s:Shared}{as:List Addr}{ks:List (List Int)}{Iv:Hp->Prop}
theorem aak{l f:Addr}{Q:Value->Shared->Prop}(I:Inv X pins σ H s)(hS:bN X.K H l (as.map V.ref))(hne:∀k∈ks,k≠[])(hl:ks.length=as.length)(h0:Iv H)
  (turn:∀(i:Nat) (b:Addr) (k:List Int) (ux:List (Addr×Obj)) (H':Hp) (s':Shared),as[i]? =some b->ks[i]? =some k->Iv H'->Inv X ux σ H' s'->
   wpAny (model X.prog X.w) X.A.in1.in1 (call (.ref f) [.ref b]) (fun u s''=>∃(t:Addr) (RD:Hp),u= .ref t/\Inv X ux σ RD s''/\(∀b xs,H' b=some (.tup xs)->RD b=some (.tup xs))/\RD t=some (.tup (k.map V.int))/\Iv RD) (fun _ _=>False) s')
  (h:∀(bs:List Addr) (H':Hp) (s':Shared) (q:Addr),Iv H'->t_ ks as bs->Inv X pins σ (upd H' q (.lst (bs.map V.ref))) s'->H' q=none->Q (.ref q) s'):
  wpAny (model X.prog X.w) X.A (call (.builtin "sorted") [.ref l] [(GJ "key",.ref f)]) Q E s:=by
 obtain⟨its,r',pl,hz⟩:=I.list hS
 obtain rfl:=YH r'
 rw[aW] at hz
 have hZ2:=hz
 rw[Es] at hZ2
 refine call_function_entry_kw kind_sorted plain_sorted entry_sorted (ksk_s1 _ _) ?_
 unfold Builtin.«sorted»
 refine aR (m:=checkCount "sorted" 1 1 _) (bW ?_)
 refine aR (collect_list pl.isList ?_ (by simp;omega))
 refine aR (wpAny_newList ?_ (by simp;omega))
 have hsz:((s.heap.push (seqObj "list" #[] 0)).update s.heap.objs.size (kh (· ++(as.map Value.ref).toArray))).objs.size=s.heap.objs.size+1:=by
  rw[Heap.size_update,size_push']
 have hoL:(((s.heap.push (seqObj "list" #[] 0)).update s.heap.objs.size (kh (· ++(as.map Value.ref).toArray))).push (seqObj "list" (as.map Value.ref).toArray 0)).get? (s.heap.objs.size+1)=some (seqObj "list" (as.map Value.ref).toArray 0):=by
  rw[<-hsz];exact uc _ rfl
 have keep:∀b o,s.heap.get? b=some o->(((s.heap.push (seqObj "list" #[] 0)).update s.heap.objs.size (kh (· ++(as.map Value.ref).toArray))).push (seqObj "list" (as.map Value.ref).toArray 0)).get? b=some o:=fun b o q=>by
  have hlt:b<s.heap.objs.size:=jZ q
  rw[Heap.get?_push_ne _ _ _ (by rw[hsz];exact rR (Nat.lt_succ_of_lt hlt)),Heap.get?_update_ne _ _ _ _ (rR hlt),Heap.get?_push_ne _ _ _ (rR hlt)]
  exact q
 show wpAny _ _ _ _ _ {s with heap:=((s.heap.push (seqObj "list" #[] 0)).update s.heap.objs.size (kh (· ++(as.map Value.ref).toArray))).push (seqObj "list" (as.map Value.ref).toArray 0)}
 rw[hsz]
 refine aR (wpAny_holding (wpAny_call_entry_kw slot_list_sort ⟨_,hoL,rfl⟩ entry_list_sort ?body (ksk_l1 _ _)))
 case body=>
  show wpAny (model X.prog X.w) X.A.in1.in1 (Builtin.«list.sort» ⟨[.ref (s.heap.objs.size+1)],[(GJ "key",.ref f)]⟩) _ _ _
  rw[ksk_t1]
  have I2:Inv X pins σ H {s with heap:=((s.heap.push (seqObj "list" #[] 0)).update s.heap.objs.size (kh (· ++(as.map Value.ref).toArray))).push (seqObj "list" (as.map Value.ref).toArray 0),toks:=s.toks}:=I.kept keep
  refine adT I2 hoL (I.abm (Nat.le_succ _) (I.hok.fresh (Nat.le_succ _))) (Nat.le_succ_of_le I.sz) hne hl hz h0 turn fun bs H' s' hv hb hI hn=>⟨_,rfl,?_⟩
  exact bW ⟨_,rfl,h bs H' s' _ hv hb hI hn⟩
end
theorem RM{M:Model}{A:Around}{E:Value->Shared->Prop}{s:Shared}{pos:Pos}{id:String}{args:List (Bool×Sem Value)}{kws:List (Option Str×Sem Value)}{Q:Value->Shared->Prop}(hplain:(args.any (·.1)||kws.any (·.1.isNone))=false)
  (h:wpAny M A (evalArgs (.builtin id) true args kws) (fun a s₁=>wpAny M A (call (.builtin id) a.pos a.kw) Q E s₁) E s):wpAny M A (callWith pos (.builtin id) [] args kws) Q E s:=by
 unfold callWith
 refine aR (wpAny_holding (qF h (fun a s₁ h₁=>aR (wpAny_standAt ?_)) fun _ _ x=>x))
 simp only[hplain]
 refine aR (bW ?_)
 exact aR (qF h₁ (fun r s₂ hr=>aR (wpAny_holding (wpAny_point (bW hr)))) fun _ _ x=>x)
theorem boot_sorted:bootBuiltins "sorted"=some (.builtin "sorted"):=by decide+kernel
theorem TabAt.same{H H':Hp}{P:Addr}{pos:Pos}{qual:Str}(h:TabAt H P pos qual)(e:∀b u,H b=some u->H' b=some u):TabAt H' P pos qual:=by
 obtain⟨ps,h1,h2,h3⟩:=h
 exact⟨ps,e _ _ h1,h2,h3.elim .inl fun⟨c',z1,z2⟩=> .inr ⟨c',z1,e _ _ z2⟩⟩
def on1(R:V->Hp->Prop):List V->Hp->Prop
 |[x],H=>R x H
 |_,_=>False
def afW(X:Cx)(te tb:TE)(P:Addr)(Vi:Pos)(p:Str)(caps:List Str)(qual:Str)(scope:Scope)(clos:List (Str×Addr)):TE:=fun σ H Q=>te σ H fun x H1=>∃(l:Addr) (as:List Addr) (ks:List (List Int)) (σc:St),
 x= .ref l/\bN X.K H1 l (as.map V.ref)/\ks.length=as.length/\(∀k∈ks,k≠[])/\af0 X σ p caps σc scope clos/\TabAt H1 P Vi qual/\
 (∀(i:Nat) (b:Addr) (k:List Int) (H':Hp),as[i]? =some b->ks[i]? =some k->tZ P H1 H'->tb (some (.ref b)::σc) H' fun v RD=>∃t,v= .ref t/\RD t=some (.tup (k.map V.int))/\∀b u,H' b=some u->RD b=some u)/\
 ∀(bs:List Addr) (H':Hp) (q:Addr),tZ P H1 H'->TabAt H' P Vi qual->t_ ks as bs->H' q=none->Q (.ref q) (upd H' q (.lst (bs.map V.ref)))
theorem NQ{X:Cx}{e:Expr}{te tb:TE}{P:Addr}{Vi np pos kpos:Pos}{p:Str}{caps:List Str}{qual:Str}{params:Arguments}{body:Expr}{scope:Scope}{clos:List (Str×Addr)}{k:Nat}(hr:cI k X.A)
  (he:PE X e te)(aoq:PE X (.Lambda params body scope Vi) (agW P Vi qual params body scope clos))(hg:Gl X "sorted")(hm:X.mg "sorted"=none)
  (hbind:∀pm c' ct u,bindArgs (kla_fn "<lambda>" qual params body scope clos pm (.ref c') ct) ⟨[u],[]⟩=pure [(p,u)])
  (hb:∀(f c':Addr) (s:Shared) (H:Hp),PE (abI X X.A.in1.in1 (p::caps) qual scope f c' clos s H) body tb)
  (hst:starEach [e] X.env=[(false,eval e X.env)]:=by rfl):
  PE X (.Call (.Name "sorted" np) [e] [⟨some "key",.Lambda params body scope Vi,kpos⟩] pos) (afW X te tb P Vi p caps qual scope clos):=by
 intro pins s σ H Q I h
 refine wpAny_Call_Name_kw (Sh I hg hm boot_sorted ?_ (by decide) (by decide))
 refine RM (by rw[hst];rfl) (evalArgs_kw2 rfl ?_ hst)
 refine jk (aj he aq hst pos pins s σ H (on1 _) I h) fun us s1 ⟨vs,H1,I1,r1,q1⟩=>?_
 obtain⟨x,rfl⟩:∃x,vs=[x]:=by
  cases vs with
  |nil=>exact q1.elim
  |cons x r=>cases r with
   |nil=>exact⟨x,rfl⟩
   |cons y z=>exact q1.elim
 obtain⟨l,as,ks,σc,e1,hS,hl,hne,C,hT,turn,fin⟩:=q1
 subst e1
 obtain⟨u,rfl,rx⟩:=vals1 r1
 obtain rfl:u=Value.ref l:=rx
 refine jk (adM (kws:=[]) (nm:=some "key") (kpos:=kpos) aoq afq pos pins s1 σ H1 (fun xs H2=>∃f c',xs=[V.ref f]/\tZ P H1 H2/\TabAt H2 P Vi qual/\H2 f=some (FnO f qual params body scope clos c')/\H2 c'=some (CdO c' qual)) I1 ?_) fun ws s2 ⟨zs,H2,I2,rz,f,c',ez,Yh,hT2,hf,hc⟩=>?_
 .exact⟨hT,fun f c' H' z1 z2 _ z3 z4=>⟨f,c',rfl,z1,z2,z3,z4⟩⟩
 .cases ez
  obtain⟨fv,rfl,rf⟩:=vals1 rz
  obtain rfl:fv=Value.ref f:=rf
  have hS2:bN X.K H2 l (as.map V.ref):=by
   rcases hS with(z|⟨o,z⟩)|z
   .refine .inl (.inl (Yh _ _ z fun q=>?_))
    obtain⟨ps,q2,_⟩:=hT
    rw[q,q2] at z;cases z
   .refine .inl (.inr ⟨o,Yh _ _ z fun q=>?_⟩)
    obtain⟨ps,q2,_⟩:=hT
    rw[q,q2] at z;cases z
   .exact .inr z
  show wpAny _ _ (call (.builtin "sorted") [.ref l] [(GJ "key",.ref f)]) _ _ s2
  refine aak (Iv:=fun H'=>∀b u,H2 b=some u->H' b=some u) I2 hS2 hne hl (fun _ _ z=>z) (fun i b k ux H' s' hb1 hk1 hv I'=>?_) fun bs H' s' q hv hbs hI hn=>?_
  .have sx:tZ P H1 H':=fun b u z n=>hv b u (Yh b u z n)
   refine qF (adC (A:=X.A.in1.in1) (v:= .ref b) I' I'.ok.frames hr.hd hr.depth (hv _ _ hf) (hv _ _ hc) C (fun pm ct u=>hbind pm c' ct u) rfl (hb f c' s' H') (turn i b k H' hb1 hk1 sx)) (fun u s'' hq=>?_) fun _ _ hF=>hF
   obtain⟨v',RD,I'',tp,rv,t,ev,ht,hs⟩:=hq
   subst ev
   obtain rfl:u=Value.ref t:=rv
   exact⟨t,RD,rfl,I'',tp,ht,fun b u z=>hs b u (hv b u z)⟩
  .exact⟨.ref q,_,hI,rfl,fin bs H' q (fun b u z n=>hv b u (Yh b u z n)) (hT2.same hv) hbs hn⟩
end L2
namespace L2
open PySem PySem.Spec PyProof.Rows
section
variable{pr:Program}{w:World}{K:Type}[DecidableEq K]{kd:HeapKind pr w K}{A:Around}{E:Value->Shared->Prop}{s:Shared}
theorem V3{d a:Addr}{xs:List (K×Addr×Value)}{k:K}{x:Value}{Q:Value->Shared->Prop}(hu:kd.room A)(hk:kd.is s.heap k a)(hm:s.heap.DictOfH kd d xs)(hz:xs.length<=dM)
  (h1:∀p,atKey xs k=some p->Q p.2 {s with toks:=s.toks+kd.draws k})
  (h2:atKey xs k=none->∀h',h'.DictOfH kd d (storedH xs k a x)->Heap.SameBut d s.heap h'->Q x {s with heap:=h',toks:=s.toks+kd.draws k}):
  wpAny (model pr w) A (dictSetDefault d (.ref a) x) Q E s:=by
 obtain⟨o,es,n,io,ix,id1,ie,ii,iN⟩:=hm
 unfold dictSetDefault
 try with_reducible refine wpAny_holding ?_
 refine aR (kd.pyHash hu hk ?_)
 refine aR (wpAny_dictFind_heap (s:={s with toks:=s.toks+kd.draws k}) hu hk io id1 ie ii iN (fun no=>?_) fun j p hj=>?_)
 .have hn:=atKey_none_of_get no
  have out:k∉xs.map (·.1):=not_mem_keys_of_get no
  refine aR (wpAny_rule (aR (wpAny_updateDictKeys (hz:=by have e:=size_of_entries ie;omega) (s:={s with toks:=s.toks+kd.draws k}) io id1 (bW (h2 hn _ ⟨_,_,n+1,Heap.get?_update_self _ io (Obj.isFreed_of_dict (Obj.data_mapDictKeys id1 _)),
   ix.mapDictKeys _,Obj.data_mapDictKeys id1 _,?_,?_,?_⟩ (JQ ..))))))
  .rw[storedH_new hn]
   simp[ie,entryOfKey]
  .rw[storedH_new hn]
   intro y hy
   rcases j9.mp hy with hy|hy
   .exact kd.keeps (ii y hy) io id1 (JQ ..)
   .rw[rN.mp hy]
    exact kd.keeps hk io id1 (JQ ..)
  .rw[storedH_new hn,fP,List.nodup_append]
   refine⟨iN,by simp,fun y hy z hz'=>?_⟩
   have ez:z=k:=by simpa using hz'
   exact fun e=>out (ez▸e▸hy)
 .have hq:=h1 p (atKey_of_get iN hj)
  refine aR (wpAny_dictEntries (s:={s with toks:=s.toks+kd.draws k}) io id1 ?_)
  rw[entry_at ie j,hj]
  exact aR (wpAny_rule (bW hq))
theorem Pr{d a:Addr}(hd:(d==sysModules)=false)(x:Value):
  MeetsIn pr w (Builtin.«dict.setdefault» ⟨[.ref d,.ref a,x],[]⟩) (fun A R s=>kd.room A.in1/\∃k xs,kd.is s.heap k a/\s.heap.DictOfH kd d xs/\xs.length<=dM/\
   (∀p,atKey xs k=some p->R (.ok (.ret p.2)) {s with toks:=s.toks+kd.draws k})/\
   (atKey xs k=none->∀h',h'.DictOfH kd d (storedH xs k a x)->Heap.SameBut d s.heap h'->R (.ok (.ret x)) {s with heap:=h',toks:=s.toks+kd.draws k})):=
 .of_wp fun A R s ⟨hu,k,xs,hk,hm,hz,q1,q2⟩=>by
  unfold Builtin.«dict.setdefault»
  refine aR ?_
  unfold Builtin.Dict.keyAndDefault
  refine aR (wpAny_notOrdered_dict hm.typeIs ?_)
  show wpAny _ _ (pure (d,Value.ref a,some x)) _ _ s
  refine bW ?_
  show wpAny _ _ (if(d==sysModules)=true then _ else(dictSetDefault d (.ref a) x>>=_)) _ _ s
  rw[hd]
  exact aR (V3 hu hk hm hz (fun p hp=>bW ⟨_,rfl,q1 p hp⟩) fun hn h' z1 z2=>bW ⟨_,rfl,q2 hn h' z1 z2⟩)
end
section
variable{X:Cx}{pins:List (Addr×Obj)}{σ:St}{H:Hp}{s:Shared}{d b:Addr}{kvs:List (List Key×V)}{k:List Key}{v:V}{r:Value}{A:Around}{E:Value->Shared->Prop}
theorem aa8{Q:Value->Shared->Prop}(hu:A.units+1<cLine)(I:Inv X pins σ H s)(e:H d=some (.dT kvs))(eb:H b=some (.tup (k.map kV)))(hl:kvs.length<dM)(rv:RelV v r)
  (h1:∀x,iJ kvs k=some x->∀w' s',Inv X pins σ H s'->RelV x w'->Q w' s')(h2:iJ kvs k=none->∀s',Inv X pins σ (upd H d (.dT (putK kvs k v))) s'->Q r s'):
  wpAny (model X.prog X.w) A (call (.builtin "dict.setdefault") [.ref d,.ref b,r]) Q E s:=by
 obtain⟨z,hd,xs,rel,dd⟩:=abe I.hok e
 have hz:xs.length<=dM:=by rw[<-gC rel];exact z
 have hp:(putK kvs k v).length<=dM:=by have:=qw kvs k v;omega
 have rk:=rel.val k
 refine call_meetsIn PySem.F.slot_dict_setdefault dd.typeIs PySem.F.entry_dict_setdefault (PySem.F.args_dict_setdefault_3 _ _ _) (Pr (kd:=tupleKind (jm X.prog X.w)) hd r)
  ⟨tupleKind_room_in1 hu,k,xs,Jj I.hok eb,dd,hz,fun p hp=>?_,fun hn h' dd' hs=>?_⟩
 .rw[hp] at rk
  cases hv:iJ kvs k with
  |none=>rw[hv] at rk;exact rk.elim
  |some x=>
   rw[hv] at rk
   exact h1 x hv _ _ (I.tok _) rk
 .have hv:iJ kvs k=none:=by
   rw[hn] at rk
   cases hv:iJ kvs k with
   |none=>rfl
   |some x=>rw[hv] at rk;exact rk.elim
  refine h2 hv _ ?_
  obtain⟨q,es,ep,hq,z2,z3,z4,_,z5⟩:=dd'
  refine Hh I (by rw[e];exact True.intro) hs ⟨q,hq⟩ ⟨hp,hd,_,(rel.put k eb rv).keeps fun c ys ec=>?_,q,es,ep,hq,z2,z3,z4,z5⟩
  rw[aD (vX ec e (fun z=>nomatch z))]
  exact ec
end
def ad'(td ty tx:TE):TE:=fun σ H Q=>td σ H fun x H1=>∃a,x= .ref a/\IsD H1 a/\ty σ H1 fun y H2=>tx σ H2 fun z H3=>∃kvs k b,H3 a=some (.dT kvs)/\y= .ref b/\H3 b=some (.tup (k.map kV))/\kvs.length<dM/\
 (∀v,iJ kvs k=some v->Q v H3)/\(iJ kvs k=none->Q z (upd H3 a (.dT (putK kvs k z))))
section
variable{X:Cx}{o e f:Expr}{apos cpos:Pos}{td ty tx:TE}
theorem aaa(hu:X.A.units+1<cLine)(ho:PE X o td)(he:PE X e ty)(hf:PE X f tx)(m:M2 X o "setdefault" apos e f cpos):PE X (.Call (.Attribute o "setdefault" apos) [e,f] [] cpos) (ad' td ty tx):=by
 intro pins s σ H Q I h
 refine wpAny_Call_method m.base m.few m.line PySem.F.plainAttrs_dict PySem.F.slot_dict_setdefault PySem.F.type_dict_setdefault (jk (ho pins s σ H _ I h) fun u s1 ⟨x,H1,I1,rx,a,ex,d,q1⟩=>?_)
 subst ex
 obtain rfl:u=Value.ref a:=rx
 obtain⟨t1,t2,_⟩:=abD I1 d
 refine⟨t1,t2,?_⟩
 rw[m.trees]
 refine Calls.callWith_builtin rfl (Calls.evalArgs_plain (Calls.spliced_cons (jk (he pins s1 σ H1 _ I1 q1) fun iv s2 ⟨y,H2,I2,ry,q2⟩=>
  Calls.spliced_cons (jk (hf pins s2 σ H2 _ I2 q2) fun fv s3 ⟨z,H3,I3,rz,kvs,k,b,ea,ey,eb,hl,q3,q4⟩=>Calls.spliced_nil ?_))))
 subst ey
 obtain rfl:iv=Value.ref b:=ry
 exact aa8 hu I3 ea eb hl rz (fun x hx w' s4 I4 Tr=>⟨x,H3,I4,Tr,q3 x hx⟩) fun hn s4 I4=>⟨z,_,I4,rz,q4 hn⟩
end
theorem Walks.agv{pr:Program}{w:World}{A:Around}(hh:A.handled=none){it d:Addr}{o:Obj}{es:Array DictEntry}{ep:Nat}(hne:d≠it)(hdt:o.data= .dict es ep):
  PySem.Walks pr w A it [it,d] [it] es.size (fun i v=>∃en,es[i]? =some en/\en.key=v) (fun i h=>h.IsKeyIter it d i es.size ep/\h.get? d=some o) where
 sub:=fun b hb=>by rw[rN.mp hb];simp
 frame:=fun i h h' st k=>⟨st.1.at fun oi e=>k it (by simp) oi e,k d (by simp) _ st.2⟩
 item:=fun i s Q E hi st hQ=>Pu st.1 st.2 hdt rfl (Ui hi) fun h' st' sb=>hQ _ h' s.toks ⟨_,Ui hi,rfl⟩ ⟨st',(sb.2 d hne).trans st.2⟩ fun b ob hb e=>(sb.2 b fun z=>hb (by simp[z])).trans e
 done:=fun s Q E st hQ=>Sv hh st.1 st.2 hdt rfl (cF _) fun h' eb=>hQ h' s.toks fun b ob hb e=>eb b ob (fun z=>hb (by simp[z])) e
 self:=fun i s Q E st h=>by
  refine wpAny_pyIter_slot st.1.typeIs F.slot_dict_keyiterator_iter (wpAny_call_entry F.slot_dict_keyiterator_iter st.1.typeIs F.entry_dict_keyiterator_iter ?_ (F.args_dict_keyiterator_iter_1 _))
  show wpAny _ _ (ret (.ref it)) _ _ s
  exact bW ⟨_,rfl,"dict_keyiterator",_,st.1.typeIs,Uh.lookup,h⟩
theorem aoW{pr:Program}{w:World}{d:Addr}{o:Obj}{es:Array DictEntry}{ep:Nat}(lo:(d==sysModules)=false)(hx:o.ExactDict)(hdt:o.data= .dict es ep):
  PySem.W.KdlSrc pr w "dict" d d es.size (fun i v=>∃en,es[i]? =some en/\en.key=v) (fun h=>h.get? d=some o) where
 type:=fun _ hm=>⟨o,hm,hx.1⟩
 there:=fun _ hm=>⟨jZ hm,jZ hm⟩
 keep:=fun _ _ hm hk=>hk d (.inl rfl) _ hm
 notList:=by decide
 notTuple:=by decide
 hint:=fun _ _ _ _ hm hq=>PySem.W.kdl_hint_dict ⟨o,hm,hx.1⟩ hq
 iter:=fun A s hh hm=>⟨_,_,(fun _ _ hq=>ZZ lo hm hx hdt hq),Walks.agv hh (rR (jZ hm)) hdt,⟨⟨_,uc _ rfl,rfl,rfl⟩,jW _ hm⟩⟩
section
variable{X:Cx}
theorem RP(hh:X.A.handled=none):yR X (.type "list") (fun xs H Q=>∃d kvs,xs=[.ref d]/\H d=some (.dT kvs)/\∀(l:Addr) (ts:List Addr),H l=none->(kvs.map (·.1)).Nodup->Paired (fun t kv=>H t=some (.tup (kv.1.map kV))) ts kvs->Q (.ref l) (upd H l (.lst (ts.map V.ref)))):=by
 intro pins s σ H xs us Q I r h
 obtain⟨d,kvs,rfl,hd,q⟩:=h
 obtain⟨u,rfl,rx⟩:=vals1 r
 obtain rfl:u=Value.ref d:=rx
 obtain⟨z,lo,xs,rel,o,es,ep,ho,hx,hdt,he,_,hN⟩:=abe I.hok hd
 have hl:kvs.length=xs.length:=gC rel
 have hes:es.size=xs.length:=size_of_entries he
 refine PySem.W.kdl_call (aoW lo hx hdt) hh ho (by omega) fun h' tk acc c' kp e hacc=>?_
 have ha:acc.toList=(xs.map fun y=>y.2.1).map Value.ref:=by
  refine List.ext_getElem? fun i=>?_
  rw[BK,gw]
  by_cases hi:i<xs.length
  .have hi2:i<acc.size:=by rw[hacc.1];omega
   obtain⟨en,q1,q2⟩:=hacc.2 i acc[i] (Ui hi2)
   rw[Array.getElem?_toList,Ui hi2,<-q2,pF hi]
   rw[entry_at he i,pF hi] at q1
   rw[<-dJ q1];rfl
  .rw[Array.getElem?_toList,Array.getElem?_eq_none (by rw[hacc.1];omega),List.getElem?_eq_none (by omega)];rfl
 have hv:Vals ((xs.map fun y=>y.2.1).map V.ref) acc.toList:=by
  rw[ha]
  have:∀l:List Addr,Vals (l.map V.ref) (l.map Value.ref):=fun l=>by
   induction l with
   |nil=>exact .nil
   |cons x r ih=>exact .cons rfl ih
  exact this _
 refine⟨.ref s.heap.objs.size,_,I.laid (t':=tk) kp (cF _) (show iC X.prog X.w _ h' _ (.lst ((xs.map fun y=>y.2.1).map V.ref)) from⟨by simp;omega,acc.toList,c',hv,by rw[Array.toArray_toList];exact e⟩),rfl,q _ _ (I.hok.fresh (cF _)) ?_ ?_⟩
 .have:∀{l:List (List Key×V)} {m:List (List Key×Addr×Value)},KT H l m->l.map (·.1)=m.map (·.1):=fun{l m} q=>by
   induction q with
   |nil=>rfl
   |cons h t ih=>rw[cU,cU,ih,h.1]
  rw[this rel];exact hN
 clear ha hv hacc e he hes hl hdt hx ho q z hN hd
 rename_i hz
 clear hz
 induction rel with
 |nil=>exact .nil
 |cons h t ih=>exact .cons h.2.1 ih
end
end L2
section
namespace L2
open PySem PySem.Spec PyProof.Rows
open PySem.W (WData Codec OpenSpec Well WellAll ReadsW ReadsAllW)
mutual
inductive Dw (K:bw) (H:Hp):V->WData->Prop
 |non:Dw K H .non .none
 |bl (b:Bool):Dw K H (.bl b) (.bool b)
 |int (i:Int):Dw K H (.int i) (.int i)
 |str (x:Str):Dw K H (.str x) (.str x)
 |Wf (b:Array UInt8):Dw K H (.Wf b) (.bytes b.toList)
 |lst {a:Addr} {xs:List V} {ds:List WData}:bN K H a xs->Br K H xs ds->Dw K H (.ref a) (.list ds)
 |tup {a:Addr} {xs:List V} {ds:List WData}:eV K H a xs->Br K H xs ds->Dw K H (.ref a) (.tuple ds)
inductive Br (K:bw) (H:Hp):List V->List WData->Prop
 |nil:Br K H [] []
 |cons {v:V} {vs:List V} {d:WData} {ds:List WData}:Dw K H v d->Br K H vs ds->Br K H (v::vs) (d::ds)
end
theorem Yg{K:bw}{H:Hp}:∀ns:List Int,Br K H (ns.map V.int) (ns.map WData.int)
 |[]=> .nil
 |n::r=> .cons (.int n) (Yg r)
theorem Yr{K:bw}{H:Hp}:∀(ns:List Int) (xs:List V),Br K H xs (ns.map WData.int)->xs=ns.map V.int
 |[],xs,h=>by
  cases h
  rfl
 |n::r,xs,h=>by
  cases h with
  |cons h1 h2=>
   cases h1
   rw[Yr r _ h2]<;>rfl
section
variable{P:Program}{w:World}{K:bw}{H:Hp}{h:Heap}{R:PySem.W.WRecords}{cl:Str->Option Addr}
theorem afN{a:Addr}{xs:List V}(hok:xO P w H h)(KX:K.In h)(q:bN K H a xs):∃(its:List Value) (o:Obj) (n:Nat),Vals xs its/\h.get? a=some o/\o.cls= .type "list"/\o.data= .seq its.toArray n:=by
 rcases q with q|⟨o,its,n,e,hc,_,hd,_,hv⟩
 .obtain⟨_,its,n,hv,e⟩:=(show iC P w H h a (.lst xs) from q.ok hok)
  exact⟨its,_,n,hv,e,rfl,rfl⟩
 .exact⟨its.toList,o,n,hv,KX _ _ e,hc,by simp[hd]⟩
theorem afO{a:Addr}{xs:List V}(hok:xO P w H h)(KX:K.In h)(q:eV K H a xs):∃(its:List Value) (o:Obj) (n:Nat),Vals xs its/\h.get? a=some o/\o.cls= .type "tuple"/\o.data= .seq its.toArray n:=by
 rcases q with q|⟨o,its,n,e,hc,hd,_,hv⟩
 .obtain⟨_,its,hv,o,e,hc,n,hd⟩:=(show iC P w H h a (.tup xs) from q.ok hok)
  exact⟨its,o,n,hv,e,hc,hd⟩
 .exact⟨its.toList,o,n,hv,KX _ _ e,hc,by simp[hd]⟩
mutual
theorem Dw.reads (hok:xO P w H h) (KX:K.In h):∀(d:WData) (v:V) (u:Value),Dw K H v d->RelV v u->∃as,ReadsW R cl h u d as
 | .none,_,_,x,r=>by
  cases x
  cases r
  exact⟨_,ReadsW.none⟩
 | .bool b,_,_,x,r=>by
  cases x
  cases r
  exact⟨_,ReadsW.bool b⟩
 | .int i,_,_,x,r=>by
  cases x
  obtain⟨t,rfl⟩:=r
  exact⟨_,ReadsW.int i t⟩
 | .str s,_,_,x,r=>by
  cases x
  obtain⟨t,rfl⟩:=r
  exact⟨_,ReadsW.str s t⟩
 | .bytes b,_,_,x,r=>by
  cases x
  obtain⟨t,rfl⟩:=r
  exact⟨_,ReadsW.bytes _ t⟩
 | .list ds,_,_,x,r=>by
  cases x with
  |lst hs ha=>
   cases r
   obtain⟨its,o,n,rv,ho,hc,hd⟩:=afN hok KX hs
   obtain⟨as,hr⟩:=Dw.readsAll hok KX ds _ its ha rv
   exact⟨_,ReadsW.list ho hc hd hr⟩
 | .tuple ds,_,_,x,r=>by
  cases x with
  |tup hs ha=>
   cases r
   obtain⟨its,o,n,rv,ho,hc,hd⟩:=afO hok KX hs
   obtain⟨as,hr⟩:=Dw.readsAll hok KX ds _ its ha rv
   exact⟨_,ReadsW.tuple ho hc hd hr⟩
 | .float _,_,_,x,_=>by cases x
 | .dict _,_,_,x,_=>by cases x
 | .bytearray _,_,_,x,_=>by cases x
 | .set _,_,_,x,_=>by cases x
 | .frozenset _,_,_,x,_=>by cases x
 | .obj _ _,_,_,x,_=>by cases x
theorem Dw.readsAll (hok:xO P w H h) (KX:K.In h):∀(ds:List WData) (vs:List V) (us:List Value),Br K H vs ds->Vals vs us->∃as,ReadsAllW R cl h us ds as
 |[],_,_,x,r=>by
  cases x
  cases r
  exact⟨_,ReadsAllW.nil⟩
 |d::ds,_,_,x,r=>by
  cases x with
  |cons h1 h2=>
   cases r with
   |cons r1 r2=>
    obtain⟨as,q1⟩:=Dw.reads hok KX d _ _ h1 r1
    obtain⟨bs,q2⟩:=Dw.readsAll hok KX ds _ _ h2 r2
    exact⟨_,ReadsAllW.cons q1 q2⟩
end
end
mutual
def YD:WData->Bool
 | .none=>true
 | .bool _=>true
 | .int _=>true
 | .str _=>true
 | .bytes _=>true
 | .list xs=>K8 xs
 | .tuple xs=>K8 xs
 |_=>false
def K8:List WData->Bool
 |[]=>true
 |x::r=>YD x&&K8 r
end
theorem VH{α:Type}{f:α->WData}(h:∀a,YD (f a)=true):∀l:List α,K8 (l.map f)=true
 |[]=>rfl
 |x::r=>by
  show(YD (f x)&&K8 (r.map f))=true
  rw[h x,VH h r]<;>rfl
theorem CK:∀(c:Codec) (a:c.denote),YD (c.enc a)=true
 | .unit,_=>rfl
 | .bool,_=>rfl
 | .int _ _,_=>rfl
 | .nat _ _,_=>rfl
 | .u8,_=>rfl
 | .bytes _ _,_=>rfl
 | .text _ _ _ _,_=>rfl
 | .list _ _ c,a=>VH (fun x=>CK c x) a
 | .pair c d,a=>by
  show(YD (c.enc a.1)&&(YD (d.enc a.2)&&true))=true
  rw[CK c a.1,CK d a.2]<;>rfl
 | .triple c d e,a=>by
  show(YD (c.enc a.1)&&(YD (d.enc a.2.1)&&(YD (e.enc a.2.2)&&true)))=true
  rw[CK c a.1,CK d a.2.1,CK e a.2.2]<;>rfl
 | .option c,none=>rfl
 | .option c,some x=>CK c x
theorem Rj:∀(cs:List Codec) (a:Codec.denoteAll cs),K8 (Codec.encAll cs a)=true
 |[],_=>rfl
 |c::cs,a=>by
  show(YD (c.enc a.1)&&K8 (Codec.encAll cs a.2))=true
  rw[CK c a.1,Rj cs a.2]<;>rfl
theorem Gv:∀{xs:List WData} {d:WData},d∈xs->d.weight<=WData.weightAll xs
 |[],d,h=>absurd h (by simp)
 |x::r,d,h=>by
  show d.weight<=x.weight+1+WData.weightAll r
  rcases bU.mp h with e|m
  .rw[e]
   omega
  .have z:=Gv m
   omega
def toV:Value->V
 | .none=> .non
 | .bool b=> .bl b
 | .int i _=> .int i
 | .str x _=> .str x
 | .bytes b _=> .Wf b
 | .ref a=> .ref a
 |_=> .non
def Zn(A:List Addr):Value->Prop
 | .none=>True
 | .bool _=>True
 | .int _ _=>True
 | .str _ _=>True
 | .bytes _ _=>True
 | .ref a=>a∈A
 |_=>False
theorem Zn.mono{A B:List Addr}(h:∀a∈A,a∈B):∀{u:Value},Zn A u->Zn B u:=fun{u} x=>by
 cases u with
 |ref a=>exact h a x
 |none=>trivial
 |bool b=>trivial
 |int i t=>trivial
 |str s t=>trivial
 |bytes b t=>trivial
 |_=>exact False.elim x
theorem ab_{A:List Addr}{u:Value}(x:Zn A u):RelV (toV u) u:=by
 cases u with
 |ref a=>rfl
 |none=>rfl
 |bool b=>rfl
 |int i t=>exact⟨t,rfl⟩
 |str s t=>exact⟨t,rfl⟩
 |bytes b t=>exact⟨t,rfl⟩
 |_=>exact False.elim x
theorem zH{A:List Addr}:∀{vs:List Value},(∀u∈vs,Zn A u)->Vals (vs.map toV) vs
 |[],_=> .nil
 |u::r,h=> .cons (ab_ (h u (fY ..))) (zH fun x hx=>h x (dU _ hx))
def Ax(h:Heap)(A:List Addr)(a:Addr):Prop:=∃vs:List Value,vs.length<=dM/\(∀u∈vs,Zn A u)/\
 (h.get? a=some {cls:= .type "list",data:= .seq vs.toArray}\/h.get? a=some {cls:= .type "tuple",data:= .seq vs.toArray})
theorem Ax.mono{h:Heap}{A B:List Addr}{a:Addr}(k:∀a∈A,a∈B)(x:Ax h A a):Ax h B a:=by
 obtain⟨vs,h1,h2,h3⟩:=x
 exact⟨vs,h1,fun u hu=>(h2 u hu).mono k,h3⟩
theorem xN{P:Params}{h:Heap}:∀{vs:List Value} {ds:List WData},WellAll P h vs ds->vs.length=ds.length
 |_,_,.nil=>rfl
 |_,_,.cons _ b=>by
  show _+1=_+1
  rw[xN b]
theorem RB{P:Params}{h:Heap}{v:Value}{ds:List WData}(x:Well P h v (.list ds)):∃(a:Addr) (vs:List Value),v= .ref a/\h.get? a=some {cls:= .type "list",data:= .seq vs.toArray}/\WellAll P h vs ds:=by
 cases x with
 |list ho hall=>exact⟨_,_,rfl,ho,hall⟩
theorem O9{P:Params}{h:Heap}{v:Value}{ds:List WData}(x:Well P h v (.tuple ds)):∃(a:Addr) (vs:List Value),v= .ref a/\h.get? a=some {cls:= .type "tuple",data:= .seq vs.toArray}/\WellAll P h vs ds:=by
 cases x with
 |tuple ho hall=>exact⟨_,_,rfl,ho,hall⟩
theorem Rz{P:Params}{h:Heap}{us:List Value}{d:WData}{ds:List WData}(x:WellAll P h us (d::ds)):∃(v:Value) (vs:List Value),us=v::vs/\Well P h v d/\WellAll P h vs ds:=by
 cases x with
 |cons a b=>exact⟨_,_,rfl,a,b⟩
theorem Yy{n:Nat}(h:n<=1048576):n<=dM:=mR h (by decide)
section
variable{P:Params}{h:Heap}
mutual
theorem aaV:∀(d:WData) (v:Value),Well P h v d->YD d=true->d.weight<=1048576->∃A:List Addr,Zn A v/\∀a∈A,Ax h A a
 | .none,_,x,_,_=>by
  cases x
  exact⟨[],trivial,fun a m=>absurd m (by simp)⟩
 | .bool b,_,x,_,_=>by
  cases x
  exact⟨[],trivial,fun a m=>absurd m (by simp)⟩
 | .int i,_,x,_,_=>by
  cases x
  exact⟨[],trivial,fun a m=>absurd m (by simp)⟩
 | .str s,_,x,_,_=>by
  cases x
  exact⟨[],trivial,fun a m=>absurd m (by simp)⟩
 | .bytes b,_,x,_,_=>by
  cases x
  exact⟨[],trivial,fun a m=>absurd m (by simp)⟩
 | .list ds,_,x,p,z=>by
  obtain⟨a,vs,rfl,ho,hall⟩:=RB x
  have z2:WData.weightAll ds<=1048576:=z
  obtain⟨A,h1,h2⟩:=G8 ds _ hall p fun d hd=>mR (Gv hd) z2
  have k:∀b∈A,b∈a::A:=fun b hb=>dU _ hb
  refine⟨a::A,fY ..,fun b hb=>?_⟩
  rcases bU.mp hb with e|m
  .rw[e]
   exact⟨vs,Yy (by rw[xN hall];exact mR (PySem.W.length_le_weightAllW ds) z2),fun u hu=>(h1 u hu).mono k,.inl ho⟩
  .exact(h2 b m).mono k
 | .tuple ds,_,x,p,z=>by
  obtain⟨a,vs,rfl,ho,hall⟩:=O9 x
  have z2:WData.weightAll ds<=1048576:=z
  obtain⟨A,h1,h2⟩:=G8 ds _ hall p fun d hd=>mR (Gv hd) z2
  have k:∀b∈A,b∈a::A:=fun b hb=>dU _ hb
  refine⟨a::A,fY ..,fun b hb=>?_⟩
  rcases bU.mp hb with e|m
  .rw[e]
   exact⟨vs,Yy (by rw[xN hall];exact mR (PySem.W.length_le_weightAllW ds) z2),fun u hu=>(h1 u hu).mono k,.inr ho⟩
  .exact(h2 b m).mono k
 | .float _,_,_,p,_=>Bool.noConfusion (show false=true from p)
 | .dict _,_,_,p,_=>Bool.noConfusion (show false=true from p)
 | .bytearray _,_,_,p,_=>Bool.noConfusion (show false=true from p)
 | .set _,_,_,p,_=>Bool.noConfusion (show false=true from p)
 | .frozenset _,_,_,p,_=>Bool.noConfusion (show false=true from p)
 | .obj _ _,_,_,p,_=>Bool.noConfusion (show false=true from p)
theorem G8:∀(ds:List WData) (vs:List Value),WellAll P h vs ds->K8 ds=true->(∀d∈ds,d.weight<=1048576)->∃A:List Addr,(∀u∈vs,Zn A u)/\∀a∈A,Ax h A a
 |[],_,x,_,_=>by
  cases x
  exact⟨[],fun u m=>absurd m (by simp),fun a m=>absurd m (by simp)⟩
 |d::ds,_,x,p,z=>by
  obtain⟨v,vs,rfl,x1,x2⟩:=Rz x
  have q:YD d=true/\K8 ds=true:=gB.mp p
  obtain⟨A,a1,a2⟩:=aaV d v x1 q.1 (z d (fY ..))
  obtain⟨B,b1,b2⟩:=G8 ds vs x2 q.2 fun e he=>z e (dU _ he)
  have kA:∀b∈A,b∈A++B:=fun b hb=>j9.mpr (.inl hb)
  have kB:∀b∈B,b∈A++B:=fun b hb=>j9.mpr (.inr hb)
  refine⟨A++B,fun u hu=>?_,fun b hb=>?_⟩
  .rcases bU.mp hu with e|m
   .rw[e]
    exact a1.mono kA
   .exact(b1 u m).mono kB
  .rcases j9.mp hb with m|m
   .exact(a2 b m).mono kA
   .exact(b2 b m).mono kB
end
end
def adz(o:Obj):Option HO:=match o.data with
 | .seq vs _=>if(o.cls==Value.type "list")=true then some (.QV o (.lst (vs.toList.map toV))) else some (.QV o (.tup (vs.toList.map toV)))
 |_=>none
def Bm(K:bw)(h:Heap)(A:List Addr):Hp:=fun b=>if b∈A then(if(K.lookup b).isNone=true then(h.get? b).bind adz else none) else none
def XS(H:Hp):Prop:=∀b,H b=none\/∃o u,H b=some (.QV o u)
theorem Vb(vs:List Value):adz {cls:= .type "list",data:= .seq vs.toArray}=some (.QV {cls:= .type "list",data:= .seq vs.toArray} (.lst (vs.map toV))):=by
 show(if(Value.type "list"==Value.type "list")=true then some (HO.QV {cls:= .type "list",data:= .seq vs.toArray} (.lst (vs.toArray.toList.map toV))) else some (HO.QV {cls:= .type "list",data:= .seq vs.toArray} (.tup (vs.toArray.toList.map toV))))=_
 rw[if_pos (beq_self_eq_true _)]
theorem Vc(vs:List Value):adz {cls:= .type "tuple",data:= .seq vs.toArray}=some (.QV {cls:= .type "tuple",data:= .seq vs.toArray} (.tup (vs.map toV))):=by
 show(if(Value.type "tuple"==Value.type "list")=true then some (HO.QV {cls:= .type "tuple",data:= .seq vs.toArray} (.lst (vs.toArray.toList.map toV))) else some (HO.QV {cls:= .type "tuple",data:= .seq vs.toArray} (.tup (vs.toArray.toList.map toV))))=_
 rw[if_neg (by decide)]
section
variable{P:Program}{w:World}{K:bw}{h:Heap}{A:List Addr}
theorem La{b:Addr}{o:Obj}(hb:b∈A)(hk:K.lookup b=none)(e:h.get? b=some o):Bm K h A b=adz o:=by
 unfold Bm
 rw[if_pos hb,hk,if_pos (show(none:Option Obj).isNone=true from rfl),e]<;>rfl
theorem adG{b:Addr}{u:HO}(q:Bm K h A b=some u):b∈A/\K.lookup b=none:=by
 unfold Bm at q
 by_cases hb:b∈A
 .rw[if_pos hb] at q
  cases hk:K.lookup b with
  |none=>exact⟨hb,rfl⟩
  |some o=>
   rw[hk,if_neg (by simp)] at q
   cases q
 .rw[if_neg hb] at q
  cases q
theorem Lb(ar:∀a∈A,Ax h A a){b:Addr}{u:HO}(q:Bm K h A b=some u):K.lookup b=none/\∃vs:List Value,vs.length<=dM/\(∀u∈vs,Zn A u)/\
  ((h.get? b=some {cls:= .type "list",data:= .seq vs.toArray}/\u= .QV {cls:= .type "list",data:= .seq vs.toArray} (.lst (vs.map toV)))\/
   (h.get? b=some {cls:= .type "tuple",data:= .seq vs.toArray}/\u= .QV {cls:= .type "tuple",data:= .seq vs.toArray} (.tup (vs.map toV)))):=by
 obtain⟨hb,hk⟩:=adG q
 obtain⟨vs,h1,h2,h3⟩:=ar b hb
 refine⟨hk,vs,h1,h2,?_⟩
 rcases h3 with e|e
 .rw[La hb hk e,Vb] at q
  exact .inl ⟨e,(dJ q).symm⟩
 .rw[La hb hk e,Vc] at q
  exact .inr ⟨e,(dJ q).symm⟩
theorem Zq(ar:∀a∈A,Ax h A a):XS (Bm K h A):=fun b=>by
 cases q:Bm K h A b with
 |none=>exact .inl rfl
 |some u=>
  obtain⟨_,vs,_,_,⟨_,e⟩|⟨_,e⟩⟩:=Lb ar q
  .exact .inr ⟨_,_,by rw[e]⟩
  .exact .inr ⟨_,_,by rw[e]⟩
theorem ac3(ar:∀a∈A,Ax h A a):xO P w (Bm K h A) h:=fun b u q=>by
 obtain⟨_,vs,h1,h2,⟨e,rfl⟩|⟨e,rfl⟩⟩:=Lb ar q
 .exact⟨e,by rw[aW];exact h1,vs,_,zH h2,e⟩
 .exact⟨e,by rw[aW];exact h1,vs,zH h2,_,e,rfl,_,rfl⟩
theorem Lq{c c':Value}{vs us:List Value}(e:(some {cls:=c,data:= .seq vs.toArray}:Option Obj)=some {cls:=c',data:= .seq us.toArray}):c=c'/\vs=us:=by
 have e1:=dJ e
 have e2:c=c':=congrArg Obj.cls e1
 have e3:Data.seq vs.toArray=Data.seq us.toArray:=congrArg Obj.data e1
 injection e3 with e4
 refine⟨e2,?_⟩
 have e5:=congrArg Array.toList e4
 simpa using e5
theorem ag4(KX:K.In h)(ar:∀a∈A,Ax h A a){a:Addr}{vs:List Value}(ha:a∈A)(e:h.get? a=some {cls:= .type "list",data:= .seq vs.toArray}):(∀u∈vs,Zn A u)/\bN K (Bm K h A) a (vs.map toV):=by
 obtain⟨us,h1,h2,h3⟩:=ar a ha
 have hu:us=vs:=by
  rcases h3 with q|q
  .rw[e] at q
   exact(Lq q).2.symm
  .rw[e] at q
   exact absurd (Value.type.inj (Lq q).1) (by decide)
 subst hu
 refine⟨h2,?_⟩
 cases hk:K.lookup a with
 |none=>exact .inl (.inr ⟨_,by rw[La ha hk e,Vb]⟩)
 |some o=>
  have e2:=KX a o hk
  rw[e] at e2
  obtain rfl:=dJ e2
  exact .inr ⟨_,us.toArray,_,hk,rfl,rfl,rfl,by rw[iG];exact h1,by simpa using zH h2⟩
theorem ag5(KX:K.In h)(ar:∀a∈A,Ax h A a){a:Addr}{vs:List Value}(ha:a∈A)(e:h.get? a=some {cls:= .type "tuple",data:= .seq vs.toArray}):(∀u∈vs,Zn A u)/\eV K (Bm K h A) a (vs.map toV):=by
 obtain⟨us,h1,h2,h3⟩:=ar a ha
 have hu:us=vs:=by
  rcases h3 with q|q
  .rw[e] at q
   exact absurd (Value.type.inj (Lq q).1) (by decide)
  .rw[e] at q
   exact(Lq q).2.symm
 subst hu
 refine⟨h2,?_⟩
 cases hk:K.lookup a with
 |none=>exact .inl (.inr ⟨_,by rw[La ha hk e,Vc]⟩)
 |some o=>
  have e2:=KX a o hk
  rw[e] at e2
  obtain rfl:=dJ e2
  exact .inr ⟨_,us.toArray,_,hk,rfl,rfl,by rw[iG];exact h1,by simpa using zH h2⟩
mutual
theorem aeR {Pm:Params} (KX:K.In h) (ar:∀a∈A,Ax h A a):∀(d:WData) (v:Value),Well Pm h v d->YD d=true->Zn A v->Dw K (Bm K h A) (toV v) d
 | .none,_,x,_,_=>by
  cases x
  exact .non
 | .bool b,_,x,_,_=>by
  cases x
  exact .bl b
 | .int i,_,x,_,_=>by
  cases x
  exact .int i
 | .str s,_,x,_,_=>by
  cases x
  exact .str s
 | .bytes b,_,x,_,_=>by
  cases x
  have z:=Dw.Wf (K:=K) (H:=Bm K h A) b.toArray
  exact z
 | .list ds,_,x,p,hu=>by
  obtain⟨a,vs,rfl,ho,hall⟩:=RB x
  obtain⟨h2,hs⟩:=ag4 KX ar hu ho
  exact .lst hs (RW KX ar ds _ hall p h2)
 | .tuple ds,_,x,p,hu=>by
  obtain⟨a,vs,rfl,ho,hall⟩:=O9 x
  obtain⟨h2,hs⟩:=ag5 KX ar hu ho
  exact .tup hs (RW KX ar ds _ hall p h2)
 | .float _,_,_,p,_=>Bool.noConfusion (show false=true from p)
 | .dict _,_,_,p,_=>Bool.noConfusion (show false=true from p)
 | .bytearray _,_,_,p,_=>Bool.noConfusion (show false=true from p)
 | .set _,_,_,p,_=>Bool.noConfusion (show false=true from p)
 | .frozenset _,_,_,p,_=>Bool.noConfusion (show false=true from p)
 | .obj _ _,_,_,p,_=>Bool.noConfusion (show false=true from p)
theorem RW {Pm:Params} (KX:K.In h) (ar:∀a∈A,Ax h A a):∀(ds:List WData) (vs:List Value),WellAll Pm h vs ds->K8 ds=true->(∀u∈vs,Zn A u)->Br K (Bm K h A) (vs.map toV) ds
 |[],_,x,_,_=>by
  cases x
  exact .nil
 |d::ds,_,x,p,hu=>by
  obtain⟨v,vs,rfl,x1,x2⟩:=Rz x
  have q:YD d=true/\K8 ds=true:=gB.mp p
  exact .cons (aeR KX ar d v x1 q.1 (hu _ (fY ..))) (RW KX ar ds vs x2 q.2 fun u m=>hu u (dU _ m))
end
end
theorem MK{ds:List WData}(h:WData.layableAll ds=true):∀d∈ds,d.weight<=1048576:=fun d hd=>
 (PySem.W.layableW_iff.mp (wU.mp h d hd)).2.2
theorem Mr:∀(cs:List Codec) (a:Codec.denoteAll cs),(Codec.encAll cs a).length=cs.length
 |[],_=>rfl
 |c::cs,a=>by
  show(Codec.encAll cs a.2).length+1=cs.length+1
  rw[Mr cs a.2]
end L2
end
namespace Kv
open PySem PySem.Spec PyProof.Rows L2
abbrev PP:Program:=PySem.Challenge.pw_keptversions_s01_answers
def top(i:Nat):Stmt:=PP.main.body.getD i (.Pass ⟨0,0,0,0⟩)
abbrev z_:Stmt:=inClass (top 17) 0
theorem Qa:aM ["self","numbers","depth","weight"] ["self","numbers","depth","weight"] (aH z_):=by walk_at "sc"
abbrev CQ:Stmt:=inClass (top 18) 0
theorem Tv:aM ["self","tag","depth","own"] ["self","tag","depth","own"] (aH CQ):=by walk_at "sc"
abbrev rC:Stmt:=inClass (top 36) 0
theorem Gh:aM ["self","where","entry"] ["self","where","entry"] (aH rC):=by walk_at "sc"
abbrev z8:Stmt:=inClass (top 51) 0
theorem P0:aM ["self","key","value","place","room"] ["self","key","value","place","room"] (aH z8):=by walk_at "sc"
abbrev wg:Stmt:=inClass (top 52) 0
theorem K9:aM ["self","kind","order","entries","room"] ["self","kind","order","entries","room"] (aH wg):=by walk_at "sc"
abbrev z9:Stmt:=inClass (top 53) 0
theorem P_:aM ["self"] ["self"] (aH z9):=by walk_at "sc"
abbrev Ge:Stmt:=top 19
theorem Kr:aM ["numbers","at","tag"] ["numbers","at"] (aH Ge):=by walk_at "sc"
abbrev uP:Stmt:=top 20
theorem zB:aM ["numbers","steps","parts_left","at","span"] ["numbers"] (aH uP):=by walk_at "sc"
abbrev sX:Stmt:=top 21
theorem mV:aM ["a","b","rest"] ["a","b"] (aH sX):=by walk_at "sc"
abbrev Df:Stmt:=top 22
theorem TF:aM ["n","d"] ["n","d"] (aH Df):=by walk_at "sc"
abbrev Oc:Stmt:=top 23
theorem aaj:aM ["number"] ["number"] (aH Oc):=by walk_at "sc"
abbrev yI:Stmt:=top 24
theorem Ox:aM ["step"] ["step"] (aH yI):=by walk_at "sc"
abbrev Ai:Stmt:=top 25
theorem Fe:aM ["numbers","depth","weight","step"] ["numbers"] (aH Ai):=by walk_at "sc"
abbrev oE:Stmt:=top 26
theorem Bq:aM ["value"] ["value"] (aH oE):=by walk_at "sc"
abbrev uL:Stmt:=top 27
theorem zy:aM ["numbers","value"] ["numbers"] (aH uL):=by walk_at "sc"
abbrev wk:Stmt:=top 28
theorem Bb:aM ["numbers","start","at","values_left"] ["numbers","start"] (aH wk):=by walk_at "sc"
abbrev Gf:Stmt:=top 29
theorem Ks:aM ["numbers","parts","at","end"] ["numbers"] (aH Gf):=by walk_at "sc"
abbrev Aj:Stmt:=top 30
theorem Qh:aM ["step","order"] ["step","order"] (aH Aj):=by walk_at "sc"
abbrev Gg:Stmt:=top 31
theorem Ku:aM ["numbers","order","codes","step","code"] ["numbers","order"] (aH Gg):=by walk_at "sc"
abbrev pB:Stmt:=top 37
theorem uy:aM ["first","second","one","other"] ["first","second"] (aH pB):=by walk_at "sc"
abbrev Fz:Stmt:=top 38
theorem V0:aM ["first","second"] ["first","second"] (aH Fz):=by walk_at "sc"
abbrev uQ:Stmt:=top 39
theorem zE:aM ["entries","found","entry"] ["entries"] (aH uQ):=by walk_at "sc"
abbrev yF:Stmt:=top 40
theorem Dn:aM ["first","second","in_first","in_second","found","entry"] ["first","second"] (aH yF):=by walk_at "sc"
abbrev ou:Stmt:=top 41
theorem rO:aM ["first","second","found","told","difference"] ["first","second"] (aH ou):=by walk_at "sc"
abbrev oA:Stmt:=top 54
theorem Bp:aM ["kind","order"] ["kind","order"] (aH oA):=by walk_at "sc"
abbrev Af:Stmt:=top 55
theorem Qg:aM ["key","value","order"] ["key","value","order"] (aH Af):=by walk_at "sc"
abbrev Dh:Stmt:=top 56
theorem TJ:aM ["key","order"] ["key","order"] (aH Dh):=by walk_at "sc"
abbrev Di:Stmt:=top 57
theorem TQ:aM ["value"] ["value"] (aH Di):=by walk_at "sc"
abbrev Jy:Stmt:=top 58
theorem Ow:aM ["entries","entry"] ["entries"] (aH Jy):=by walk_at "sc"
abbrev wG:Stmt:=top 59
theorem Bj:aM ["version","start","stop","entries"] ["version","start","stop"] (aH wG):=by walk_at "sc"
abbrev wz:Stmt:=top 60
theorem K_:aM ["shelf","number"] ["shelf","number"] (aH wz):=by walk_at "sc"
abbrev wu:Stmt:=top 61
theorem Bc:aM ["shelf","number","kinds","version"] ["shelf","number","kinds"] (aH wu):=by walk_at "sc"
abbrev yE:Stmt:=top 62
theorem Oq:aM ["shelf","room"] ["shelf","room"] (aH yE):=by walk_at "sc"
abbrev wD:Stmt:=top 63
theorem Bg:aM ["shelf","version","number"] ["shelf","version"] (aH wD):=by walk_at "sc"
abbrev sY:Stmt:=top 64
theorem Io:aM ["shelf","number"] ["shelf","number"] (aH sY):=by walk_at "sc"
abbrev wC:Stmt:=top 65
theorem Bf:aM ["shelf","version","start","stop","fresh","room","entries"] ["shelf","version","start","stop","fresh"] (aH wC):=by walk_at "sc"
abbrev Dg:Stmt:=top 66
theorem Ip:aM ["shelf","version","start","stop","room"] ["shelf","version","start","stop"] (aH Dg):=by walk_at "sc"
abbrev qb:Stmt:=top 67
theorem uX:aM ["entries","place","low","high","middle"] ["entries","place"] (aH qb):=by walk_at "sc"
abbrev wA:Stmt:=top 68
theorem Bd:aM ["entries","place","low","high","middle"] ["entries","place"] (aH wA):=by walk_at "sc"
abbrev uM:Stmt:=top 70
theorem Jz:aM ["version","entry"] ["version","entry"] (aH uM):=by walk_at "sc"
abbrev wB:Stmt:=top 71
theorem Be:aM ["version","told","entry"] ["version"] (aH wB):=by walk_at "sc"
abbrev Ae:Stmt:=top 72
theorem Qe:aM ["numbers","many"] ["numbers","many"] (aH Ae):=by walk_at "sc"
abbrev FZ:Stmt:=top 73
theorem V2:aM ["numbers"] ["numbers"] (aH FZ):=by walk_at "sc"
abbrev Jw:Stmt:=top 74
theorem Ot:aM ["numbers","parts"] ["numbers"] (aH Jw):=by walk_at "sc"
abbrev Ah:Stmt:=top 75
theorem Fb:aM ["kind","order","numbers","parts","values","part","value"] ["kind","order","numbers"] (aH Ah):=by walk_at "sc"
abbrev qe:Stmt:=top 76
theorem Er:aM ["kind","entry","former"] ["kind","entry","former"] (aH qe):=by walk_at "sc"
abbrev wF:Stmt:=top 77
theorem Bh:aM ["kind","order","rows","entries","numbers","entry"] ["kind","order","rows"] (aH wF):=by walk_at "sc"
abbrev Jx:Stmt:=top 83
theorem Ov:aM ["entries","found","entry"] ["entries"] (aH Jx):=by walk_at "sc"
abbrev wH:Stmt:=top 84
theorem Bk:aM ["entries","found","entry"] ["entries","found"] (aH wH):=by walk_at "sc"
abbrev FJ:Stmt:=top 85
theorem V1:aM ["entries"] ["entries"] (aH FJ):=by walk_at "sc"
abbrev sZ:Stmt:=top 86
theorem xu:aM ["first","second","how","in_second","in_first_alone","entry"] ["first","second","how"] (aH sZ):=by walk_at "sc"
abbrev uN:Stmt:=top 87
theorem zz:aM ["first","second","joined","start","second_start","place","stop","second_stop"] ["first","second"] (aH uN):=by walk_at "sc"
abbrev mL:Stmt:=top 88
theorem rD:aM ["shelf","first","second","how","entries"] ["shelf","first","second","how"] (aH mL):=by walk_at "sc"
abbrev pC:Stmt:=top 89
theorem uz:aM ["shelf","first","second","room","entries"] ["shelf","first","second"] (aH pC):=by walk_at "sc"
abbrev yG:Stmt:=top 90
theorem Ou:aM ["shelf","first","second","how"] ["shelf","first","second","how"] (aH yG):=by walk_at "sc"
abbrev tu:Stmt:=top 92
theorem xx:aM ["entries","order","alike","entry","rising","numbers"] ["entries","order"] (aH tu):=by walk_at "sc"
abbrev yH:Stmt:=top 93
theorem Dq:aM ["shelf","version","order","entries"] ["shelf","version","order"] (aH yH):=by walk_at "sc"
abbrev Gd:Stmt:=top 106
theorem Ko:aM ["version","place","start"] ["version","place"] (aH Gd):=by walk_at "sc"
abbrev uO:Stmt:=top 107
theorem zA:aM ["shelf","version","entry","span"] ["shelf","version","entry"] (aH uO):=by walk_at "sc"
abbrev yD:Stmt:=top 108
theorem Oo:aM ["order"] ["order"] (aH yD):=by walk_at "sc"
abbrev Ac:Stmt:=top 109
theorem EY:aM ["version","start","many","stop"] ["version","start","many"] (aH Ac):=by walk_at "sc"
abbrev FT:Stmt:=top 110
theorem Kl:aM ["shelf","wholes","rows","kind","order"] ["shelf","wholes","rows"] (aH FT):=by walk_at "sc"
abbrev FW:Stmt:=top 111
theorem Km:aM ["shelf","wholes","rows","key","value","version"] ["shelf","wholes","rows"] (aH FW):=by walk_at "sc"
abbrev FQ:Stmt:=top 112
theorem Kh:aM ["shelf","wholes","rows","key","version"] ["shelf","wholes","rows"] (aH FQ):=by walk_at "sc"
abbrev CT:Stmt:=top 113
theorem Ik:aM ["shelf","wholes","rows","key","version","span"] ["shelf","wholes","rows"] (aH CT):=by walk_at "sc"
abbrev FP:Stmt:=top 114
theorem Kg:aM ["shelf","wholes","rows","key","version","span","entry"] ["shelf","wholes","rows"] (aH FP):=by walk_at "sc"
abbrev Aa:Stmt:=top 115
theorem Qc:aM ["shelf","wholes","rows"] ["shelf","wholes","rows"] (aH Aa):=by walk_at "sc"
abbrev C_:Stmt:=top 116
theorem Im:aM ["shelf","wholes","rows","key","version"] ["shelf","wholes","rows"] (aH C_):=by walk_at "sc"
abbrev Ju:Stmt:=top 117
theorem Og:aM ["shelf","wholes","rows","version"] ["shelf","wholes","rows"] (aH Ju):=by walk_at "sc"
abbrev Ab:Stmt:=top 118
theorem yJ:aM ["shelf","wholes","rows","version","stop"] ["shelf","wholes","rows"] (aH Ab):=by walk_at "sc"
abbrev CW:Stmt:=top 119
theorem u_:aM ["shelf","wholes","rows","how","first","second"] ["shelf","wholes","rows"] (aH CW):=by walk_at "sc"
abbrev FN:Stmt:=top 120
theorem Kf:aM ["shelf","wholes","rows","rank","value","version","entry","end"] ["shelf","wholes","rows"] (aH FN):=by walk_at "sc"
abbrev De:Stmt:=top 121
theorem Al:aM ["shelf","wholes","rows","version","stop"] ["shelf","wholes","rows"] (aH De):=by walk_at "sc"
abbrev qd:Stmt:=top 122
theorem uY:aM ["shelf","wholes","many","fresh","version","start","stop"] ["shelf","wholes","many","fresh"] (aH qd):=by walk_at "sc"
abbrev yw:Stmt:=top 123
theorem Oj:aM ["shelf","wholes","rows"] ["shelf","wholes","rows"] (aH yw):=by walk_at "sc"
abbrev yr:Stmt:=top 124
theorem Oh:aM ["shelf","wholes","rows"] ["shelf","wholes","rows"] (aH yr):=by walk_at "sc"
abbrev yx:Stmt:=top 125
theorem Om:aM ["shelf","wholes","rows"] ["shelf","wholes","rows"] (aH yx):=by walk_at "sc"
abbrev yC:Stmt:=top 126
theorem Dm:aM ["shelf","wholes","rows","version"] ["shelf","wholes","rows"] (aH yC):=by walk_at "sc"
abbrev yu:Stmt:=top 127
theorem Oi:aM ["shelf","wholes","rows"] ["shelf","wholes","rows"] (aH yu):=by walk_at "sc"
abbrev Dc:Stmt:=top 128
theorem Tz:aM ["shelf","wholes","rows"] ["shelf","wholes","rows"] (aH Dc):=by walk_at "sc"
abbrev CZ:Stmt:=top 129
theorem Il:aM ["shelf","wholes","rows","version"] ["shelf","wholes","rows"] (aH CZ):=by walk_at "sc"
abbrev CV:Stmt:=top 130
theorem Tw:aM ["shelf","wholes","rows"] ["shelf","wholes","rows"] (aH CV):=by walk_at "sc"
abbrev Jv:Stmt:=top 131
theorem Ol:aM ["shelf","wholes","rows","form","parts","kind","order","entry_rows","entries"] ["shelf","wholes","rows"] (aH Jv):=by walk_at "sc"
abbrev Dd:Stmt:=top 132
theorem Ak:aM ["shelf","wholes","rows","first","second"] ["shelf","wholes","rows"] (aH Dd):=by walk_at "sc"
abbrev yq:Stmt:=top 133
theorem Dl:aM ["shelf","wholes","rows","x","y"] ["shelf","wholes","rows"] (aH yq):=by walk_at "sc"
abbrev yt:Stmt:=top 134
theorem wI:aM ["shelf","wholes","rows","first","second"] ["shelf","wholes","rows"] (aH yt):=by walk_at "sc"
abbrev Ag:Stmt:=top 136
theorem E_:aM ["calls","read","at","call","wholes_end","wholes","rows","row_end"] ["calls"] (aH Ag):=by walk_at "sc"
abbrev wj:Stmt:=top 137
theorem Ba:aM ["wholes","whole"] ["wholes"] (aH wj):=by walk_at "sc"
abbrev tQ:Stmt:=top 138
theorem Dk:aM ["shelf","call","wholes","rows","work"] ["shelf","call","wholes","rows"] (aH tQ):=by walk_at "sc"
abbrev Ef:Stmt:=top 139
theorem Oe:aM ["calls","shelf","told","call","answer"] ["calls"] (aH Ef):=by walk_at "sc"
structure cV(K:bw)(mg:Str->Option Value)(x qual:Str)(st:Stmt)(f:Addr):Prop where
 fn:∃fd,Fun K x qual st f fd
 glob:mg x=some (.ref f)
structure Y6(K:bw)(mg:Str->Option Value)(x qual:Str)(st:Stmt)(C f:Addr):Prop where
 cl:Cls K C
 Vj:Mk K C f
 fn:∃fd,Fun K "__init__" qual st f fd
 glob:mg x=some (.ref C)
set_option genInjectivity false in
set_option genSizeOf false in
structure Ad where
 mQ:Addr
 Hw:Addr
 uE:Addr
 Mz:Addr
 eE:Addr
 qP:Addr
 mO:Addr
 Hu:Addr
 fC:Addr
 zj:Addr
 jl:Addr
 Hv:Addr
 gb:Addr
 eU:Addr
 j8:Addr
 iB:Addr
 vP:Addr
 lZ:Addr
 kO:Addr
 ug:Addr
 BZ:Addr
 pL:Addr
 qN:Addr
 gP:Addr
 lV:Addr
 nA:Addr
 vQ:Addr
 qO:Addr
 vR:Addr
 iH:Addr
 vM:Addr
 mj:Addr
 iT:Addr
 gM:Addr
 gO:Addr
 qK:Addr
 um:Addr
 uo:Addr
 zc:Addr
 nU:Addr
 nH:Addr
 nG:Addr
 pI:Addr
 nQ:Addr
 kW:Addr
 nO:Addr
 uh:Addr
 iZ:Addr
 nJ:Addr
 lW:Addr
 nM:Addr
 qJ:Addr
 vN:Addr
 y_:Addr
 qM:Addr
 jc:Addr
 nR:Addr
 za:Addr
 nW:Addr
 m5:Addr
 kY:Addr
 lX:Addr
 f9:Addr
 iI:Addr
 pJ:Addr
 fD:Addr
 pK:Addr
 vO:Addr
 lY:Addr
 pH:Addr
 qI:Addr
 p7:Addr
 p8:Addr
 pZ:Addr
 m6:Addr
 pY:Addr
 lE:Addr
 m_:Addr
 su:Addr
 lF:Addr
 m8:Addr
 pX:Addr
 nq:Addr
 i_:Addr
 jQ:Addr
 jN:Addr
 jR:Addr
 jT:Addr
 jP:Addr
 ni:Addr
 m9:Addr
 m7:Addr
 sE:Addr
 nj:Addr
 jM:Addr
 jO:Addr
 qL:Addr
 nu:Addr
 mJ:Addr
 vA:Addr
structure Txt(K:bw)(mg:Str->Option Value)(a:Ad):Prop where
 d8:Y6 K mg "Value" "Value.__init__" z_ a.mQ a.Hw
 b_:cM K a.mQ "numbers"
 tL:cM K a.mQ "depth"
 gQ:cM K a.mQ "weight"
 dW:Y6 K mg "Step" "Step.__init__" CQ a.uE a.Mz
 fL:cM K a.uE "tag"
 u6:cM K a.uE "depth"
 d7:cM K a.uE "own"
 dO:Y6 K mg "Difference" "Difference.__init__" rC a.eE a.qP
 lH:cM K a.eE "where"
 jd:cM K a.eE "entry"
 bO:Y6 K mg "Entry" "Entry.__init__" z8 a.mO a.Hu
 dG:cM K a.mO "key"
 d9:cM K a.mO "value"
 cR:cM K a.mO "place"
 u5:cM K a.mO "room"
 aC:Y6 K mg "Version" "Version.__init__" wg a.fC a.zj
 bH:cM K a.fC "kind"
 bB:cM K a.fC "order"
 aP:cM K a.fC "entries"
 dh:cM K a.fC "room"
 fW:Y6 K mg "Shelf" "Shelf.__init__" z9 a.jl a.Hv
 dY:cM K a.jl "versions"
 lJ:cM K a.jl "used"
 fK:cM K a.jl "following"
 oM:Err K mg "NoRange" a.gb
 rY:Err K mg "NoAbsent" a.eU
 vK:Err K mg "NoKind" a.j8
 BV:Err K mg "NoFull" a.iB
 wM:cV K mg "own_span" "own_span" Ge a.vP
 mD:cV K mg "steps_through" "steps_through" uP a.lZ
 oN:cV K mg "common_divisor" "common_divisor" sX a.kO
 xJ:cV K mg "is_lowest" "is_lowest" Df a.ug
 DK:cV K mg "digits" "digits" Oc a.BZ
 tY:cV K mg "step_weight" "step_weight" yI a.pL
 oW:cV K mg "read_value" "read_value" Ai a.qN
 gW:cV K mg "may_be_handed_over" "may_be_handed_over" oE a.gP
 cu:cV K mg "checked_value" "checked_value" uL a.lV
 rG:cV K mg "end_of_value" "end_of_value" wk a.nA
 qg:cV K mg "parts_of" "parts_of" Gf a.vQ
 vh:cV K mg "step_codes" "step_codes" Aj a.qO
 jj:cV K mg "place_of" "place_of" Gg a.vR
 j6:cV K mg "have_same_entries" "have_same_entries" pB a.iH
 Aq:cV K mg "are_same" "are_same" Fz a.vM
 mF:cV K mg "values_by_key" "values_by_key" uQ a.mj
 tV:cV K mg "differences" "differences" yF a.iT
 jG:cV K mg "difference_numbers" "difference_numbers" ou a.gM
 gR:cV K mg "is_kind_with_order" "is_kind_with_order" oA a.gO
 oV:cV K mg "pair_entry" "pair_entry" Af a.qK
 uD:cV K mg "key_entry" "key_entry" Dh a.um
 qy:cV K mg "row_entry" "row_entry" Di a.uo
 oX:cV K mg "room_of" "room_of" Jy a.zc
 oG:cV K mg "room_between" "room_between" wG a.nU
 cC:cV K mg "find_version" "find_version" wz a.nH
 dB:cV K mg "find_of_kind" "find_of_kind" wu a.nG
 jV:cV K mg "demand_room" "demand_room" yE a.pI
 d_:cV K mg "keep_version" "keep_version" wD a.nQ
 oR:cV K mg "forget_version" "forget_version" sY a.kW
 gU:cV K mg "keep_spliced" "keep_spliced" wC a.nO
 xK:cV K mg "keep_part" "keep_part" Dg a.uh
 ji:cV K mg "first_not_before" "first_not_before" qb a.iZ
 lg:cV K mg "first_behind" "first_behind" wA a.nJ
 mz:cV K mg "entry_numbers" "entry_numbers" uM a.lW
 rH:cV K mg "form_numbers" "form_numbers" wB a.nM
 rJ:cV K mg "is_list_of" "is_list_of" Ae a.qJ
 wL:cV K mg "is_whole" "is_whole" FZ a.vN
 Eh:cV K mg "is_form" "is_form" Jw a.y_
 vg:cV K mg "read_entry" "read_entry" Ah a.qM
 lO:cV K mg "may_stand_behind" "may_stand_behind" qe a.jc
 rK:cV K mg "read_entries" "read_entries" wF a.nR
 zF:cV K mg "keys_of" "keys_of" Jx a.za
 oH:cV K mg "without_keys" "without_keys" wH a.nW
 wK:cV K mg "by_place" "by_place" FJ a.m5
 oU:cV K mg "joined_by_keys" "joined_by_keys" sZ a.kY
 pR:cV K mg "joined_queues" "joined_queues" uN a.lX
 jq:cV K mg "keep_joined_by_keys" "keep_joined_by_keys" mL a.f9
 j7:cV K mg "keep_joined_whole" "keep_joined_whole" pC a.iI
 tW:cV K mg "keep_joined" "keep_joined" yG a.pJ
 oY:cV K mg "sorted_entries" "sorted_entries" tu a.fD
 tX:cV K mg "keep_sorted" "keep_sorted" yH a.pK
 tE:cV K mg "key_span" "key_span" Gd a.vO
 mC:cV K mg "keep_with_key" "keep_with_key" uO a.lY
 pO:cV K mg "check_order" "check_order" yD a.pH
 oO:cV K mg "end_within" "end_within" Ac a.qI
 Gp:cV K mg "call_new" "call_new" FT a.p7
 Gq:cV K mg "call_put" "call_put" FW a.p8
 Gn:cV K mg "call_key" "call_key" FQ a.pZ
 Dr:cV K mg "call_drop" "call_drop" CT a.m6
 Gm:cV K mg "call_get" "call_get" FP a.pY
 Ar:cV K mg "call_count" "call_count" Aa a.lE
 Dv:cV K mg "call_rank" "call_rank" C_ a.m_
 JF:cV K mg "call_at" "call_at" Ju a.su
 Av:cV K mg "call_range" "call_range" Ab a.lF
 Dt:cV K mg "call_join" "call_join" CW a.m8
 Gk:cV K mg "call_add" "call_add" FN a.pX
 DG:cV K mg "call_take" "call_take" De a.nq
 gj:cV K mg "keep_changed_row" "keep_changed_row" qd a.i_
 yO:cV K mg "call_insert" "call_insert" yw a.jQ
 yL:cV K mg "call_change" "call_change" yr a.jN
 yP:cV K mg "call_remove" "call_remove" yx a.jR
 yQ:cV K mg "call_sorted" "call_sorted" yC a.jT
 yN:cV K mg "call_forget" "call_forget" yu a.jP
 Dy:cV K mg "call_room" "call_room" Dc a.ni
 Du:cV K mg "call_kind" "call_kind" CZ a.m9
 Ds:cV K mg "call_form" "call_form" CV a.m7
 JG:cV K mg "call_of" "call_of" Jv a.sE
 Dz:cV K mg "call_same" "call_same" Dd a.nj
 yK:cV K mg "call_before" "call_before" yq a.jM
 yM:cV K mg "call_differ" "call_differ" yt a.jO
 vf:cV K mg "read_calls" "read_calls" Ag a.qL
 rF:cV K mg "check_wholes" "check_wholes" wj a.nu
 tU:cV K mg "answer_call" "answer_call" tQ a.mJ
 Eg:cV K mg "answers" "answers" Ef a.vA
 R9:∃t,mg "TRUTH"=some (.int 0 t)
 nZ:∃t,mg "NUMBER"=some (.int 1 t)
 Ck:∃t,mg "TEXT"=some (.int 2 t)
 vU:∃t,mg "LIST"=some (.int 3 t)
 vV:∃t,mg "LIST_END"=some (.int 4 t)
 zP:∃t,mg "MOST_DEPTH"=some (.int 40 t)
 zO:∃t,mg "MOST_COUNT"=some (.int 4096 t)
 vW:∃t,mg "TURNED_ROUND"=some (.int 1 t)
 mK:∃t,mg "SHORTER_TEXTS_FIRST"=some (.int 2 t)
 Yt:∃t,mg "END"=some (.int (-1) t)
 Fl:∃t,mg "FINENESS"=some (.int 85070591730234615865843651857942052864 t)
 sJ:∃t,mg "IN_FIRST_ALONE"=some (.int 0 t)
 qQ:∃t,mg "IN_SECOND_ALONE"=some (.int 1 t)
 Jg:∃t,mg "IN_BOTH"=some (.int 2 t)
 Ay:∃t,mg "MAP"=some (.int 0 t)
 Et:∃t,mg "SET"=some (.int 1 t)
 qR:∃t,mg "QUEUE"=some (.int 2 t)
 Q5:∃t,mg "ROW"=some (.int 3 t)
 u0:∃t,mg "LAST_ORDER"=some (.int 2 t)
 uI:∃t,mg "MOST_VERSIONS"=some (.int 1024 t)
 Ci:∃t,mg "MOST_ROOM"=some (.int 1000000 t)
 xZ:∃t,mg "NUMBERS_END"=some (.int 1000000 t)
 tK:∃t,mg "ALL_OF_BOTH"=some (.int 0 t)
 Cg:∃t,mg "IN_SECOND"=some (.int 1 t)
 uJ:∃t,mg "NOT_IN_SECOND"=some (.int 2 t)
 xX:∃t,mg "IN_JUST_ONE"=some (.int 3 t)
 xY:∃t,mg "LAST_NUMBER"=some (.int 4294967295 t)
 iu:∃t,mg "TOLD"=some (.int 0 t)
 zm:∃t,mg "NOTHING"=some (.int 1 t)
 R8:∃t,mg "FAULT"=some (.int 2 t)
 Fo:∃t,mg "NO_RANGE"=some (.int (-1) t)
 Cj:∃t,mg "NO_ABSENT"=some (.int (-2) t)
 Ji:∃t,mg "NO_KIND"=some (.int (-3) t)
 Jh:∃t,mg "NO_FULL"=some (.int (-4) t)
 Fp:∃t,mg "X_BEFORE"=some (.int 0 t)
 Ce:∃t,mg "BOTH_SAME"=some (.int 1 t)
 Fq:∃t,mg "Y_BEFORE"=some (.int 2 t)
 iR:mg "len"=none
 X7:mg "range"=none
 aa0:mg "sum"=none
 X6:mg "abs"=none
 aaZ:mg "str"=none
 xR:mg "list"=none
 G_:mg "tuple"=none
 BL:mg "sorted"=none
 aee:mg "min"=none
 aaY:mg "max"=none
 JV:mg "enumerate"=none
 aa1:mg "zip"=none
 LR:mg "reversed"=none
 aaX:mg "all"=none
end Kv
namespace Kv
open Coll
def FIN:Int:=85070591730234615865843651857942052864
def cO:List Int->List Int->Ordering
 |[],[]=> .eq
 |[],_::_=> .lt
 |_::_,[]=> .gt
 |a::r,b::s=>thenBy (intOrder a b) (cO r s)
def jY(t:List UInt8):List Int:=t.map fun c=>(c.toNat:Int)
mutual
def codes (sh:Bool):Value->List Int
 | .truth b=>[0,if b=true then 1 else 0]
 | .num n d=>[1,(n*FIN)/(d:Int)]
 | .text t=>if sh=true then 2::(t.length:Int)::jY t else 2::(jY t++[-1])
 | .list l=>3::(mZ sh l++[-1])
def mZ (sh:Bool):List Value->List Int
 |[]=>[]
 |v::r=>codes sh v++mZ sh r
end
mutual
def QH:Value->Prop
 | .num _ d=>0<d/\(d:Int)<9223372036854775808
 | .list l=>Uv l
 |_=>True
def Uv:List Value->Prop
 |[]=>True
 |v::r=>QH v/\Uv r
end
def sg(t:Bool)(x:Int):Int:=if t=true then-x else x
def dr(t:Bool)(o:Ordering):Ordering:=if t=true then turn o else o
theorem fU{a b:Int}(h:a<b):intOrder a b= .lt:=by simp[intOrder,h]
theorem fQ{a b:Int}(h:b<a):intOrder a b= .gt:=by
 have:¬a<b:=by omega
 simp[intOrder,h,this]
theorem cP{a b:Int}(h:a=b):intOrder a b= .eq:=by simp[intOrder,h]
theorem u9(a b:Nat):natOrder a b=intOrder (a:Int) (b:Int):=by
 unfold natOrder intOrder
 simp only[Int.ofNat_lt]
theorem uv(t:Bool)(a b:Int):intOrder (sg t a) (sg t b)=dr t (intOrder a b):=by
 cases t with
 |false=>rfl
 |true=>
  show intOrder (-a) (-b)=turn (intOrder a b)
  rcases Ul a b with h|h|h
  .rw[fU h,fQ (by omega)];rfl
  .rw[cP h,cP (by omega)];rfl
  .rw[fQ h,fU (by omega)];rfl
theorem Hj(t:Bool):dr t .eq= .eq:=by cases t<;>rfl
theorem o7(t:Bool)(o:Ordering):thenBy (dr t .lt) o=dr t .lt:=by cases t<;>rfl
theorem oZ(t:Bool)(o:Ordering):thenBy (dr t .gt) o=dr t .gt:=by cases t<;>rfl
theorem gk(o:Ordering):thenBy .eq o=o:=rfl
theorem Aw(a b c:Ordering):thenBy (thenBy a b) c=thenBy a (thenBy b c):=by cases a<;>rfl
theorem Jd(t:Bool)(a b:Ordering):dr t (thenBy a b)=thenBy (dr t a) (dr t b):=by
 cases t<;>cases a<;>rfl
theorem ju(a b:Int)(r s:List Int):cO (a::r) (b::s)=thenBy (intOrder a b) (cO r s):=rfl
theorem qT(t:Bool)(a b:Int)(r s:List Int):cO (sg t a::r) (sg t b::s)=thenBy (dr t (intOrder a b)) (cO r s):=by
 rw[ju,uv]
theorem aef{t:Bool}{o:Ordering}(h:o≠ .eq):dr t o≠ .eq:=by
 cases t<;>cases o<;>first|exact absurd rfl h|(intro q;cases q)
theorem Ej{a b:Ordering}(h:a≠ .eq):thenBy a b=a:=by
 cases a<;>first|rfl|exact absurd rfl h
theorem HF{a b c d:Int}(hb:0<b)(hb2:b<9223372036854775808)(hd:0<d)(hd2:d<9223372036854775808)(h:a*d<c*b):(a*FIN)/b<(c*FIN)/d:=by
 have hF:b*d<FIN:=by
  have h1:b*d<=9223372036854775807*9223372036854775807:=Int.mul_le_mul (by omega) (by omega) (by omega) (by omega)
  have h2:(9223372036854775807:Int)*9223372036854775807<FIN:=by decide
  omega
 have hbd:0<b*d:=Int.mul_pos hb hd
 have q1:(a*FIN)/b*b<=a*FIN:=Int.ediv_mul_le _ (by omega)
 have hq:(a*FIN)/b+1<=(c*FIN)/d:=by
  apply Int.le_ediv_of_mul_le hd
  have e1:((a*FIN)/b+1)*d*b<=c*FIN*b:=by
   have e2:((a*FIN)/b+1)*d*b=((a*FIN)/b*b)*d+b*d:=by
    rw[Int.add_mul,Int.add_mul,Int.one_mul,GQ,Int.mul_comm d b,<-GQ]
   have e3:((a*FIN)/b*b)*d<=a*FIN*d:=Int.mul_le_mul_of_nonneg_right q1 (by omega)
   have e4:a*FIN*d=(a*d)*FIN:=by rw[GQ,Int.mul_comm FIN d,<-GQ]
   have e5:c*FIN*b=(c*b)*FIN:=by rw[GQ,Int.mul_comm FIN b,<-GQ]
   have e6:(a*d+1)*FIN<=(c*b)*FIN:=Int.mul_le_mul_of_nonneg_right (by omega) (by decide)
   rw[Int.add_mul,Int.one_mul] at e6
   rw[e2,e5]
   rw[e4] at e3
   omega
  exact Int.le_of_mul_le_mul_right e1 hb
 omega
theorem Sw{a b c d:Int}(hb:0<b)(hd:0<d)(h:a*d=c*b):(a*FIN)/b=(c*FIN)/d:=by
 have h1:(a*FIN)/b=(a*FIN*d)/(b*d):=(Int.mul_ediv_mul_of_pos_left _ _ hd).symm
 have h2:(c*FIN)/d=(c*FIN*b)/(d*b):=(Int.mul_ediv_mul_of_pos_left _ _ hb).symm
 have e4:a*FIN*d=(a*d)*FIN:=by rw[GQ,Int.mul_comm FIN d,<-GQ]
 have e5:c*FIN*b=(c*b)*FIN:=by rw[GQ,Int.mul_comm FIN b,<-GQ]
 rw[h1,h2,e4,e5,h,Int.mul_comm d b]
theorem Z8{a c:Int}{b d:Nat}(hb:0<b/\(b:Int)<9223372036854775808)(hd:0<d/\(d:Int)<9223372036854775808):
  intOrder ((a*FIN)/(b:Int)) ((c*FIN)/(d:Int))=intOrder (a*(d:Int)) (c*(b:Int)):=by
 have b0:(0:Int)<b:=by omega
 have d0:(0:Int)<d:=by omega
 rcases Ul (a*(d:Int)) (c*(b:Int)) with h|h|h
 .rw[fU h,fU (HF b0 hb.2 d0 hd.2 h)]
 .rw[cP h,cP (Sw b0 d0 h)]
 .rw[fQ h,fQ (HF d0 hd.2 b0 hb.2 h)]
theorem acD(a b:UInt8)(x:Ordering):(if a<b then Ordering.lt else if b<a then .gt else x)=thenBy (intOrder (a.toNat:Int) (b.toNat:Int)) x:=by
 rw[<-u9]
 unfold natOrder
 by_cases h:a<b
 .rw[if_pos h,if_pos (show a.toNat<b.toNat from h)];rfl
 .rw[if_neg h,if_neg (show ¬a.toNat<b.toNat from h)]
  by_cases h2:b<a
  .rw[if_pos h2,if_pos (show b.toNat<a.toNat from h2)];rfl
  .rw[if_neg h2,if_neg (show ¬b.toNat<a.toNat from h2)];rfl
theorem uG(a b:UInt8)(r s:List UInt8):bytesOrder (a::r) (b::s)=thenBy (intOrder (a.toNat:Int) (b.toNat:Int)) (bytesOrder r s):=by
 rw[<-acD];rfl
theorem aa2(t:Bool)(a:UInt8):intOrder (sg t (a.toNat:Int)) (sg t (-1))=dr t .gt:=by
 rw[uv,fQ (by omega)]
theorem abf(t:Bool)(a:UInt8):intOrder (sg t (-1)) (sg t (a.toNat:Int))=dr t .lt:=by
 rw[uv,fU (by omega)]
theorem QD(t:Bool)(r s:List Int):∀a b:List UInt8,cO ((jY a).map (sg t)++sg t (-1)::r) ((jY b).map (sg t)++sg t (-1)::s)=thenBy (dr t (bytesOrder a b)) (cO r s)
 |[],[]=>by
  show cO (sg t (-1)::r) (sg t (-1)::s)=_
  rw[ju,cP rfl];simp only[bytesOrder,Hj]
 |[],b::y=>by
  show cO (sg t (-1)::r) (sg t (b.toNat:Int)::_)=_
  rw[ju,abf,o7];simp only[bytesOrder,o7]
 |a::x,[]=>by
  show cO (sg t (a.toNat:Int)::_) (sg t (-1)::s)=_
  rw[ju,aa2,oZ];simp only[bytesOrder,oZ]
 |a::x,b::y=>by
  show cO (sg t (a.toNat:Int)::((jY x).map (sg t)++sg t (-1)::r)) (sg t (b.toNat:Int)::((jY y).map (sg t)++sg t (-1)::s))=_
  rw[qT,QD t r s x y,uG,Jd,Aw]
theorem L_(t:Bool)(r s:List Int):∀a b:List UInt8,a.length=b.length->cO ((jY a).map (sg t)++r) ((jY b).map (sg t)++s)=thenBy (dr t (bytesOrder a b)) (cO r s)
 |[],[],_=>by
  show cO r s=_
  simp only[bytesOrder,Hj,gk]
 |a::x,b::y,h=>by
  show cO (sg t (a.toNat:Int)::((jY x).map (sg t)++r)) (sg t (b.toNat:Int)::((jY y).map (sg t)++s))=_
  rw[qT,L_ t r s x y (by simpa using h),uG,Jd,Aw]
theorem rW(sh:Bool)(v:Value):∃r,codes sh v=(sortNo v:Int)::r:=by
 cases v with
 |truth b=>exact⟨_,by rw[codes];rfl⟩
 |num n d=>exact⟨_,by rw[codes];rfl⟩
 |text t=>
  rw[codes]
  by_cases h:sh=true
  .rw[if_pos h];exact⟨_,rfl⟩
  .rw[if_neg h];exact⟨_,rfl⟩
 |list l=>exact⟨_,by rw[codes];rfl⟩
theorem plain_other{sh:Bool}{v w:Value}(h:sortNo v≠sortNo w):plain sh v w=natOrder (sortNo v) (sortNo w):=by
 cases v<;>cases w<;>first|exact absurd rfl h|(simp only[plain])
theorem J6{a b:Nat}(h:a≠b):natOrder a b≠ .eq:=by
 unfold natOrder
 split
 .intro q;cases q
 .split
  .intro q;cases q
  .exfalso;omega
theorem aoU(t:Bool)(n:Nat):intOrder (sg t (n:Int)) (sg t (-1))=dr t .gt:=by rw[uv,fQ (by omega)]
theorem aoV(t:Bool)(n:Nat):intOrder (sg t (-1)) (sg t (n:Int))=dr t .lt:=by rw[uv,fU (by omega)]
theorem jr{t sh:Bool}{v w:Value}(h:sortNo v≠sortNo w)(r s:List Int):cO ((codes sh v).map (sg t)++r) ((codes sh w).map (sg t)++s)=thenBy (dr t (plain sh v w)) (cO r s):=by
 obtain⟨x,ex⟩:=rW sh v
 obtain⟨y,ey⟩:=rW sh w
 rw[ex,ey,plain_other h]
 show cO (sg t (sortNo v:Int)::(x.map (sg t)++r)) (sg t (sortNo w:Int)::(y.map (sg t)++s))=_
 have hn:dr t (natOrder (sortNo v) (sortNo w))≠ .eq:=aef (J6 h)
 rw[qT,<-u9,Ej hn,Ej hn]
mutual
theorem QG (t sh:Bool):∀(v w:Value) (r s:List Int),QH v->QH w->cO ((codes sh v).map (sg t)++r) ((codes sh w).map (sg t)++s)=thenBy (dr t (plain sh v w)) (cO r s)
 | .truth a,w,r,s,_,hw=>by
  cases w with
  |truth b=>
   rw[codes,codes,plain,u9]
   show cO (sg t 0::sg t _::r) (sg t 0::sg t _::s)=_
   rw[qT,cP rfl,Hj,gk,qT]
   cases a<;>cases b<;>rfl
  |num c d=>exact jr (by simp[sortNo]) r s
  |text c=>exact jr (by simp[sortNo]) r s
  |list c=>exact jr (by simp[sortNo]) r s
 | .num a b,w,r,s,hv,hw=>by
  cases w with
  |truth c=>exact jr (by simp[sortNo]) r s
  |num c d=>
   rw[codes,codes,plain]
   show cO (sg t 1::sg t _::r) (sg t 1::sg t _::s)=_
   rw[QH] at hv hw
   rw[qT,cP rfl,Hj,gk,qT,Z8 hv hw]
  |text c=>exact jr (by simp[sortNo]) r s
  |list c=>exact jr (by simp[sortNo]) r s
 | .text a,w,r,s,_,hw=>by
  cases w with
  |truth c=>exact jr (by simp[sortNo]) r s
  |num c d=>exact jr (by simp[sortNo]) r s
  |text b=>
   rw[codes,codes,plain]
   by_cases h:sh=true
   .rw[if_pos h,if_pos h,if_pos h]
    show cO (sg t 2::sg t _::((jY a).map (sg t)++r)) (sg t 2::sg t _::((jY b).map (sg t)++s))=_
    rw[qT,cP rfl,Hj,gk,qT,<-u9,Jd,Aw]
    by_cases hl:a.length=b.length
    .rw[L_ t r s a b hl]
    .have hn:dr t (natOrder a.length b.length)≠ .eq:=aef (J6 hl)
     rw[Ej hn,Ej hn]
   .rw[if_neg h,if_neg h,if_neg h]
    have e:∀(x:List UInt8) (q:List Int),(2::(jY x++[-1])).map (sg t)++q=sg t 2::((jY x).map (sg t)++sg t (-1)::q):=fun x q=>by simp
    rw[e,e,qT,cP rfl,Hj,gk,QD]
  |list c=>exact jr (by simp[sortNo]) r s
 | .list l,w,r,s,hv,hw=>by
  cases w with
  |truth c=>exact jr (by simp[sortNo]) r s
  |num c d=>exact jr (by simp[sortNo]) r s
  |text c=>exact jr (by simp[sortNo]) r s
  |list m=>
   rw[codes,codes,plain]
   rw[QH] at hv hw
   have e:∀(x:List Int) (q:List Int),(3::(x++[-1])).map (sg t)++q=sg t 3::(x.map (sg t)++sg t (-1)::q):=fun x q=>by simp
   rw[e,e,qT,cP rfl,Hj,gk,Ma t sh l m r s hv hw]
theorem Ma (t sh:Bool):∀(l m:List Value) (r s:List Int),Uv l->Uv m->cO ((mZ sh l).map (sg t)++sg t (-1)::r) ((mZ sh m).map (sg t)++sg t (-1)::s)=thenBy (dr t (plains sh l m)) (cO r s)
 |[],m,r,s,_,_=>by
  cases m with
  |nil=>
   rw[mZ,plains]
   show cO (sg t (-1)::r) (sg t (-1)::s)=_
   rw[ju,cP rfl,Hj]
  |cons w m=>
   rw[mZ,mZ,plains]
   obtain⟨y,ey⟩:=rW sh w
   rw[ey]
   show cO (sg t (-1)::r) (sg t (sortNo w:Int)::_)=_
   rw[ju,aoV,o7,o7]
 |v::l,m,r,s,hv,hw=>by
  cases m with
  |nil=>
   rw[mZ,mZ,plains]
   obtain⟨y,ey⟩:=rW sh v
   rw[ey]
   show cO (sg t (sortNo v:Int)::_) (sg t (-1)::s)=_
   rw[ju,aoU,oZ,oZ]
  |cons w m=>
   rw[Uv] at hv hw
   rw[mZ,mZ,plains,fP,fP,ud,ud,
    QG t sh v w _ _ hv.1 hw.1,Ma t sh l m r s hv.2 hw.2]
   cases h:plain sh v w with
   |lt=>rw[o7,o7]
   |gt=>rw[oZ,oZ]
   |eq=>rw[Hj,gk]
end
def place(o:Nat)(v:Value):List Int:=if o=1 then(codes false v).map (fun x=> -x) else codes (o==2) v
theorem bV{o:Nat}(ho:o<=2){v w:Value}(hv:QH v)(hw:QH w):order o v w=cO (place o v) (place o w):=by
 have key:∀t sh,cO ((codes sh v).map (sg t)) ((codes sh w).map (sg t))=dr t (plain sh v w):=fun t sh=>by
  have:=QG t sh v w [] [] hv hw
  rw[vI,vI] at this
  rw[this]
  cases dr t (plain sh v w)<;>rfl
 have idm:∀l:List Int,l.map (sg false)=l:=fun l=>by
  have:sg false=id:=by funext x;rfl
  rw[this,List.map_id]
 match o,ho with
 |0,_=>
  have:=key false false
  rw[idm,idm] at this
  exact this.symm
 |1,_=>
  have:=key true false
  have e:sg true=fun x=> -x:=by funext x;rfl
  rw[e] at this
  exact this.symm
 |2,_=>
  have:=key false true
  rw[idm,idm] at this
  exact this.symm
theorem uH{a b:Int}:intOrder a b= .eq↔a=b:=by
 constructor
 .intro h
  unfold intOrder at h
  split at h
  .cases h
  .split at h
   .cases h
   .omega
 .exact cP
theorem Pq(a b:Int):intOrder b a=turn (intOrder a b):=by
 rcases Ul a b with h|h|h
 .rw[fU h,fQ h];rfl
 .rw[cP h,cP h.symm];rfl
 .rw[fQ h,fU h];rfl
theorem Wb(a b:Ordering):turn (thenBy a b)=thenBy (turn a) (turn b):=by cases a<;>rfl
theorem sU:∀a b:List Int,cO b a=turn (cO a b)
 |[],[]=>rfl
 |[],_::_=>rfl
 |_::_,[]=>rfl
 |a::r,b::s=>by rw[ju,ju,Wb,sU r s,Pq]
theorem n6:∀{a b:List Int},cO a b= .eq↔a=b
 |[],[]=>by simp[cO]
 |[],_::_=>by simp[cO]
 |_::_,[]=>by simp[cO]
 |a::r,b::s=>by
  rw[ju]
  constructor
  .intro h
   cases h1:intOrder a b with
   |lt=>rw[h1] at h;cases h
   |gt=>rw[h1] at h;cases h
   |eq=>
    rw[h1,gk] at h
    rw[uH.mp h1,n6.mp h]
  .intro h
   injection h with h1 h2
   rw[cP h1,gk,n6.mpr h2]
theorem jw(a:List Int):cO a a= .eq:=n6.mpr rfl
theorem jU:∀{a b c:List Int},cO a b= .lt->cO b c= .lt->cO a c= .lt
 |[],[],_,h,_=>by cases h
 |_::_,[],_,h,_=>by cases h
 |_,_::_,[],_,h=>by cases h
 |[],_::_,_::_,_,_=>rfl
 |a::r,b::s,c::u,h1,h2=>by
  rw[ju] at*
  rcases Ul a b with h|h|h
  .rcases Ul b c with k|k|k
   .rw[fU (Int.lt_trans h k)];rfl
   .rw[fU (by omega)];rfl
   .rw[fQ k] at h2;cases h2
  .rcases Ul b c with k|k|k
   .rw[fU (by omega)];rfl
   .rw[cP h,gk] at h1
    rw[cP k,gk] at h2
    rw[cP (by omega),gk]
    exact jU h1 h2
   .rw[fQ k] at h2;cases h2
  .rw[fQ h] at h1;cases h1
theorem uw{a b:List Int}:cO a b= .gt↔cO b a= .lt:=by
 rw[sU a b]
 cases cO a b<;>simp[turn]
theorem yc{a b c:List Int}(h1:cO b a≠ .lt)(h2:cO b c= .lt):cO a c= .lt:=by
 cases h:cO a b with
 |lt=>exact jU h h2
 |eq=>rw[n6.mp h];exact h2
 |gt=>exact absurd (uw.mp h) h1
theorem qU{a b c:List Int}(h1:cO a b= .lt)(h2:cO c b≠ .lt):cO a c= .lt:=by
 cases h:cO b c with
 |lt=>exact jU h1 h
 |eq=>rw[<-n6.mp h];exact h1
 |gt=>exact absurd (uw.mp h) h2
mutual
theorem same_iff:∀{v w:Value},same v w=true↔v=w
 | .truth a,w=>by
  cases w with
  |truth b=>rw[same];simp
  |num c d=>simp[same]
  |text c=>simp[same]
  |list c=>simp[same]
 | .num a b,w=>by
  cases w with
  |truth b=>simp[same]
  |num c d=>rw[same];simp
  |text c=>simp[same]
  |list c=>simp[same]
 | .text a,w=>by
  cases w with
  |truth b=>simp[same]
  |num c d=>simp[same]
  |text c=>rw[same];simp
  |list c=>simp[same]
 | .list l,w=>by
  cases w with
  |truth b=>simp[same]
  |num c d=>simp[same]
  |text c=>simp[same]
  |list m=>
   rw[same,Rq]
   constructor
   .intro h;rw[h]
   .intro h;injection h
theorem Rq:∀{l m:List Value},sames l m=true↔l=m
 |[],[]=>by simp[sames]
 |[],_::_=>by simp[sames]
 |_::_,[]=>by simp[sames]
 |v::l,w::m=>by
  rw[sames,lB,same_iff,Rq]
  constructor
  .rintro⟨rfl,rfl⟩;rfl
  .intro h;injection h with h1 h2;exact⟨h1,h2⟩
end
theorem Xg{a c:Int}{b d:Nat}(hb:0<b)(h1:Nat.gcd a.natAbs b=1)(h2:Nat.gcd c.natAbs d=1)(h:a*(d:Int)=c*(b:Int)):a=c/\b=d:=by
 have hn:a.natAbs*d=c.natAbs*b:=by
  have:=congrArg Int.natAbs h
  rw[Int.natAbs_mul,Int.natAbs_mul,Int.natAbs_natCast,Int.natAbs_natCast] at this
  exact this
 have e1:b∣d:=by
  have hc:Nat.Coprime b a.natAbs:=by rw[Nat.Coprime,Nat.gcd_comm];exact h1
  exact hc.dvd_of_dvd_mul_left ⟨c.natAbs,by rw[hn,Nat.mul_comm]⟩
 have e2:d∣b:=by
  have hc:Nat.Coprime d c.natAbs:=by rw[Nat.Coprime,Nat.gcd_comm];exact h2
  exact hc.dvd_of_dvd_mul_left ⟨a.natAbs,by rw[<-hn,Nat.mul_comm]⟩
 have e:b=d:=Nat.dvd_antisymm e1 e2
 subst e
 exact⟨Int.eq_of_mul_eq_mul_right (by omega) h,rfl⟩
theorem xU:∀{a b:List UInt8},bytesOrder a b= .eq->a=b
 |[],[],_=>rfl
 |[],_::_,h=>by cases h
 |_::_,[],h=>by cases h
 |a::r,b::s,h=>by
  rw[uG] at h
  cases h1:intOrder (a.toNat:Int) (b.toNat:Int) with
  |lt=>rw[h1] at h;cases h
  |gt=>rw[h1] at h;cases h
  |eq=>
   rw[h1,gk] at h
   have h2:=uH.mp h1
   have e:a=b:=UInt8.toNat_inj.mp (by omega)
   rw[xU h,e]
mutual
theorem Ia (sh:Bool):∀{v w:Value},proper v=true->proper w=true->plain sh v w= .eq->v=w
 | .truth a,w,_,_,h=>by
  cases w with
  |truth b=>rw[plain] at h;cases a<;>cases b<;>first|rfl|cases h
  |num c d=>rw[plain_other (by simp[sortNo])] at h;cases h
  |text c=>rw[plain_other (by simp[sortNo])] at h;cases h
  |list c=>rw[plain_other (by simp[sortNo])] at h;cases h
 | .num a b,w,hv,hw,h=>by
  cases w with
  |truth b=>rw[plain_other (by simp[sortNo])] at h;cases h
  |num c d=>
   rw[plain,uH] at h
   rw[proper,lB,decide_eq_true_iff,beq_iff_eq] at hv hw
   obtain⟨rfl,rfl⟩:=Xg hv.1 hv.2 hw.2 h
   rfl
  |text c=>rw[plain_other (by simp[sortNo])] at h;cases h
  |list c=>rw[plain_other (by simp[sortNo])] at h;cases h
 | .text a,w,_,_,h=>by
  cases w with
  |truth b=>rw[plain_other (by simp[sortNo])] at h;cases h
  |num c d=>rw[plain_other (by simp[sortNo])] at h;cases h
  |text c=>
   rw[plain] at h
   split at h
   .cases h1:natOrder a.length c.length with
    |lt=>rw[h1] at h;cases h
    |gt=>rw[h1] at h;cases h
    |eq=>rw[h1,gk] at h;rw[xU h]
   .rw[xU h]
  |list c=>rw[plain_other (by simp[sortNo])] at h;cases h
 | .list l,w,hv,hw,h=>by
  cases w with
  |truth b=>rw[plain_other (by simp[sortNo])] at h;cases h
  |num c d=>rw[plain_other (by simp[sortNo])] at h;cases h
  |text c=>rw[plain_other (by simp[sortNo])] at h;cases h
  |list m=>
   rw[plain] at h
   rw[proper] at hv hw
   rw[Rk sh hv hw h]
theorem Rk (sh:Bool):∀{l m:List Value},propers l=true->propers m=true->plains sh l m= .eq->l=m
 |[],[],_,_,_=>rfl
 |[],_::_,_,_,h=>by rw[plains] at h;cases h
 |_::_,[],_,_,h=>by rw[plains] at h;cases h
 |v::l,w::m,hv,hw,h=>by
  rw[propers,lB] at hv hw
  rw[plains] at h
  cases h1:plain sh v w with
  |lt=>rw[h1] at h;cases h
  |gt=>rw[h1] at h;cases h
  |eq=>
   rw[h1] at h
   rw[Ia sh hv.1 hw.1 h1,Rk sh hv.2 hw.2 h]
end
theorem order_eq{o:Nat}{v w:Value}(hv:proper v=true)(hw:proper w=true)(h:order o v w= .eq):v=w:=by
 unfold order at h
 split at h
 .exact Ia _ hv hw h
 .refine Ia false hv hw ?_
  cases h1:plain false v w with
  |lt=>rw[h1] at h;cases h
  |gt=>rw[h1] at h;cases h
  |eq=>rfl
 .exact Ia _ hv hw h
theorem Jq{o:Nat}(ho:o<=2){v w:Value}(hv:proper v=true)(hw:proper w=true)(dv:QH v)(dw:QH w):place o v=place o w↔v=w:=by
 constructor
 .intro h
  refine order_eq (o:=o) hv hw ?_
  rw[bV ho dv dw,h,jw]
 .intro h;rw[h]
structure Gx where
 tag:Int
 dep:Int
 own:List Int
mutual
def bD (d:Nat):Value->List Gx
 | .truth b=>[⟨0,d,[if b=true then 1 else 0]⟩]
 | .num n e=>[⟨1,d,[n,(e:Int)]⟩]
 | .text t=>[⟨2,d,jY t⟩]
 | .list l=>⟨3,d,[]⟩::(fB (d+1) l++[⟨4,d,[]⟩])
def fB (d:Nat):List Value->List Gx
 |[]=>[]
 |v::r=>bD d v++fB d r
end
def dD:List (List Value)->List Value->List Gx
 |[],vs=>fB 1 vs
 |f::fs,vs=>fB (fs.length+2) f++(⟨4,(fs.length:Int)+1,[]⟩::dD fs vs)
def cX:List (List Value)->List Value->List Int
 |[],vs=>jA vs
 |f::fs,vs=>jA f++cX fs vs
def dF(o:Nat)(s:Gx):List Int:=
 if s.tag=1 then[1,(s.own.getD 0 0*FIN)/s.own.getD 1 0]
 else if s.tag=2/\o=2 then 2::(s.own.length:Int)::s.own
 else if s.tag=2 then 2::(s.own++[-1])
 else if s.tag=4 then[-1]
 else s.tag::s.own
mutual
theorem wX (o:Nat):∀(v:Value) (d:Nat),(bD d v).flatMap (dF o)=codes (o==2) v
 | .truth b,d=>by rw[bD,codes];simp[dF]
 | .num n e,d=>by rw[bD,codes];simp[dF]
 | .text t,d=>by
  rw[bD,codes]
  by_cases h:o=2
  .simp[dF,h,jY]
  .simp[dF,h]
 | .list l,d=>by
  rw[bD,codes,Qu,LC,Hg o l (d+1)]
  simp[dF]
theorem Hg (o:Nat):∀(l:List Value) (d:Nat),(fB d l).flatMap (dF o)=mZ (o==2) l
 |[],d=>by rw[fB,mZ];rfl
 |v::l,d=>by rw[fB,mZ,LC,wX o v d,Hg o l d]
end
theorem VJ(o:Nat)(v:Value):place o v=if o=1 then((bD 1 v).flatMap (dF o)).map (fun x=> -x) else(bD 1 v).flatMap (dF o):=by
 unfold place
 rw[wX]
 by_cases h:o=1
 .subst h;rfl
 .rw[if_neg h,if_neg h]
def wJ(s:Gx):Nat:=
 if s.tag=1 then digits (s.own.getD 0 0).natAbs+digits (s.own.getD 1 0).natAbs
 else if s.tag=2 then s.own.length+1
 else if s.tag=4 then 0 else 1
def jo(s:Gx):Bool:=s.tag !=1||(decide (0<s.own.getD 1 0)&&(Nat.gcd (s.own.getD 0 0).natAbs (s.own.getD 1 0).natAbs==1))
def Gj(l:List Gx):Nat:=(l.map wJ).sum
theorem KD(a b:List Gx):Gj (a++b)=Gj a+Gj b:=by simp[Gj]
mutual
theorem OD:∀(v:Value) (d:Nat),Gj (bD d v)=size v
 | .truth b,d=>by rw[bD,size];simp[Gj,wJ]
 | .num n e,d=>by rw[bD,size];simp[Gj,wJ]
 | .text t,d=>by rw[bD,size];simp[Gj,wJ,jY]
 | .list l,d=>by
  have h:=Kw l (d+1)
  rw[bD,size]
  simp only[Gj,cU,fP,qH,List.sum_append,GK,List.sum_nil] at h ⊢
  rw[h]
  simp[wJ]
  omega
theorem Kw:∀(l:List Value) (d:Nat),Gj (fB d l)=sizes l
 |[],d=>by rw[fB,sizes];rfl
 |v::l,d=>by rw[fB,sizes,KD,OD v d,Kw l d]
end
mutual
theorem D_:∀(v:Value) (d:Nat),(bD d v).all jo=proper v
 | .truth b,d=>by rw[bD,proper];all_goals simp[jo]
 | .num n e,d=>by rw[bD,proper];simp[jo]
 | .text t,d=>by rw[bD,proper];all_goals simp[jo]
 | .list l,d=>by
  rw[bD,proper,List.all_cons,List.all_append,M3 l (d+1)]
  simp[jo]
theorem M3:∀(l:List Value) (d:Nat),(fB d l).all jo=propers l
 |[],d=>by rw[fB,propers];rfl
 |v::l,d=>by rw[fB,propers,List.all_append,D_ v d,M3 l d]
end
theorem Zy(v:Value):1<=depth v:=by
 cases v<;>simp[depth]
theorem Ww(d a b m:Nat):d+max a b<=m↔d+a<=m/\d+b<=m:=by
 rw[Nat.max_def]
 split<;>omega
mutual
theorem Mi (m:Nat):∀(v:Value) (d:Nat),(∀s∈bD (d+1) v,s.dep<=(m:Int))↔d+depth v<=m
 | .truth b,d=>by
  rw[bD];simp[depth];omega
 | .num n e,d=>by
  rw[bD];simp[depth];omega
 | .text t,d=>by
  rw[bD];simp[depth];omega
 | .list l,d=>by
  have h:=JX m l (d+1)
  rw[bD,depth]
  simp only[bU,j9,Um,or_false]
  constructor
  .intro q
   have q1:=q ⟨3,((d+1:Nat):Int),[]⟩ (.inl rfl)
   have q2:=h.mp fun s hs=>q s (.inr (.inl hs))
   have q3:((d+1:Nat):Int)<=(m:Int):=q1
   rcases q2 with q2|q2
   .subst q2;simp[depths];omega
   .omega
  .intro q s hs
   rcases hs with rfl|hs|rfl
   .show((d+1:Nat):Int)<=(m:Int)
    omega
   .exact h.mpr (.inr (by omega)) s hs
   .show((d+1:Nat):Int)<=(m:Int)
    omega
theorem JX (m:Nat):∀(l:List Value) (d:Nat),(∀s∈fB (d+1) l,s.dep<=(m:Int))↔l=[]\/d+depths l<=m
 |[],d=>by rw[fB];simp
 |v::l,d=>by
  have h1:=Mi m v d
  have h2:=JX m l d
  have h3:=Zy v
  rw[fB,depths,Ww]
  simp only[j9]
  constructor
  .intro q
   have q1:=h1.mp fun s hs=>q s (.inl hs)
   have q2:=h2.mp fun s hs=>q s (.inr hs)
   refine .inr ⟨q1,?_⟩
   rcases q2 with rfl|q2
   .simp[depths];omega
   .exact q2
  .intro q s hs
   rcases q with q|q
   .cases q
   .rcases hs with hs|hs
    .exact h1.mpr q.1 s hs
    .exact h2.mpr (.inr q.2) s hs
end
open CollNeutral in
mutual
theorem O7:∀(k:Nat) (l:List Int) (v:Value) (r:List Int),valueIn k l=some (v,r)->l=valueN v++r
 |0,l,v,r,h=>by rw[valueIn] at h;cases h
 |k+1,l,v,r,h=>by
  match l,h with
  |[],h=>rw[valueIn] at h<;>first|cases h|simp
  |[a],h=>rw[valueIn] at h<;>first|cases h|simp
  |a::b::q,h=>
   by_cases h0:a=0
   .subst h0
    rw[valueIn] at h
    by_cases hb:b=0
    .rw[if_pos hb] at h
     cases h;subst hb;rw[valueN];rfl
    .rw[if_neg hb] at h
     by_cases hb1:b=1
     .rw[if_pos hb1] at h
      cases h;subst hb1;rw[valueN];rfl
     .rw[if_neg hb1] at h;cases h
   .by_cases h1:a=1
    .subst h1
     match q,h with
     |[],h=>rw[valueIn] at h<;>first|cases h|simp
     |d::q,h=>
      rw[valueIn] at h
      by_cases hd:d<0
      .simp[nat,hd] at h
      .simp[nat,hd] at h
       obtain⟨rfl,rfl⟩:=h
       rw[valueN]
       show 1::b::d::q=1::b::((d.toNat:Nat):Int)::q
       rw[Int.toNat_of_nonneg (by omega)]
    .by_cases h2:a=2
     .subst h2
      rw[valueIn] at h
      by_cases hc:b<0\/(q.length:Int)<b
      .rw[if_pos hc] at h;cases h
      .rw[if_neg hc] at h
       cases hb:bytes (q.take b.toNat) with
       |none=>rw[hb] at h;cases h
       |some t=>
        rw[hb] at h
        cases h
        have e:jY t=q.take b.toNat:=by
         unfold bytes at hb
         split at hb
         .rename_i hy
          cases hb
          unfold NeutralIO.bytes at hy
          rw[wU] at hy
          unfold jY
          rw[BK]
          have:∀x∈q.take b.toNat,((fun c:UInt8=>(c.toNat:Int))∘fun z:Int=>UInt8.ofNat z.toNat) x=id x:=fun x hx=>by
           have:=hy x hx
           rw[lB,decide_eq_true_iff,decide_eq_true_iff] at this
           show((UInt8.ofNat x.toNat).toNat:Int)=x
           rw[UInt8.toNat_ofNat']
           omega
          rw[Qt this,List.map_id]
         .cases hb
        have el:(t.length:Int)=b:=by
         have:=congrArg List.length e
         rw[jY,aW,lR] at this
         omega
        rw[valueN,bytesN,rowN,aW,el]
        show 2::b::q=2::b::(jY t++q.drop b.toNat)
        rw[e,LK]
     .by_cases h3:a=3
      .subst h3
       rw[valueIn] at h
       by_cases hc:b<0\/(q.length:Int)<b
       .rw[if_pos hc] at h;cases h
       .rw[if_neg hc] at h
        cases hx:valuesIn k b.toNat q with
        |none=>rw[hx] at h;cases h
        |some y=>
         rw[hx] at h
         cases h
         obtain⟨e1,e2⟩:=KH k b.toNat q y.1 y.2 hx
         rw[valueN]
         show 3::b::q=3::((y.1.length:Nat):Int)::(valuesN y.1++y.2)
         rw[<-e1,e2,Int.toNat_of_nonneg (by omega)]
      .rw[valueIn] at h
       .cases h
       all_goals (intros;simp_all)
theorem KH:∀(k n:Nat) (l:List Int) (vs:List Value) (r:List Int),valuesIn k n l=some (vs,r)->l=valuesN vs++r/\vs.length=n
 |0,n,l,vs,r,h=>by rw[valuesIn] at h;cases h
 |k+1,0,l,vs,r,h=>by
  rw[valuesIn] at h
  cases h
  rw[valuesN]
  exact⟨rfl,rfl⟩
 |k+1,n+1,l,vs,r,h=>by
  rw[valuesIn] at h
  cases hx:valueIn k l with
  |none=>rw[hx] at h;cases h
  |some y=>
   obtain⟨v,s⟩:=y
   rw[hx] at h
   have h':(valuesIn k n s).map (fun x=>(v::x.1,x.2))=some (vs,r):=h
   cases hz:valuesIn k n s with
   |none=>rw[hz] at h';cases h'
   |some z=>
    rw[hz] at h'
    cases h'
    obtain⟨e1,e2⟩:=KH k n s z.1 z.2 hz
    rw[O7 k l v s hx,valuesN,ud,<-e1,pD,e2]
    exact⟨rfl,rfl⟩
end
theorem value_eq{l:List Int}{v:Value}(h:jB l=some v):l=aZ v:=by
 unfold jB at h
 split at h
 .rename_i w e
  cases h
  rw[O7 _ _ _ _ e,vI]
 .cases h
structure Cut{α:Type}(p:α->Bool)(l:List α)(k:Nat):Prop where
 le:k<=l.length
 yes:∀i x,i<k->l[i]? =some x->p x=true
 no:∀i x,k<=i->l[i]? =some x->p x=false
theorem Cut.tail{α:Type}{p:α->Bool}{x:α}{l:List α}{k:Nat}(c:Cut p (x::l) (k+1)):Cut p l k:=
 ⟨by have:=c.le;simp at this;omega,fun i y h e=>c.yes (i+1) y (by omega) (by simpa using e),fun i y h e=>c.no (i+1) y (by omega) (by simpa using e)⟩
theorem Cut.agZ{α:Type}{p:α->Bool}{x:α}{l:List α}(c:Cut p (x::l) 0):Cut p l 0:=
 ⟨j_ _,fun i y h e=>by omega,fun i y h e=>c.no (i+1) y (by omega) (by simpa using e)⟩
theorem Cut.head{α:Type}{p:α->Bool}{x:α}{l:List α}{k:Nat}(c:Cut p (x::l) (k+1)):p x=true:=c.yes 0 x (by omega) rfl
theorem Cut.Ym{α:Type}{p:α->Bool}{x:α}{l:List α}(c:Cut p (x::l) 0):p x=false:=c.no 0 x (by omega) rfl
theorem Cut.filter{α:Type}{p:α->Bool}:∀{l:List α} {k:Nat},Cut p l k->l.filter p=l.take k
 |[],k,c=>by simp
 |x::l,0,c=>by rw[List.filter_cons_of_neg (by rw[c.Ym];decide),c.agZ.filter];simp
 |x::l,k+1,c=>by rw[XZ c.head,c.tail.filter,List.take_succ_cons]
theorem Cut.count{α:Type}{p:α->Bool}{l:List α}{k:Nat}(c:Cut p l k):(l.filter p).length=k:=by
 rw[c.filter,lR];have:=c.le;omega
theorem zY{o:Nat}(ho:o<=2){v w:Value}(hv:QH v)(hw:QH w):order o w v=turn (order o v w):=by
 rw[bV ho hv hw,bV ho hw hv,sU]
theorem xT{x:Ordering}:(x== .lt)=true↔x= .lt:=by cases x<;>decide
theorem eF{x:Ordering}:(x== .lt)=false↔x≠ .lt:=by cases x<;>decide
def good(v:Value):Prop:=proper v=true/\QH v
def bR(l:List Entry):Prop:=∀e∈l,good e.k
theorem bR.tail{x:Entry}{l:List Entry}(h:bR (x::l)):bR l:=fun e he=>h e (dU _ he)
theorem bR.head{x:Entry}{l:List Entry}(h:bR (x::l)):good x.k:=h x fY
theorem oh{o:Nat}(ho:o<=2){v w:Value}(hv:good v)(hw:good w):order o v w= .eq↔v=w:=by
 constructor
 .exact order_eq hv.1 hw.1
 .intro h;subst h
  rw[bV ho hv.2 hv.2,jw]
def rising(o:Nat)(l:List Entry):Prop:=l.Pairwise fun a b=>order o a.k b.k= .lt
def weak(o:Nat)(l:List Entry):Prop:=l.Pairwise fun a b=>order o b.k a.k≠ .lt
def before(o:Nat)(key:Value)(x:Entry):Bool:=order o x.k key== .lt
def upTo(o:Nat)(key:Value)(x:Entry):Bool:= !(order o key x.k== .lt)
theorem Rm{o:Nat}(ho:o<=2){e:Entry}(he:good e.k):∀{l:List Entry} {k:Nat},bR l->Cut (before o e.k) l k->
  (∀x,l[k]? =some x->x.k=e.k->putIn o e l=l.take k++e::l.drop (k+1))/\((∀x,l[k]? =some x->x.k≠e.k)->putIn o e l=l.take k++e::l.drop k)
 |[],k,_,c=>by
  have:k=0:=by have:=c.le;simpa using this
  subst this
  exact⟨fun x h _=>by simp at h,fun _=>by simp[putIn]⟩
 |x::l,0,hl,c=>by
  have h0:order o x.k e.k≠ .lt:=eF.mp c.Ym
  have ht:=zY ho hl.head.2 he.2
  constructor
  .intro y hy hk
   cases hy
   rw[putIn,ht,(oh ho hl.head he).mpr hk]
   simp[turn]
  .intro h
   have hne:=h x rfl
   have h1:order o x.k e.k≠ .eq:=fun q=>hne ((oh ho hl.head he).mp q)
   have h2:order o x.k e.k= .gt:=by
    cases q:order o x.k e.k with
    |lt=>exact absurd q h0
    |eq=>exact absurd q h1
    |gt=>rfl
   rw[putIn,ht,h2]
   simp[turn]
 |x::l,k+1,hl,c=>by
  have h0:order o x.k e.k= .lt:=xT.mp c.head
  have ht:=zY ho hl.head.2 he.2
  have ih:=Rm ho he hl.tail c.tail
  have e1:putIn o e (x::l)=x::putIn o e l:=by rw[putIn,ht,h0];rfl
  rw[e1]
  constructor
  .intro y hy hk
   rw[ih.1 y (by simpa using hy) hk]
   simp
  .intro h
   rw[ih.2 fun y hy=>h y (by simpa using hy)]
   simp
theorem Iz{o:Nat}{e:Entry}:∀{l:List Entry} {k:Nat},Cut (upTo o e.k) l k->addIn o e l=l.take k++e::l.drop k
 |[],k,c=>by simp[addIn]
 |x::l,0,c=>by
  have h0:order o e.k x.k= .lt:=by
   have:=c.Ym
   unfold upTo at this
   rw[Bool.not_eq_false'] at this
   exact xT.mp this
  rw[addIn,h0]
  simp
 |x::l,k+1,c=>by
  have h0:order o e.k x.k≠ .lt:=by
   have:=c.head
   unfold upTo at this
   rw[GR] at this
   exact eF.mp this
  rw[addIn]
  cases q:order o e.k x.k with
  |lt=>exact absurd q h0
  |eq=>rw[Iz c.tail];simp
  |gt=>rw[Iz c.tail];simp
theorem z6{o:Nat}(ho:o<=2){x:Entry}{l:List Entry}(hl:bR (x::l))(h:rising o (x::l)):∀y∈l,y.k≠x.k:=fun y hy e=>by
 have h1:=(jX.mp h).1 y hy
 rw[e,(oh ho hl.head hl.head).mpr rfl] at h1
 cases h1
theorem oF{v w:Value}:same v w=false↔v≠w:=by
 rw[<-uV,ne_eq,not_congr same_iff]
theorem Mv{o:Nat}(ho:o<=2){key:Value}(hk:good key):∀{l:List Entry} {k:Nat},bR l->rising o l->Cut (before o key) l k->
  (∀x,l[k]? =some x->x.k=key->findKey l key=some x/\hasKey l key=true/\(l.filter fun e=> !same e.k key)=l.take k++l.drop (k+1))/\
  ((∀x,l[k]? =some x->x.k≠key)->findKey l key=none/\hasKey l key=false)
 |[],k,_,_,c=>⟨fun x h _=>by simp at h,fun _=>⟨rfl,rfl⟩⟩
 |x::l,0,hl,hr,c=>by
  have hr2:=(jX.mp hr).2
  constructor
  .intro y hy hk'
   cases hy
   refine⟨by simp[findKey,same_iff.mpr hk'],by simp[hasKey,same_iff.mpr hk'],?_⟩
   rw[List.filter_cons_of_neg (by rw[same_iff.mpr hk'];decide)]
   simp only[JR,List.nil_append,X3,List.drop_zero]
   refine X4.mpr fun y hy=>?_
   rw[GR,oF,<-hk']
   exact z6 ho hl hr y hy
  .intro h
   have hne:=h x rfl
   have all:∀y∈l,y.k≠key:=fun y hy e=>by
    have h1:=(jX.mp hr).1 y hy
    rw[e] at h1
    exact eF.mp c.Ym h1
   constructor
   .unfold findKey
    rw[List.find?_eq_none]
    intro y hy
    rw[uV,oF]
    rcases bU.mp hy with rfl|hy
    .exact hne
    .exact all y hy
   .unfold hasKey
    rw[List.any_eq_false]
    intro y hy
    rw[uV,oF]
    rcases bU.mp hy with rfl|hy
    .exact hne
    .exact all y hy
 |x::l,k+1,hl,hr,c=>by
  have hr2:=(jX.mp hr).2
  have ih:=Mv ho hk hl.tail hr2 c.tail
  have hne:x.k≠key:=fun e=>by
   have h0:order o x.k key= .lt:=xT.mp c.head
   rw[(oh ho hl.head hk).mpr e] at h0
   cases h0
  have hs:same x.k key=false:=oF.mpr hne
  have e1:findKey (x::l) key=findKey l key:=by simp[findKey,hs]
  have e2:hasKey (x::l) key=hasKey l key:=by simp[hasKey,hs]
  rw[e1,e2]
  constructor
  .intro y hy hk'
   obtain⟨i1,i2,i3⟩:=ih.1 y (by simpa using hy) hk'
   refine⟨i1,i2,?_⟩
   rw[XZ (by rw[hs];decide),i3]
   simp
  .intro h
   exact ih.2 fun y hy=>h y (by simpa using hy)
def le1(f:α->List Int)(a b:α):Prop:=cO (f b) (f a)≠ .lt
theorem HB{a b:List Int}(h1:cO a b≠ .lt)(h2:cO b a≠ .lt):a=b:=by
 cases h:cO a b with
 |lt=>exact absurd h h1
 |eq=>exact n6.mp h
 |gt=>exact absurd (uw.mp h) h2
theorem Nr{α:Type}(f:α->List Int):∀{l m:List α},l.Pairwise (le1 f)->m.Pairwise (le1 f)->(∀c,l.filter (fun x=>f x==c)=m.filter (fun x=>f x==c))->l=m
 |[],[],_,_,_=>rfl
 |[],y::m,_,_,h=>by
  have:=h (f y)
  simp at this
 |x::l,[],_,_,h=>by
  have:=h (f x)
  simp at this
 |x::l,y::m,hl,hm,h=>by
  have hl1:=(jX.mp hl).1
  have hm1:=(jX.mp hm).1
  have in1:x∈(y::m).filter (fun z=>f z==f x):=by rw[<-h (f x)];simp
  have in2:y∈(x::l).filter (fun z=>f z==f y):=by rw[h (f y)];simp
  have e:f x=f y:=by
   refine HB ?_ ?_
   .rcases bU.mp (yU.mp in1).1 with q|q
    .rw[q,jw];intro z;cases z
    .exact hm1 x q
   .rcases bU.mp (yU.mp in2).1 with q|q
    .rw[q,jw];intro z;cases z
    .exact hl1 y q
  have h0:=h (f x)
  rw[XZ (by simp),XZ (by simp[e])] at h0
  injection h0 with hx hr
  subst hx
  congr 1
  refine Nr f (jX.mp hl).2 (jX.mp hm).2 fun c=>?_
  have hc:=h c
  by_cases q:(f x==c)=true
  .rw[wV,wV,if_pos q,if_pos q] at hc
   injection hc
  .rw[wV,wV,if_neg q,if_neg q] at hc
   exact hc
open CollNeutral in
mutual
theorem O8:∀{v w:Value} {r s:List Int},valueN v++r=valueN w++s->v=w/\r=s
 | .truth a,w,r,s,h=>by
  cases w with
  |truth b=>
   rw[valueN,valueN] at h
   cases a<;>cases b<;>simp at h<;>exact⟨rfl,h⟩
  |num c d=>rw[valueN,valueN] at h;simp at h
  |text c=>rw[valueN,valueN] at h;simp at h
  |list c=>rw[valueN,valueN] at h;simp at h
 | .num a b,w,r,s,h=>by
  cases w with
  |truth b=>rw[valueN,valueN] at h;simp at h
  |num c d=>
   rw[valueN,valueN] at h
   simp at h
   obtain⟨rfl,h2,h3⟩:=h
   have:b=d:=by omega
   subst this
   exact⟨rfl,h3⟩
  |text c=>rw[valueN,valueN] at h;simp at h
  |list c=>rw[valueN,valueN] at h;simp at h
 | .text a,w,r,s,h=>by
  cases w with
  |truth b=>rw[valueN,valueN] at h;simp at h
  |num c d=>rw[valueN,valueN] at h;simp at h
  |text c=>
   rw[valueN,valueN] at h
   unfold bytesN rowN at h
   simp at h
   obtain⟨h1,h2⟩:=h
   have hl:a.length=c.length:=by omega
   have h3:=List.append_inj h2 (by simp[hl])
   have h4:a=c:=by
    refine List.map_inj_right (f:=fun c:UInt8=>(c.toNat:Int)) ?_|>.mp h3.1
    intro x y hxy
    have hxy':((x.toNat:Nat):Int)=(y.toNat:Nat):=hxy
    exact UInt8.toNat_inj.mp (by omega)
   exact⟨by rw[h4],h3.2⟩
  |list c=>rw[valueN,valueN] at h;simp at h
 | .list l,w,r,s,h=>by
  cases w with
  |truth b=>rw[valueN,valueN] at h;simp at h
  |num c d=>rw[valueN,valueN] at h;simp at h
  |text c=>rw[valueN,valueN] at h;simp at h
  |list m=>
   rw[valueN,valueN] at h
   simp at h
   obtain⟨h1,h2⟩:=h
   obtain⟨e,q⟩:=KN (by omega) h2
   exact⟨by rw[e],q⟩
theorem KN:∀{l m:List Value} {r s:List Int},l.length=m.length->valuesN l++r=valuesN m++s->l=m/\r=s
 |[],[],r,s,_,h=>⟨rfl,by rw[valuesN] at h;exact h⟩
 |v::l,w::m,r,s,hl,h=>by
  rw[valuesN,valuesN,ud,ud] at h
  obtain⟨e1,q⟩:=O8 h
  obtain⟨e2,q⟩:=KN (by simpa using hl) q
  exact⟨by rw[e1,e2],q⟩
end
theorem lQ{v w:Value}:aZ v=aZ w↔v=w:=by
 constructor
 .intro h
  exact(O8 (r:=[]) (s:=[]) (by rw[h])).1
 .intro h;rw[h]
def pk(o:Nat)(e:Entry):List Int:=place o e.k
def px(o:Nat)(e:Entry):List Int:=place o e.x
def rowAt(f:Entry->List Int)(c:List Int)(l:List Entry):List Entry:=l.filter fun e=>f e==c
theorem Rp(f:Entry->List Int)(c:List Int):rowAt f c []=[]:=rfl
theorem fu(f:Entry->List Int)(c:List Int)(x:Entry)(l:List Entry):rowAt f c (x::l)=if f x=c then x::rowAt f c l else rowAt f c l:=by
 unfold rowAt
 rw[wV]
 by_cases h:f x=c
 .rw[if_pos h,if_pos (by simp[h])]
 .rw[if_neg h,if_neg (by simp[h])]
theorem fM(f:Entry->List Int)(c:List Int)(l m:List Entry):rowAt f c (l++m)=rowAt f c l++rowAt f c m:=Uo ..
theorem Rg{f:Entry->List Int}{c:List Int}{l:List Entry}{x:Entry}:x∈rowAt f c l↔x∈l/\f x=c:=by
 unfold rowAt
 rw[yU,beq_iff_eq]
theorem v9{f:Entry->List Int}{c:List Int}{l:List Entry}(h:∀x∈l,f x≠c):rowAt f c l=[]:=by
 unfold rowAt
 rw[X5]
 intro x hx
 simpa using h x hx
abbrev sortedBy(f:Entry->List Int)(l:List Entry):Prop:=l.Pairwise (le1 f)
theorem S_{f:Entry->List Int}{l m:List Entry}(hl:sortedBy f l)(hm:sortedBy f m)(h:∀c,rowAt f c l=rowAt f c m):l=m:=Nr f hl hm h
theorem tM{o:Nat}(ho:o<=2){l:List Entry}(hl:bR l)(h:rising o l):sortedBy (pk o) l:=by
 refine GX.imp_of_mem (fun{a b} ha hb hab=>?_) h
 unfold le1 pk
 rw[bV ho (hl a ha).2 (hl b hb).2] at hab
 rw[sU (place o a.k) (place o b.k),hab]
 intro q;cases q
theorem uK{o:Nat}(ho:o<=2){a b:Entry}(ha:good a.k)(hb:good b.k):pk o a=pk o b↔a.k=b.k:=Jq ho ha.1 hb.1 ha.2 hb.2
theorem Ea{o:Nat}{e:Entry}:∀{l:List Entry} {x:Entry},x∈putIn o e l->x=e\/x∈l
 |[],x,h=>by rw[putIn] at h;simpa using h
 |y::l,x,h=>by
  rw[putIn] at h
  split at h
  .rcases bU.mp h with h|h
   .exact .inl h
   .exact .inr h
  .rcases bU.mp h with h|h
   .exact .inl h
   .exact .inr (dU _ h)
  .rcases bU.mp h with h|h
   .exact .inr (by rw[h];exact fY)
   .rcases Ea h with h|h
    .exact .inl h
    .exact .inr (dU _ h)
theorem U_{o:Nat}{e:Entry}{l:List Entry}(he:good e.k)(hl:bR l):bR (putIn o e l):=fun x hx=>by
 rcases Ea hx with h|h
 .rw[h];exact he
 .exact hl x h
theorem Vx{o:Nat}(ho:o<=2){a b c:Value}(ha:QH a)(hb:QH b)(hc:QH c)(h1:order o a b= .lt)(h2:order o b c= .lt):order o a c= .lt:=by
 rw[bV ho ha hb] at h1
 rw[bV ho hb hc] at h2
 rw[bV ho ha hc]
 exact jU h1 h2
theorem q_{o:Nat}(ho:o<=2){e:Entry}(he:good e.k):∀{l:List Entry},bR l->rising o l->rising o (putIn o e l)
 |[],_,_=>by
  rw[putIn]
  exact jX.mpr ⟨fun a h=>(by cases h),GX.nil⟩
 |x::l,hl,h=>by
  have h1:=(jX.mp h).1
  have h2:=(jX.mp h).2
  rw[putIn]
  split
  .rename_i q
   refine jX.mpr ⟨fun a ha=>?_,h⟩
   rcases bU.mp ha with rfl|ha
   .exact q
   .exact Vx ho he.2 hl.head.2 (hl.tail a ha).2 q (h1 a ha)
  .rename_i q
   refine jX.mpr ⟨fun a ha=>?_,h2⟩
   rw[(oh ho he hl.head).mp q]
   exact h1 a ha
  .rename_i q
   refine jX.mpr ⟨fun a ha=>?_,q_ ho he hl.tail h2⟩
   rcases Ea ha with rfl|ha
   .rw[zY ho he.2 hl.head.2,q];rfl
   .exact h1 a ha
theorem Ke{o:Nat}(ho:o<=2){e:Entry}(he:good e.k)(c:List Int):∀{l:List Entry},bR l->rising o l->rowAt (pk o) c (putIn o e l)=if pk o e=c then[e] else rowAt (pk o) c l
 |[],_,_=>by
  rw[putIn,fu,Rp]
 |x::l,hl,h=>by
  have h1:=(jX.mp h).1
  have h2:=(jX.mp h).2
  have after:∀y:Entry,(order o e.k y.k= .lt\/order o e.k y.k= .eq)->good y.k->(∀z∈l,order o y.k z.k= .lt)->∀z∈l,pk o z≠pk o e:=fun y hy gy ha z hz q=>by
   have e1:=(uK ho (hl.tail z hz) he).mp q
   have e2:=ha z hz
   rw[e1,zY ho he.2 gy.2] at e2
   rcases hy with hy|hy<;>rw[hy] at e2<;>cases e2
  rw[putIn]
  split
  .rename_i q
   rw[fu]
   by_cases hc:pk o e=c
   .rw[if_pos hc,if_pos hc]
    congr 1
    refine v9 fun z hz=>?_
    rw[<-hc]
    rcases bU.mp hz with rfl|hz
    .intro w
     have:=(uK ho hl.head he).mp w
     rw[this,(oh ho he he).mpr rfl] at q
     cases q
    .exact after x (.inl q) hl.head h1 z hz
   .rw[if_neg hc,if_neg hc]
  .rename_i q
   have ex:pk o x=pk o e:=(uK ho hl.head he).mpr ((oh ho he hl.head).mp q).symm
   rw[fu,fu,ex]
   by_cases hc:pk o e=c
   .rw[if_pos hc,if_pos hc]
    congr 1
    refine v9 fun z hz=>?_
    rw[<-hc]
    exact after x (.inr q) hl.head h1 z hz
   .rw[if_neg hc,if_neg hc,if_neg hc]
  .rename_i q
   rw[fu,fu,Ke ho he c hl.tail h2]
   by_cases hx:pk o x=c
   .rw[if_pos hx,if_pos hx]
    have hne:pk o e≠c:=fun w=>by
     have:=(uK ho he hl.head).mp (w.trans hx.symm)
     rw[this,(oh ho hl.head hl.head).mpr rfl] at q
     cases q
    rw[if_neg hne,if_neg hne]
   .rw[if_neg hx,if_neg hx]
theorem sI{l:List Entry}{k:Value}:hasKey l k=true↔∃e∈l,e.k=k:=by
 unfold hasKey
 rw[Up]
 constructor
 .rintro⟨e,h1,h2⟩;exact⟨e,h1,same_iff.mp h2⟩
 .rintro⟨e,h1,h2⟩;exact⟨e,h1,same_iff.mpr h2⟩
theorem J0{x:Entry}{l:List Entry}{k:Value}:hasKey (x::l) k=(same x.k k||hasKey l k):=rfl
theorem Tp{o:Nat}(ho:o<=2){x:Entry}{l:List Entry}(hl:bR (x::l))(h:rising o (x::l)):hasKey l x.k=false:=by
 rw[<-uV,sI]
 rintro⟨e,h1,h2⟩
 exact z6 ho hl h e h1 h2
def alone(l m:List Entry):List Entry:=l.filter fun e=> !hasKey m e.k
theorem Kd(f:Entry->List Int)(c:List Int)(l m:List Entry):rowAt f c (alone l m)=(rowAt f c l).filter fun e=> !hasKey m e.k:=by
 unfold rowAt alone
 rw[List.filter_filter,List.filter_filter]
 congr 1
 funext e
 exact Bool.and_comm _ _
theorem Ca{l m:List Entry}(h:bR l):bR (alone l m):=fun e he=>h e (yU.mp he).1
theorem z7{o:Nat}{l m:List Entry}(h:rising o l):rising o (alone l m):=GX.filter _ h
theorem Js{o:Nat}(ho:o<=2):∀{m l:List Entry},bR l->bR m->rising o l->rising o m->
  bR (puts o l m)/\rising o (puts o l m)/\∀c,rowAt (pk o) c (puts o l m)=rowAt (pk o) c (alone l m++m)
 |[],l,hl,_,rl,_=>by
  refine⟨hl,rl,fun c=>?_⟩
  show rowAt (pk o) c l=_
  have:alone l []=l:=X4.mpr fun e _=>rfl
  rw[this,vI]
 |e::m,l,hl,hm,rl,rm=>by
  have ih:=Js ho (m:=m) (l:=putIn o e l) (U_ hm.head hl) hm.tail (q_ ho hm.head hl rl) (jX.mp rm).2
  refine⟨ih.1,ih.2.1,fun c=>?_⟩
  show rowAt (pk o) c (puts o (putIn o e l) m)=_
  rw[ih.2.2 c,fM,fM,Kd,Kd,Ke ho hm.head c hl rl,fu]
  by_cases hc:pk o e=c
  .rw[if_pos hc,if_pos hc]
   have e1:[e].filter (fun x=> !hasKey m x.k)=[e]:=by
    rw[wV,if_pos (by rw[Tp ho hm rm];rfl)];rfl
   have e2:(rowAt (pk o) c l).filter (fun x=> !hasKey (e::m) x.k)=[]:=by
    rw[X5]
    intro x hx
    obtain⟨h1,h2⟩:=Rg.mp hx
    have:=(uK ho hm.head (hl x h1)).mp (hc.trans h2.symm)
    rw[J0,same_iff.mpr this]
    simp
   rw[e1,e2];rfl
  .rw[if_neg hc,if_neg hc]
   congr 1
   refine List.filter_congr fun x hx=>?_
   obtain⟨h1,h2⟩:=Rg.mp hx
   have:same e.k x.k=false:=oF.mpr fun q=>hc (((uK ho hm.head (hl x h1)).mpr q).trans h2)
   rw[J0,this,Bool.false_or]
theorem J_{o:Nat}(ho:o<=2){l m out:List Entry}(hl:bR l)(hm:bR m)(rl:rising o l)(rm:rising o m)(hs:sortedBy (pk o) out)(h:∀c,rowAt (pk o) c out=rowAt (pk o) c (alone l m++m)):out=puts o l m:=by
 have p:=Js ho hl hm rl rm
 exact S_ hs (tM ho p.1 p.2.1) fun c=>(h c).trans (p.2.2 c).symm
theorem Uq(l m:List Entry):alone (alone l m) (alone m l)=alone l m:=by
 refine X4.mpr fun e he=>?_
 have h1:=(yU.mp he).2
 rw[GR] at h1 ⊢
 rw[<-uV,sI]
 rintro⟨x,hx,hk⟩
 have:hasKey m e.k=true:=sI.mpr ⟨x,(yU.mp hx).1,hk⟩
 rw[this] at h1;cases h1
theorem vC{o:Nat}{e:Entry}:∀{l:List Entry} {x:Entry},x∈addIn o e l↔x=e\/x∈l
 |[],x=>by rw[addIn];simp
 |y::l,x=>by
  rw[addIn]
  split
  .simp
  .rw[bU,vC,bU]
   constructor
   .rintro(h|h|h)
    .exact .inr (.inl h)
    .exact .inl h
    .exact .inr (.inr h)
   .rintro(h|h|h)
    .exact .inr (.inl h)
    .exact .inl h
    .exact .inr (.inr h)
theorem U9{o:Nat}{e:Entry}{l:List Entry}(he:good e.k)(hl:bR l):bR (addIn o e l):=fun x hx=>by
 rcases vC.mp hx with h|h
 .rw[h];exact he
 .exact hl x h
theorem zK{o:Nat}(ho:o<=2){e:Entry}(he:good e.k):∀{l:List Entry},bR l->sortedBy (pk o) l->
  sortedBy (pk o) (addIn o e l)/\∀c,rowAt (pk o) c (addIn o e l)=rowAt (pk o) c (l++[e])
 |[],_,_=>by
  rw[addIn]
  exact⟨jX.mpr ⟨fun a h=>(by cases h),GX.nil⟩,fun c=>rfl⟩
 |x::l,hl,h=>by
  have h1:=(jX.mp h).1
  have h2:=(jX.mp h).2
  rw[addIn]
  split
  .rename_i q
   rw[bV ho he.2 hl.head.2] at q
   have big:∀z∈x::l,cO (pk o e) (pk o z)= .lt:=fun z hz=>by
    rcases bU.mp hz with rfl|hz
    .exact q
    .exact qU q (h1 z hz)
   refine⟨jX.mpr ⟨fun a ha=>?_,h⟩,fun c=>?_⟩
   .unfold le1
    rw[sU (pk o e) (pk o a),big a ha];intro w;cases w
   .rw[fM,fu (l:=x::l),fu (x:=e) (l:=[]),Rp]
    by_cases hc:pk o e=c
    .rw[if_pos hc,if_pos hc]
     have:rowAt (pk o) c (x::l)=[]:=v9 fun z hz w=>by
      have:=big z hz
      rw[w,<-hc,jw] at this
      cases this
     rw[this];rfl
    .rw[if_neg hc,if_neg hc,vI]
  .rename_i q
   have q':order o e.k x.k≠ .lt:=fun w=>q w
   rw[bV ho he.2 hl.head.2] at q'
   have ih:=zK ho he hl.tail h2
   refine⟨jX.mpr ⟨fun a ha=>?_,ih.1⟩,fun c=>?_⟩
   .rcases vC.mp ha with rfl|ha
    .exact q'
    .exact h1 a ha
   .rw[fu,ih.2 c,List.cons_append,fu]
def jH(o:Nat)(l m:List Entry):List Entry:=m.foldl (fun(l:List Entry) (e:Entry)=>addIn o e l) l
theorem Bs{o:Nat}(ho:o<=2):∀{m l:List Entry},bR l->bR m->sortedBy (pk o) l->
  bR (jH o l m)/\sortedBy (pk o) (jH o l m)/\(∀c,rowAt (pk o) c (jH o l m)=rowAt (pk o) c (l++m))/\∀x,x∈jH o l m↔x∈l\/x∈m
 |[],l,hl,_,h=>⟨hl,h,fun c=>by rw[vI];rfl,fun x=>by simp[jH]⟩
 |e::m,l,hl,hm,h=>by
  have a:=zK ho hm.head hl h
  have ih:=Bs ho (m:=m) (U9 (o:=o) hm.head hl) hm.tail a.1
  refine⟨ih.1,ih.2.1,fun c=>?_,fun x=>?_⟩
  .show rowAt (pk o) c (jH o (addIn o e l) m)=_
   rw[ih.2.2.1 c,fM,a.2 c,<-fM,ud];rfl
  .show x∈jH o (addIn o e l) m↔_
   rw[ih.2.2.2 x,vC,bU]
   constructor
   .rintro((h|h)|h)
    .exact .inr (.inl h)
    .exact .inl h
    .exact .inr (.inr h)
   .rintro(h|h|h)
    .exact .inl (.inr h)
    .exact .inl (.inl h)
    .exact .inr h
theorem Gs{o:Nat}(ho:o<=2){key:Value}{x:Entry}(hk:good key)(hx:good x.k):upTo o key x=true↔cO (place o key) (pk o x)≠ .lt:=by
 unfold upTo
 rw[bV ho hk.2 hx.2,GR,eF];rfl
theorem jD{α:Type}{l:List α}{k:Nat}{x:α}(h:x∈l.take k):∃i,i<k/\l[i]? =some x:=by
 obtain⟨i,hi,e⟩:=List.mem_iff_getElem.mp h
 rw[lR] at hi
 refine⟨i,by omega,?_⟩
 rw[List.getElem_take] at e
 rw[pF (by omega),e]
theorem uq{α:Type}{l:List α}{k:Nat}{x:α}(h:x∈l.drop k):∃i,k<=i/\l[i]? =some x:=by
 obtain⟨i,hi,e⟩:=List.mem_iff_getElem.mp h
 rw[qm] at hi
 refine⟨k+i,by omega,?_⟩
 rw[List.getElem_drop] at e
 rw[pF (by omega),e]
theorem Ue{o:Nat}(ho:o<=2){l m:List Entry}{e:Entry}{i j:Nat}(hl:bR l)(hm:bR m)(sl:sortedBy (pk o) l)(sm:sortedBy (pk o) m)(he:m[0]? =some e)
  (ci:Cut (upTo o e.k) l i)(cj:Cut (upTo o e.k) m j):jH o l m=l.take i++(m.take j++jH o (l.drop i) (m.drop j)):=by
 have me:e∈m:=fZ he
 have ge:=hm e me
 have gl:bR (l.drop i):=fun x hx=>hl x (Qv hx)
 have gm:bR (m.drop j):=fun x hx=>hm x (Qv hx)
 have A:=Bs ho hl hm sl
 have B:=Bs ho gl gm (Qw (List.drop_sublist i l) sl)
 have agx:∀x∈l.take i,cO (pk o e) (pk o x)≠ .lt:=fun x hx=>by
  obtain⟨t,ht,ex⟩:=jD hx
  exact(Gs ho ge (hl x (List.mem_of_mem_take hx))).mp (ci.yes t x ht ex)
 have high:∀{q:List Entry} {k:Nat},bR q->Cut (upTo o e.k) q k->∀x∈q.drop k,cO (pk o e) (pk o x)= .lt:=fun{q k} gq c x hx=>by
  obtain⟨t,ht,ex⟩:=uq hx
  have h1:=c.no t x ht ex
  have h2:=Gs ho ge (gq x (Qv hx))
  cases w:cO (pk o e) (pk o x) with
  |lt=>rfl
  |eq=>exact absurd (h2.mpr (by show cO (pk o e) (pk o x)≠ .lt;rw[w];intro z;cases z)) (by rw[h1];decide)
  |gt=>exact absurd (h2.mpr (by show cO (pk o e) (pk o x)≠ .lt;rw[w];intro z;cases z)) (by rw[h1];decide)
 have first:∀x∈m,cO (pk o x) (pk o e)≠ .lt:=fun x hx=>by
  cases m with
  |nil=>cases hx
  |cons y r=>
   cases he
   rcases bU.mp hx with rfl|hx
   .rw[jw];intro z;cases z
   .exact(jX.mp sm).1 x hx
 have at_:∀x∈m.take j,pk o x=pk o e:=fun x hx=>by
  obtain⟨t,ht,ex⟩:=jD hx
  have hm':=List.mem_of_mem_take hx
  exact HB (first x hm') ((Gs ho ge (hm x hm')).mp (cj.yes t x ht ex))
 refine S_ A.2.1 ?_ fun c=>?_
 .refine List.pairwise_append.mpr ⟨Qw (List.take_sublist i l) sl,List.pairwise_append.mpr ⟨Qw (List.take_sublist j m) sm,B.2.1,fun a ha b hb=>?_⟩,fun a ha b hb=>?_⟩
  .unfold le1
   rw[at_ a ha]
   have:cO (pk o e) (pk o b)= .lt:=by
    rcases(B.2.2.2 b).mp hb with h|h
    .exact high hl ci b h
    .exact high hm cj b h
   rw[sU (pk o e),this];intro z;cases z
  .unfold le1
   rcases j9.mp hb with hb|hb
   .rw[at_ b hb];exact agx a ha
   .have:cO (pk o e) (pk o b)= .lt:=by
     rcases(B.2.2.2 b).mp hb with h|h
     .exact high hl ci b h
     .exact high hm cj b h
    intro z
    exact agx a ha (jU this z)
 .rw[A.2.2.1 c,fM,fM,fM,B.2.2.1 c,fM]
  have e1:rowAt (pk o) c l=rowAt (pk o) c (l.take i)++rowAt (pk o) c (l.drop i):=by rw[<-fM,LK]
  have e2:rowAt (pk o) c m=rowAt (pk o) c (m.take j)++rowAt (pk o) c (m.drop j):=by rw[<-fM,LK]
  rw[e1,e2,ud]
  congr 1
  by_cases hc:pk o e=c
  .have:rowAt (pk o) c (l.drop i)=[]:=v9 fun x hx w=>by
    have:=high hl ci x hx
    rw[w,<-hc,jw] at this;cases this
   rw[this];simp
  .have:rowAt (pk o) c (m.take j)=[]:=v9 fun x hx w=>hc ((at_ x hx).symm.trans w)
   rw[this];simp
def My(l:List Entry):Prop:=∀e∈l,good e.x
theorem zT{o:Nat}{e:Entry}:∀{l:List Entry} {x:Entry},x∈sortIn o e l->x=e\/x∈l
 |[],x,h=>by rw[sortIn] at h;simpa using h
 |y::l,x,h=>by
  rw[sortIn] at h
  split at h
  .rcases bU.mp h with h|h
   .exact .inr (by rw[h];exact fY)
   .rcases zT h with h|h
    .exact .inl h
    .exact .inr (dU _ h)
  .rcases bU.mp h with h|h
   .exact .inl h
   .exact .inr h
theorem KC{o:Nat}(ho:o<=2){e:Entry}(he:good e.x):∀{l:List Entry},My l->sortedBy (px o) l->
  sortedBy (px o) (sortIn o e l)/\∀c,rowAt (px o) c (sortIn o e l)=rowAt (px o) c (e::l)
 |[],_,_=>by
  rw[sortIn]
  exact⟨jX.mpr ⟨fun a h=>(by cases h),GX.nil⟩,fun c=>rfl⟩
 |x::l,hl,h=>by
  have h1:=(jX.mp h).1
  have h2:=(jX.mp h).2
  have gx:good x.x:=hl x fY
  have gl:My l:=fun y hy=>hl y (dU _ hy)
  rw[sortIn]
  split
  .rename_i q
   rw[bV ho he.2 gx.2] at q
   have ih:=KC ho he gl h2
   have hlt:cO (px o x) (px o e)= .lt:=uw.mp q
   refine⟨jX.mpr ⟨fun a ha=>?_,ih.1⟩,fun c=>?_⟩
   .rcases zT ha with rfl|ha
    .unfold le1
     rw[sU (px o x),hlt];intro z;cases z
    .exact h1 a ha
   .simp only[fu,ih.2 c]
    by_cases hx:px o x=c
    .rw[if_pos hx]
     have:px o e≠c:=fun w=>by rw[hx,w,jw] at hlt;cases hlt
     rw[if_neg this,if_neg this,if_pos hx]
    .rw[if_neg hx,if_neg hx]
  .rename_i q
   have q':order o e.x x.x≠ .gt:=fun w=>q w
   rw[bV ho he.2 gx.2] at q'
   refine⟨jX.mpr ⟨fun a ha=>?_,h⟩,fun c=>rfl⟩
   have hxe:cO (px o x) (px o e)≠ .lt:=fun w=>q' (uw.mpr w)
   rcases bU.mp ha with rfl|ha
   .exact hxe
   .intro w
    exact hxe (yc (h1 a ha) w)
theorem Rr{o:Nat}(ho:o<=2):∀{l:List Entry},My l->My (l.foldr (sortIn o) [])/\sortedBy (px o) (l.foldr (sortIn o) [])/\∀c,rowAt (px o) c (l.foldr (sortIn o) [])=rowAt (px o) c l
 |[],_=>⟨fun x h=>(by cases h),GX.nil,fun c=>rfl⟩
 |e::l,h=>by
  have ge:good e.x:=h e fY
  have gl:My l:=fun y hy=>h y (dU _ hy)
  have ih:=Rr ho gl
  have s:=KC ho ge ih.1 ih.2.1
  refine⟨fun x hx=>?_,s.1,fun c=>?_⟩
  .rcases zT hx with rfl|hx
   .exact ge
   .exact ih.1 x hx
  .show rowAt (px o) c (sortIn o e (l.foldr (sortIn o) []))=_
   rw[s.2 c,fu,ih.2.2 c,fu]
theorem V4{o:Nat}(ho:o<=2){l out:List Entry}(hl:My l)(hs:sortedBy (px o) out)(h:∀c,rowAt (px o) c out=rowAt (px o) c l):out=l.foldr (sortIn o) []:=by
 have s:=Rr ho hl
 exact S_ hs s.2.1 fun c=>(h c).trans (s.2.2 c).symm
end Kv
namespace Kv
open PySem PySem.Spec PyProof.Rows L2
inductive af2(w:World)(K:bw)(mg:Str->Option Value)(base:Heap)(k:Nat)(f:Addr)(ps:List Str)(sp:Sp):Prop
 |mk (fd:_) (lq:Fg PP w K mg base (CX1 PP w) k f fd ps sp) (hh1:Binds K fd ps []) (nY:Qo K (.ref f)=true)
def cN(w:World)(K:bw)(mg:Str->Option Value)(base:Heap)(k:Nat)(f:Addr)(ps:List Str)(sp:Sp):Prop:=af2 w K mg base k f ps sp
def SqI(K:bw)(H:Hp)(p:Addr)(ns:List Int):Prop:=bN K H p (ns.map V.int)\/eV K H p (ns.map V.int)
theorem aF.aoT{K:bw}{H H':Hp}{a:Addr}{xs:List V}(e:aF H H')(h:eV K H a xs):eV K H' a xs:=by
 rcases h with(h|⟨o,h⟩)|h
 .exact .inl (.inl (e _ _ h))
 .exact .inl (.inr ⟨o,e _ _ h⟩)
 .exact .inr h
theorem SqI.same{K:bw}{H H':Hp}{a:Addr}{ns:List Int}(h:SqI K H a ns)(e:aF H H'):SqI K H' a ns:=h.elim (fun z=> .inl (e.seq z)) fun z=> .inr (aF.aoT e z)
theorem aF.upd{H:Hp}{p:Addr}{o:HO}(h:H p=none):aF H (upd H p o):=fun b u e=>by
 rw[aD (aJ e h)];exact e
theorem kj{ns:List Int}{j:Nat}{z:Int}(h:ns[j]? =some z):O_ (ns.map V.int) (j:Int)=some (V.int z):=uZ (by rw[gw,h];rfl)
theorem N_{K:bw}{H:Hp}{p:Addr}{ns:List Int}{i:Int}{j:Nat}{z:Int}{Q:VK}(h:SqI K H p ns)(ei:i=(j:Int))(e:ns[j]? =some z)(q:Q (.int z) H):rIx K (.ref p) (.int i) H Q:=by
 subst ei
 rcases h with h|h
 .exact .inl ⟨p,_,_,_,rfl,rfl,h,kj e,q⟩
 .exact .inr (.inl ⟨p,_,_,_,rfl,rfl,h,kj e,q⟩)
theorem a_{X:Cx}{x:Str}{i:Int}{pos:Pos}(h:∃t,X.mg x=some (.int i t))(hg:Gl X x:=by rfl)(hd:(x==("__debug__":Str))=false:=by decide):PE X (.Name x pos) (tC (.int i)):=by
 obtain⟨t,e⟩:=h
 exact Lj hg e ⟨t,rfl⟩ hd
theorem El{x y:Int}:V.int x=V.int y↔x=y:=⟨fun h=>by cases h;rfl,fun h=>by rw[h]⟩
theorem Iu{x y:Int}{A B:Prop}(h1:x=y->A)(h2:x≠y->B):if decide (V.int x=V.int y)=true then A else B:=
 agt (fun c=>h1 (El.mp (of_decide_eq_true c))) fun c=>h2 fun e=>c (decide_eq_true (El.mpr e))
theorem R6{x y:Int}{A B:Prop}(h1:x≠y->A)(h2:x=y->B):if(!decide (V.int x=V.int y))=true then A else B:=by
 by_cases e:x=y
 .subst e
  rw[decide_eq_true rfl];exact lG (h2 rfl)
 .rw[decide_eq_false fun z=>e (El.mp z)];exact j4 (h1 e)
theorem Gy{c A B:Prop}[Decidable c](h1:c->A)(h2:¬c->B):if decide c=true then A else B:=agt (fun z=>h1 (of_decide_eq_true z)) fun z=>h2 fun e=>z (decide_eq_true e)
theorem ifB{b:Bool}{A B:Prop}(h1:b=true->A)(h2:b=false->B):if b=true then A else B:=by
 cases b with
 |true=>exact j4 (h1 rfl)
 |false=>exact lG (h2 rfl)
theorem cT{n:Nat}(h:n<=16777216):n<=dM:=by rw[Es];exact h
theorem fX{n:Nat}(h:n<16777216):n<dM:=by rw[Es];exact h
theorem len1{x:V}:[x].length<=dM:=cT (by show 1<=_;decide)
theorem len2{x y:V}:[x,y].length<=dM:=cT (by show 2<=_;decide)
theorem agw{x y z:V}:[x,y,z].length<=dM:=cT (by show 3<=_;decide)
theorem len0:([]:List V).length<=dM:=j_ _
abbrev Ob(H:Hp)(x C:Addr)(fs:List (Str×V)):Prop:=∃dx,H x=some (.ins C dx fs)
section
variable{w:World}{K:bw}{mg:Str->Option Value}{base:Heap}{a:Ad}
def spanOf(ns:List Int)(at_:Nat):Int×Int:=
 let tag:=ns.getD at_ 0
 if tag=0 then((at_:Int)+1,(at_:Int)+2) else if tag=1 then((at_:Int)+1,(at_:Int)+3) else if tag=2 then((at_:Int)+2,(at_:Int)+2+ns.getD (at_+1) 0) else((at_:Int)+2,(at_:Int)+2)
inductive Wo(K:bw)(vs:List V)(H:Hp)(Q:VK):Prop
 |mk (p:Addr) (ns:List Int) (i:Nat) (lq:vs=[.ref p,.int i]) (hh1:SqI K H p ns) (nY:i<ns.length) (hh3:(ns.getD i 0=2->i+1<ns.length)) (wO:∀(H':Hp) (t:Addr),aF H H'->H' t=some (.tup [.int (spanOf ns i).1,.int (spanOf ns i).2])->Q (.ref t) H')
def Rt(K:bw):Sp:=fun vs H Q _=>Wo K vs H Q
theorem J7(T:Txt K mg a):cN w K mg base 1 a.vP ["numbers","at"] (Rt K):=by
 obtain⟨fd,F⟩:=T.wM.fn
 refine⟨fd,F.ok1 Kr (fun vs H Q E h=>?_) (fun cdv A outer s H vs Q E hr h=>?_),F.binds (by walk_at "b2"),F.kp⟩
 .obtain⟨p,ns,i,rfl,_⟩:=h
  rfl
 .obtain⟨p,ns,i,rfl,hS,hi,h2,k⟩:=h
  refine⟨_,ak (aK (i:=2) Kr.nd rfl (Or.inl rfl) (bf MJ (pv 0) (pv 1) (fun _ _=>rfl)))
   (ak (cJ (aX jf (pv 2) (a_ T.R9) (bx _)) (au (aL (iy (aj (cB dj (pv 1) aB) (aj (cB dj (pv 1) aB) aq))))) bF)
   (ak (cJ (aX jf (pv 2) (a_ T.nZ) (bx _)) (au (aL (iy (aj (cB dj (pv 1) aB) (aj (cB dj (pv 1) aB) aq))))) bF)
   (ak (cJ (aX jf (pv 2) (a_ T.Ck) (bx _)) (au (aL (iy (aj (cB dj (pv 1) aB) (aj (cB dj (cB dj (pv 1) aB) (bf MJ (pv 0) (cB dj (pv 1) aB) (fun _ _=>rfl))) aq))))) bF)
   (au (aL (iy (aj (cB dj (pv 1) aB) (aj (cB dj (pv 1) aB) aq)))))))),?_⟩
  have e0:ns[i]? =some (ns.getD i 0):=by rw[JN,pF hi];rfl
  refine⟨_,rfl,_,rfl,N_ hS rfl e0 ?_⟩
  have fin:∀(x y:Int),spanOf ns i=(x,y)->∀p,H p=none->Q (.ref p) (upd H p (.tup [.int x,.int y])):=fun x y e p hp=>
   k _ p (aF.upd hp) (by rw[ao,e])
  walk_at "rd"
  refine Iu (fun c=>?_) (fun c=>?_)
  .walk_at "rd"
   exact⟨len2,fun p hp=>fin _ _ (by unfold spanOf;rw[if_pos c]) p hp⟩
  .walk_at "rd"
   refine Iu (fun c1=>?_) (fun c1=>?_)
   .walk_at "rd"
    exact⟨len2,fun p hp=>fin _ _ (by unfold spanOf;rw[if_neg c,if_pos c1]) p hp⟩
   .walk_at "rd"
    refine Iu (fun c2=>?_) (fun c2=>?_)
    .have h3:=h2 c2
     have e1:ns[i+1]? =some (ns.getD (i+1) 0):=by rw[JN,pF h3];rfl
     walk_at "rd"
     refine N_ hS (j:=i+1) (by omega) e1 ?_
     walk_at "rd"
     exact⟨len2,fun p hp=>fin _ _ (by unfold spanOf;rw[if_neg c,if_neg c1,if_pos c2]) p hp⟩
    .walk_at "rd"
     exact⟨len2,fun p hp=>fin _ _ (by unfold spanOf;rw[if_neg c,if_neg c1,if_neg c2]) p hp⟩
end
theorem own1{w:World}{K:bw}{mg:Str->Option Value}{base:Heap}{N:List Str}{qual:Str}{scope:Scope}{f:Addr}{cd:Value}{A:Around}{outer:List Env}{s0:Shared}{H0:Hp}{E:XK}:
  PassesOwn (model (Pg PP w K mg base N qual scope f cd A outer s0 H0 E).prog (Pg PP w K mg base N qual scope f cd A outer s0 H0 E).w) (Pg PP w K mg base N qual scope f cd A outer s0 H0 E).A (Pg PP w K mg base N qual scope f cd A outer s0 H0 E).env (Pg PP w K mg base N qual scope f cd A outer s0 H0 E).xe:=PassesOwn.leaving
abbrev fValue(n:Addr)(e z:Int):List (Str×V):=fV "weight" (.int z) (fV "depth" (.int e) (fV "numbers" (.ref n) []))
abbrev Yi(t d:Int)(o:Addr):List (Str×V):=fV "own" (.ref o) (fV "depth" (.int d) (fV "tag" (.int t) []))
theorem dg{n:Addr}{e z:Int}:(fValue n e z).lookup ("numbers":Str)=some (.ref n):=by rw[aO,if_neg (by decide+kernel),aO,if_neg (by decide+kernel),aO,if_pos rfl]
theorem R4{n:Addr}{e z:Int}:(fValue n e z).lookup ("depth":Str)=some (.int e):=by rw[aO,if_neg (by decide+kernel),aO,if_pos rfl]
theorem pG{n:Addr}{e z:Int}:(fValue n e z).lookup ("weight":Str)=some (.int z):=by rw[aO,if_pos rfl]
theorem kJ{t d:Int}{o:Addr}:(Yi t d o).lookup ("tag":Str)=some (.int t):=by rw[aO,if_neg (by decide+kernel),aO,if_neg (by decide+kernel),aO,if_pos rfl]
theorem U0{t d:Int}{o:Addr}:(Yi t d o).lookup ("depth":Str)=some (.int d):=by rw[aO,if_neg (by decide+kernel),aO,if_pos rfl]
theorem iU{t d:Int}{o:Addr}:(Yi t d o).lookup ("own":Str)=some (.ref o):=by rw[aO,if_pos rfl]
inductive acN(C:Addr)(n:Nat)(ok:List V->Prop)(fs:List V->List (Str×V))(vs:List V)(H:Hp)(Q:VK):Prop
 |mk (p dx:Addr) (xs:List V) (lq:vs= .ref p::xs) (hh1:xs.length=n) (nY:ok xs) (hh3:H p=some (.ins C dx [])) (wO:∀H':Hp,H' p=some (.ins C dx (fs xs))->(∀b o,H b=some o->b≠p->H' b=some o)->Q .non H')
def Ao(C:Addr)(n:Nat)(ok:List V->Prop)(fs:List V->List (Str×V)):Sp:=fun vs H Q _=>acN C n ok fs vs H Q
theorem made{C x dx:Addr}{H:Hp}{n:Nat}{ok:List V->Prop}{fs:List V->List (Str×V)}{R:VK}{E:XK}{xs:List V}(nx:H x=none)(nd:H dx=none)(hl:xs.length=n)(hk:ok xs)
  (k:∀H':Hp,aF H H'->Ob H' x C (fs xs)->R .non H'):Ao C n ok fs (.ref x::(xs++[])) (upd (upd H dx (.own x)) x (.ins C dx [])) R E:=
 ⟨x,dx,xs,by rw[vI],hl,hk,ao,fun H' h1 h2=>k H' (aF.made nx nd h2) ⟨dx,h1⟩⟩
section
variable{w:World}{K:bw}{mg:Str->Option Value}{base:Heap}{a:Ad}
def Yk:List V->List (Str×V)
 |[x,y,z]=>fV "weight" z (fV "depth" y (fV "numbers" x []))
 |_=>[]
theorem abR(T:Txt K mg a):cN w K mg base 1 a.Hw ["self","numbers","depth","weight"] (Ao a.mQ 3 (fun _=>True) Yk):=by
 obtain⟨fd,F⟩:=T.d8.fn
 refine⟨fd,F.ok1 Qa (fun vs H Q E h=>?_) (fun cdv A outer s H vs Q E hr h=>?_),F.binds (by walk_at "b4"),F.kp⟩
 .obtain⟨p,dx,xs,rfl,hl,_⟩:=h
  simp[hl]
 .obtain⟨p,dx,xs,rfl,hl,_,hp,k⟩:=h
  match xs,hl with
  |[x,y,z],_=>
   refine⟨_,ak (lK (pv 0) (pv 1) rfl) (ak (lK (pv 0) (pv 2) rfl) (au (lK (pv 0) (pv 3) rfl))),?_⟩
   refine⟨_,rfl,_,rfl,p,_,dx,_,rfl,hp,T.d8.cl,T.b_,(by show 0<1000;decide),_,rfl,_,rfl,p,_,dx,_,rfl,ao,T.d8.cl,T.tL,(by show 1<1000;decide),
    _,rfl,_,rfl,p,_,dx,_,rfl,ao,T.d8.cl,T.gQ,(by show 2<1000;decide),?_⟩
   exact k _ ao fun b o e hb=>by rw[aD hb,aD hb,aD hb];exact e
def aeT:List V->List (Str×V)
 |[x,y,z]=>fV "own" z (fV "depth" y (fV "tag" x []))
 |_=>[]
theorem adI(T:Txt K mg a):cN w K mg base 1 a.Mz ["self","tag","depth","own"] (Ao a.uE 3 (fun _=>True) aeT):=by
 obtain⟨fd,F⟩:=T.dW.fn
 refine⟨fd,F.ok1 Tv (fun vs H Q E h=>?_) (fun cdv A outer s H vs Q E hr h=>?_),F.binds (by walk_at "b4"),F.kp⟩
 .obtain⟨p,dx,xs,rfl,hl,_⟩:=h
  simp[hl]
 .obtain⟨p,dx,xs,rfl,hl,_,hp,k⟩:=h
  match xs,hl with
  |[x,y,z],_=>
   refine⟨_,ak (lK (pv 0) (pv 1) rfl) (ak (lK (pv 0) (pv 2) rfl) (au (lK (pv 0) (pv 3) rfl))),?_⟩
   refine⟨_,rfl,_,rfl,p,_,dx,_,rfl,hp,T.dW.cl,T.fL,(by show 0<1000;decide),_,rfl,_,rfl,p,_,dx,_,rfl,ao,T.dW.cl,T.u6,(by show 1<1000;decide),
    _,rfl,_,rfl,p,_,dx,_,rfl,ao,T.dW.cl,T.d7,(by show 2<1000;decide),?_⟩
   exact k _ ao fun b o e hb=>by rw[aD hb,aD hb,aD hb];exact e
inductive aex(vs:List V)(H:Hp)(Q:VK):Prop
 |mk (x y:Nat) (lq:vs=[.int x,.int y]) (hh1:Q (.int (Nat.gcd x y)) H)
def agO:Sp:=fun vs H Q _=>aex vs H Q
def Bl(σ:L2.St)(i:Nat):Nat:=match σ[i]? with
 |some (some (.int z))=>z.toNat
 |_=>0
theorem HN(T:Txt K mg a):cN w K mg base 1 a.kO ["a","b"] agO:=by
 obtain⟨fd,F⟩:=T.oN.fn
 refine⟨fd,F.ok1 mV (fun vs H Q E h=>?_) (fun cdv A outer s H vs Q E hr h=>?_),F.binds (by walk_at "b2"),F.kp⟩
 .obtain⟨x,y,rfl,_⟩:=h
  rfl
 .obtain⟨x,y,rfl,k⟩:=h
  refine⟨_,ak (pN own1 (aX CJ (pv 1) aB (bx _)) (ak (aK (i:=2) mV.nd rfl (Or.inl rfl) (cB afk (pv 0) (pv 1)))
   (ak (aK (i:=0) mV.nd rfl (Or.inl rfl) (pv 1)) (au (aK (i:=1) mV.nd rfl (Or.inl rfl) (pv 2)))))) (au (aL (pv 0))),?_⟩
  refine pP (fun σ H'=>∃(m n:Nat) (v:Option V),σ=[some (.int m),some (.int n),v]/\H'=H/\Nat.gcd m n=Nat.gcd x y) (fun σ _=>Bl σ 1) ⟨x,y,none,rfl,rfl,rfl⟩ ?_ ?_
  .rintro σ H' ⟨m,n,v,rfl,rfl,e⟩
   walk_at "rd"
   refine Gy (fun c=>?_) (fun c=>?_)
   .have hn:(0:Int)<n:=c
    walk_at "rd"
    refine⟨hn,?_⟩
    walk_at "rd"
    have e2:((m:Int)%(n:Int))=((m%n:Nat):Int):=by omega
    refine⟨⟨n,m%n,some (.int ((m:Int)%(n:Int))),(by show[some (V.int n),some (V.int ((m:Int)%(n:Int))),some (V.int ((m:Int)%(n:Int)))]=_;rw[e2]),rfl,?_⟩,?_⟩
    .rw[<-e,Nat.gcd_comm m n,Nat.gcd_rec n m,Nat.gcd_comm]
    .show((m:Int)%(n:Int)).toNat<(n:Int).toNat
     have:=Nat.mod_lt m (show 0<n by omega)
     rw[e2];omega
   .have hn:n=0:=by omega
    subst hn
    walk_at "rd"
    rw[Nat.gcd_zero_right] at e
    rw[e];exact k
  .rintro σ H' Q1 Q2 h ⟨v,e,i,j,e1,e2,b,e3,q⟩
   exact⟨v,e,i,j,e1,e2,b,e3,h _ _ q⟩
inductive Ze(vs:List V)(H:Hp)(Q:VK):Prop
 |mk (n:Int) (d:Nat) (lq:vs=[.int n,.int d]) (hh1:Q (.bl (decide (0<d)&&(Nat.gcd n.natAbs d==1))) H)
def acq:Sp:=fun vs H Q _=>Ze vs H Q
theorem boot_abs:bootBuiltins "abs"=some (.builtin "abs"):=by decide+kernel
theorem boot_str:bootBuiltins "str"=some (.type "str"):=by decide+kernel
theorem boot_list:bootBuiltins "list"=some (.type "list"):=by decide+kernel
theorem boot_tuple:bootBuiltins "tuple"=some (.type "tuple"):=by decide+kernel
theorem boot_sum:bootBuiltins "sum"=some (.builtin "sum"):=by decide+kernel
theorem S7(T:Txt K mg a):cN w K mg base 2 a.ug ["n","d"] acq:=by
 obtain⟨fd,F⟩:=T.xJ.fn
 obtain⟨fg,G,bg,kg⟩:=HN (w:=w) (base:=base) T
 refine⟨fd,F.ok1 TF (fun vs H Q E h=>?_) (fun cdv A outer s H vs Q E hr h=>?_),F.binds (by walk_at "b2"),F.kp⟩
 .obtain⟨n,d,rfl,_⟩:=h
  rfl
 .obtain⟨n,d,rfl,k⟩:=h
  refine⟨_,au (aL (Nz (qY CJ (pv 1) aB (bx _)) (NP (qY jf (aA G hr rfl T.oN.glob kg bg .nil bG (aj (bZ Ut rfl T.X6 boot_abs (aj (pv 0) aq)) (aj (pv 1) aq))) aB (bx _))))),?_⟩
  walk_at "rd"
  refine Gy (fun c=>?_) (fun c=>?_)
  .walk_at "rd"
   refine⟨n.natAbs,d,?_,?_⟩
   .have e:(if n<0 then-n else n)=(n.natAbs:Int):=by split<;>omega
    rw[<-e];rfl
   .walk_at "rd"
    have c':0<d:=by omega
    rw[decide_eq_true c',LQ] at k
    have e:decide (V.int (Nat.gcd n.natAbs d:Nat)=V.int 1)=(Nat.gcd n.natAbs d==1):=by
     rw[Hi]
     by_cases z:Nat.gcd n.natAbs d=1
     .rw[z];rfl
     .rw[beq_eq_false_iff_ne.mpr z,beq_eq_false_iff_ne.mpr (by omega)]
    rw[e];exact k
  .have c':¬0<d:=by omega
   rw[decide_eq_false c',GF] at k
   exact k
inductive Y_(vs:List V)(H:Hp)(Q:VK):Prop
 |mk (n:Int) (lq:vs=[.int n]) (hh1:n.natAbs<2^64) (nY:Q (.int (JT n.natAbs)) H)
def acj:Sp:=fun vs H Q _=>Y_ vs H Q
theorem WN(n:Nat):(GJ (toString ((n:Nat):Int))).length=JT n:=by
 rw[TL.Sq,TL.XQ]
 unfold TL.afe JT
 rw[aW]
theorem Z_(T:Txt K mg a):cN w K mg base 1 a.BZ ["number"] acj:=by
 obtain⟨fd,F⟩:=T.DK.fn
 refine⟨fd,F.ok1 aaj (fun vs H Q E h=>?_) (fun cdv A outer s H vs Q E hr h=>?_),F.binds (by walk_at "b1"),F.kp⟩
 .obtain⟨n,rfl,_⟩:=h
  rfl
 .obtain⟨n,rfl,hn,k⟩:=h
  refine⟨_,au (aL (bZ RN rfl T.iR jC (aj (jy RQ rfl T.aaZ boot_str (aj (bZ Ut rfl T.X6 boot_abs (aj (pv 0) aq)) aq)) aq))),?_⟩
  have e:(if n<0 then-n else n)=(n.natAbs:Int):=by split<;>omega
  walk_at "rd"
  rw[e]
  refine⟨?_,_,rfl,?_,?_⟩
  .rw[Int.natAbs_natCast]
   by_cases z:n.natAbs=0
   .rw[z];decide
   .exact wQ ((Nat.log2_lt z).mpr hn) (by decide)
  .have:=TL.abP (n:=n.natAbs) (k:=20) (by decide) (by omega)
   rw[TL.Sq]
   refine cT ?_
   show(TL.tl (GJ (toString ((n.natAbs:Nat):Int)))).length<=_
   rw[TL.XQ];omega
  .have:=WN n.natAbs
   show Q (.int ((GJ (toString ((n.natAbs:Nat):Int))).length:Nat)) H
   rw[this];exact k
end
end Kv
namespace Kv
open Coll CollNeutral
mutual
theorem Ru:∀(v:Value) (d:Nat),(bD d v).length<=(valueN v).length
 | .truth b,d=>by rw[bD,valueN];simp
 | .num n e,d=>by rw[bD,valueN];simp
 | .text t,d=>by rw[bD,valueN];simp
 | .list l,d=>by
  have:=O1 l (d+1)
  rw[bD,valueN];simp;omega
theorem O1:∀(l:List Value) (d:Nat),(fB d l).length<=(valuesN l).length
 |[],d=>by rw[fB,valuesN];exact cF _
 |v::l,d=>by
  have h1:=Ru v d
  have h2:=O1 l d
  rw[fB,valuesN,dN,dN];omega
end
def cur:List (List Value)->List Value->List Value
 |[],vs=>vs
 |f::_,_=>f
def Jc(real:List (List Value)):List (List Value):=match real with
 |[]=>[]
 |f::rs=>f.tail::rs
def WK(real:List (List Value))(gY:List Value):List Value:=match real with
 |[]=>gY.tail
 |_::_=>gY
def Wh(real:List (List Value)):Prop:=∀f rs,real=f::rs->f≠[]
theorem Uw(real:List (List Value)):(Jc real).length=real.length:=by cases real<;>rfl
theorem oJ(v:Value):2<=(valueN v).length:=by
 cases v<;>rw[valueN]<;>simp[bytesN,rowN]
theorem aeH{real:List (List Value)}{gY:List Value}(h:Wh real)(hn:cX real gY≠[]):∃v r,cur real gY=v::r:=by
 cases real with
 |nil=>
  cases gY with
  |nil=>exact absurd (show cX [] []=[] by rw[cX,valuesN]) hn
  |cons v r=>exact⟨v,r,rfl⟩
 |cons f rs=>
  cases f with
  |nil=>exact absurd rfl (h [] rs rfl)
  |cons v r=>exact⟨v,r,rfl⟩
theorem ab'{real:List (List Value)}{gY:List Value}(h:Wh real)(hn:cX real gY=[]):dD real gY=[]:=by
 cases real with
 |nil=>
  cases gY with
  |nil=>rw[dD,fB]
  |cons v r=>
   rw[cX,valuesN] at hn
   have:=oJ v
   rw[(List.append_eq_nil_iff.mp hn).1] at this
   simp at this
 |cons f rs=>
  cases f with
  |nil=>exact absurd rfl (h [] rs rfl)
  |cons v r=>
   rw[cX,valuesN,ud] at hn
   have:=oJ v
   rw[(List.append_eq_nil_iff.mp hn).1] at this
   simp at this
theorem aae{real:List (List Value)}{gY:List Value}{v:Value}{r:List Value}(h:cur real gY=v::r):cX real gY=valueN v++cX (Jc real) (WK real gY):=by
 cases real with
 |nil=>
  have h':gY=v::r:=h
  subst h'
  rw[cX,valuesN]
  show _=valueN v++cX [] r
  rw[cX]
 |cons f rs=>
  have h':f=v::r:=h
  subst h'
  rw[cX,valuesN]
  show _=valueN v++cX (r::rs) gY
  rw[cX,ud]
theorem XF{real:List (List Value)}{gY:List Value}{v:Value}{r:List Value}(h:cur real gY=v::r):dD real gY=bD (real.length+1) v++dD (Jc real) (WK real gY):=by
 cases real with
 |nil=>
  have h':gY=v::r:=h
  subst h'
  rw[dD,fB]
  show _=bD 1 v++dD [] r
  rw[dD]
 |cons f rs=>
  have h':f=v::r:=h
  subst h'
  rw[dD,fB]
  show _=bD (rs.length+2) v++dD (r::rs) gY
  rw[dD,ud]
def push(v:Value)(real:List (List Value)):List (List Value):=match v with
 | .list l=>l::real
 |_=>real
def jE(d:Nat):Value->Gx
 | .truth b=>⟨0,d,[if b=true then 1 else 0]⟩
 | .num n e=>⟨1,d,[n,(e:Int)]⟩
 | .text t=>⟨2,d,jY t⟩
 | .list _=>⟨3,d,[]⟩
def took:Value->Nat
 | .truth _=>2
 | .num _ _=>3
 | .text t=>t.length+2
 | .list _=>2
theorem zG(v:Value):2<=took v:=by cases v<;>simp[took]
theorem XD(v:Value)(real:List (List Value))(gY:List Value):bD (real.length+1) v++dD real gY=jE (real.length+1) v::dD (push v real) gY:=by
 cases v with
 |truth b=>rw[bD];rfl
 |num n e=>rw[bD];rfl
 |text t=>rw[bD];rfl
 |list l=>
  rw[bD]
  show _=_::dD (l::real) gY
  rw[dD]
  simp[jE]
theorem rT(t:List UInt8):(jY t).length=t.length:=by simp[jY]
theorem aad(v:Value)(real:List (List Value))(gY:List Value):(valueN v++cX real gY).drop (took v)=cX (push v real) gY:=by
 cases v with
 |truth b=>rw[valueN];rfl
 |num n e=>rw[valueN];rfl
 |text t=>
  rw[valueN,bytesN,rowN]
  show(2::_::(jY t++cX real gY)).drop (t.length+2)=cX real gY
  rw[X3,X3,List.drop_append_of_le_length (by rw[rT];exact cF _),<-rT,List.drop_length];rfl
 |list l=>
  rw[valueN]
  show valuesN l++cX real gY=cX (l::real) gY
  rw[cX]
theorem abr(v:Value)(d:Nat)(r:List Int):(valueN v++r).getD 0 0=(jE d v).tag:=by
 cases v<;>rw[valueN]<;>rfl
theorem YX{ns:List Int}{i:Nat}{v:Value}{r:List Int}(d:Nat)(h:ns.drop i=valueN v++r):
  i+took v<=ns.length/\ns.getD i 0=(jE d v).tag/\(ns.getD i 0=2\/ns.getD i 0=3->i+1<ns.length)/\
  ∃x:Nat,x<=i+took v/\i<x/\(if ns.getD i 0=0 then((i:Int)+1,(i:Int)+2) else if ns.getD i 0=1 then((i:Int)+1,(i:Int)+3) else if ns.getD i 0=2 then((i:Int)+2,(i:Int)+2+ns.getD (i+1) 0) else((i:Int)+2,(i:Int)+2))=((x:Int),((i+took v:Nat):Int))/\
   (ns.drop x).take (i+took v-x)=(jE d v).own:=by
 have hlen:i+took v<=ns.length:=by
  have h1:=congrArg List.length h
  rw[qm,dN] at h1
  have h2:took v<=(valueN v).length:=by
   cases v with
   |truth b=>rw[valueN];exact cF _
   |num n e=>rw[valueN];exact cF _
   |text t=>rw[valueN];simp[bytesN,rowN,took]
   |list l=>rw[valueN];simp[took]
  have:=zG v
  omega
 have hg:∀j,ns.getD (i+j) 0=(valueN v++r).getD j 0:=fun j=>by
  rw[<-h,JN,JN,Bt]
 have h0:=hg 0
 rw[Nat.add_zero] at h0
 have hd:∀j,ns.drop (i+j)=(valueN v++r).drop j:=fun j=>by rw[<-h,vD]
 have ht:ns.getD i 0=(jE d v).tag:=h0.trans (abr v d r)
 refine⟨hlen,ht,fun _=>by have:=zG v;omega,?_⟩
 cases v with
 |truth b=>
  refine⟨i+1,by simp[took],by omega,by rw[ht];rfl,?_⟩
  rw[hd,valueN,took,show i+2-(i+1)=1 by omega]
  cases b<;>rfl
 |num n e=>
  refine⟨i+1,by simp[took],by omega,by rw[ht];rfl,?_⟩
  rw[hd,valueN,took,show i+3-(i+1)=2 by omega];rfl
 |text t=>
  have h1:ns.getD (i+1) 0=(t.length:Int):=by
   rw[hg 1,valueN,bytesN,rowN,aW];rfl
  refine⟨i+2,by simp[took],by omega,?_,?_⟩
  .rw[ht,h1]
   show((i:Int)+2,(i:Int)+2+(t.length:Int))=_
   rw[took];congr 1
   omega
  .rw[hd,valueN,bytesN,rowN,took,show i+(t.length+2)-(i+2)=t.length by omega]
   show(jY t++r).take t.length=jY t
   rw[<-rT,List.take_left']
   rfl
 |list l=>
  refine⟨i+2,by simp[took],by omega,by rw[ht];rfl,?_⟩
  rw[took,Nat.sub_self,JR];rfl
theorem list_count{ns:List Int}{i:Nat}{l:List Value}{r:List Int}(h:ns.drop i=valueN (.list l)++r):ns[i+1]? =some (l.length:Int):=by
 have:(ns.drop i)[1]? =some (l.length:Int):=by rw[h,valueN];rfl
 rwa [Bt] at this
end Kv
namespace Kv
open PySem PySem.Spec PyProof.Rows L2
theorem adx{X:Cx}:af' X (fun x y H Q=>∃p xs i v,x= .ref p/\y= .int i/\i<0/\bN X.K H p xs/\O_ xs i=some v/\Q v H):=by
 intro pins s σ H x y v u Q I rx ry h
 obtain⟨p,xs,i,z,rfl,rfl,hi,hq,he,q⟩:=h
 cases rx
 obtain⟨t,rfl⟩:=ry
 obtain⟨its,r,pl,hz⟩:=I.list hq
 obtain⟨j,h1,h2,h3,h4,h5⟩:=Ld he
 obtain⟨w,ew,Tr⟩:=r.get h2
 have hl:=r.length
 have hn:=Ft
 have hj:(i+(its.toArray.size:Int)).toNat=j:=by
  rw[seqIndex_neg (by omega) h4] at h1
  rw[iG,<-hl]
  exact dJ h1
 exact wpAny_getItem_list_neg pl.isList (by omega) (by rw[iG]<;>omega) (by omega) (by rw[hj];simpa using ew) ⟨z,H,I,Tr,q⟩
theorem Yo{D:Ends}{σ:L2.St}{H:Hp}{b:Bool}{t:TS}(P:Hp->Prop)(rest:∀H',P H'->D.nx σ H')(h1:(∀H',P H'->D.nx σ H')->b=true->t D σ H)(h2:b=false->P H):if b=true then t D σ H else V9 D σ H:=by
 cases b with
 |true=>exact j4 (h1 rest rfl)
 |false=>exact lG (rest H (h2 rfl))
def J3(H:Hp)(p:Addr):Nat:=match H p with
 |some (.lst xs)=>xs.length
 |_=>0
theorem Hy{H:Hp}{p:Addr}{xs:List V}(h:H p=some (.lst xs)):J3 H p=xs.length:=by unfold J3;rw[h]
theorem afy{X:Cx}:SlR X (fun x lo hi H Q=>∃p xs,x= .ref p/\(bN X.K H p xs\/eV X.K H p xs)/\¬(HT.sW xs.length 0 lo=0/\HT.sW xs.length xs.length hi=xs.length)/\∀q o,H q=none->(o=HO.lst (yZ xs lo hi)\/o=HO.tup (yZ xs lo hi))->Q (.ref q) (L2.upd H q o)):=by
 intro pins s σ H x v vl vu lo hi sl Q I rx hs pl pu h
 obtain⟨p,xs,e,hq,nw,k⟩:=h
 rcases hq with hq|hq
 .exact pQ pins s σ H x v vl vu lo hi sl Q I rx hs pl pu ⟨p,xs,e,hq,fun q hn=>k q _ hn (.inl rfl)⟩
 .exact acg pins s σ H x v vl vu lo hi sl Q I rx hs pl pu ⟨p,xs,e,hq,nw,fun q hn=>k q _ hn (.inr rfl)⟩
def xP(a:Ad)(H0:Hp)(ex:List Addr)(H:Hp)(p:Addr)(s:Gx):Prop:=∃dx o,H p=some (.ins a.uE dx (Yi s.tag s.dep o))/\H o=some (.lst (s.own.map V.int))/\o∉ex/\H0 o=none
theorem Paired.snoc{α β:Type}{F:α->β->Prop}:∀{l:List α} {m:List β} {x:α} {y:β},Paired F l m->F x y->Paired F (l++[x]) (m++[y])
 |_,_,_,_,.nil,h=> .cons h .nil
 |_,_,_,_,.cons r t,h=> .cons r (Paired.snoc t h)
theorem xP.keep{a:Ad}{H0:Hp}{ex:List Addr}{H H':Hp}{p:Addr}{s:Gx}(h:xP a H0 ex H p s)(k:∀b o,H b=some o->b∉ex->H' b=some o)(hx:∀b∈ex,∃xs,H b=some (.lst xs)):xP a H0 ex H' p s:=by
 obtain⟨dx,o,h1,h2,h3⟩:=h
 refine⟨dx,o,k _ _ h1 fun z=>?_,k _ _ h2 h3.1,h3⟩
 obtain⟨xs,e⟩:=hx _ z
 rw[h1] at e;cases e
def pl(real:List (List aQ)):List V:=real.reverse.map fun f=>V.int f.length
theorem Lk(f:List aQ)(rs:List (List aQ)):pl (f::rs)=pl rs++[V.int f.length]:=by simp[pl]
theorem zZ(real:List (List aQ)):(pl real).length=real.length:=by simp[pl]
theorem Vf{α:Type}(xs:List α)(v:α):ixN (xs++[v]).length (-1)=some xs.length:=by
 unfold ixN
 rw[if_neg (by decide),if_pos (by simp;omega)]
 simp
 omega
theorem acf{α:Type}(xs:List α)(v y:α):(xs++[v]).set xs.length y=xs++[y]:=by simp
theorem CP:∀(real:List (List aQ)) (gY:List aQ),real.length<=(dD real gY).length
 |[],_=>j_ _
 |f::rs,gY=>by
  have:=CP rs gY
  rw[dD];simp;omega
section
variable{w:World}{K:bw}{mg:Str->Option Value}{base:Heap}{a:Ad}
inductive aaR(K:bw)(a:Ad)(vs:List V)(H:Hp)(Q:VK):Prop
 |mk (p:Addr) (v:aQ) (lq:vs=[.ref p]) (hh1:SqI K H p (aZ v)) (nY:(aZ v).length<=16000) (hh3:∀(H':Hp) (l:Addr) (as:List Addr),aF H H'->H' l=some (.lst (as.map V.ref))->H l=none->Paired (xP a H [] H') as (bD 1 v)->Q (.ref l) H')
def ad3(K:bw)(a:Ad):Sp:=fun vs H Q _=>aaR K a vs H Q
structure Walk(a:Ad)(H H':Hp)(ls lp:Addr)(as:List Addr)(done:List Gx)(cs:List V):Prop where
 same:aF H H'
 hls:H' ls=some (.lst (as.map V.ref))
 hlp:H' lp=some (.lst cs)
 ne:ls≠lp
 nls:H ls=none
 nlp:H lp=none
 steps:Paired (xP a H [ls,lp] H') as done
variable{H H1 H2:Hp}{ls lp:Addr}{as:List Addr}{done:List Gx}{cs cs2:List V}
theorem Walk.ex(W:Walk a H H1 ls lp as done cs):∀b∈[ls,lp],∃xs,H1 b=some (.lst xs):=fun b hb=>by
 rcases bU.mp hb with rfl|hb
 .exact⟨_,W.hls⟩
 .have:b=lp:=by simpa using hb
  subst this;exact⟨_,W.hlp⟩
theorem Walk.grow(W:Walk a H H1 ls lp as done cs)(e:aF H1 H2):Walk a H H2 ls lp as done cs:=
 ⟨W.same.trans e,e _ _ W.hls,e _ _ W.hlp,W.ne,W.nls,W.nlp,Paired.iM W.steps fun p s h=>h.keep (fun b o q _=>e b o q) W.ex⟩
theorem aF.but{H H1:Hp}{x:Addr}{o:HO}(e:aF H H1)(n:H x=none):aF H (L2.upd H1 x o):=fun b u q=>by
 rw[aD (aJ q n)];exact e b u q
theorem Walk.parts(W:Walk a H H1 ls lp as done cs):Walk a H (L2.upd H1 lp (.lst cs2)) ls lp as done cs2:=
 ⟨aF.but W.same W.nlp,by rw[aD W.ne];exact W.hls,ao,W.ne,W.nls,W.nlp,Paired.iM W.steps fun p s h=>h.keep (fun b o q hb=>by rw[aD (fun z=>hb (by simp[z]))];exact q) W.ex⟩
theorem Walk.step(W:Walk a H H1 ls lp as done cs){x:Addr}{s:Gx}(hx:xP a H [ls,lp] H1 x s):Walk a H (L2.upd H1 ls (.lst (as.map V.ref++[V.ref x]))) ls lp (as++[x]) (done++[s]) cs:=
 ⟨aF.but W.same W.nls,by rw[ao,fP];rfl,by rw[aD W.ne.symm];exact W.hlp,W.ne,W.nls,W.nlp,
  Paired.iM (Paired.snoc W.steps hx) fun p s h=>h.keep (fun b o q hb=>by rw[aD (fun z=>hb (by simp[z]))];exact q) W.ex⟩
theorem Walk.aaW(W:Walk a H H1 ls lp as done cs):as.length=done.length:=W.steps.length
structure Left(v:aQ)(i:Nat)(done:List Gx)(real:List (List aQ))(gY:List aQ):Prop where
 nums:(aZ v).drop i=cX real gY
 all:done++dD real gY=bD 1 v
theorem Left.len{v:aQ}{i:Nat}{real:List (List aQ)}{gY:List aQ}(L:Left v i done real gY):done.length+real.length<=(aZ v).length:=by
 have h2:=congrArg List.length L.all
 rw[dN] at h2
 have h3:=Ru v 1
 have h4:=CP real gY
 omega
end
section
variable{w:World}{K:bw}{mg:Str->Option Value}{base:Heap}{a:Ad}
theorem zx(T:Txt K mg a):cN w K mg base 3 a.lZ ["numbers"] (ad3 K a):=by
 obtain⟨fd,F⟩:=T.mD.fn
 obtain⟨fg,G,bg,kg⟩:=J7 (w:=w) (base:=base) T
 obtain⟨fs,GS,bS,_⟩:=adI (w:=w) (base:=base) T
 refine⟨fd,F.ok1 zB (fun vs H Q E h=>?_) (fun cdv A outer s H vs Q E hr h=>?_),F.binds (by walk_at "b1"),F.kp⟩
 .obtain⟨p,v,rfl,_⟩:=h
  rfl
 .obtain⟨p,v,rfl,hS,hlen,k⟩:=h
  have hr1:cI 1 _:=hr.mono (by decide)
  have nd:=zB.nd
  refine⟨_,ak (aK (i:=1) nd rfl (Or.inl rfl) (bL aq)) (ak (aK (i:=2) nd rfl (Or.inl rfl) (bL aq)) (ak (aK (i:=3) nd rfl (Or.inl rfl) aB)
   (ak (pN own1 (aX Ez (pv 3) (bZ bI rfl T.iR jC (aj (pv 0) aq)) (bx _))
    (ak (aK (i:=4) nd rfl (Or.inl rfl) (aA G hr1 rfl T.wM.glob kg bg .nil bG (aj (pv 0) (aj (pv 3) aq))))
    (ak (cZ (pM jJ vG vH jx (pv 1) (aj (j5 T.dW.Vj GS hr rfl T.dW.glob bS .nil bG
      (aj (bf MJ (pv 0) (pv 3) (fun _ _=>rfl)) (aj (cB dj (bZ bI rfl T.iR jC (aj (pv 2) aq)) aB)
       (aj (jy lD rfl T.xR boot_list (aj (k_ afy (pv 0) (gJ (bf fj (pv 4) aB (fun _ _=>rfl))) (gJ (bf fj (pv 4) aB (fun _ _=>rfl)))) aq)) aq)))) aq)))
    (ak (cJ (aX CJ (bZ bI rfl T.iR jC (aj (pv 2) aq)) aB (bx _)) (au (adN (pv 2) (YB T_ aB) adx aB abC set_list)) bF)
    (ak (cJ (aX jf (bf MJ (pv 0) (pv 3) (fun _ _=>rfl)) (a_ T.vU) (bx _)) (au (cZ (pM jJ vG vH jx (pv 2) (aj (bf MJ (pv 0) (cB dj (pv 3) aB) (fun _ _=>rfl)) aq)))) bF)
    (ak (aK (i:=3) nd rfl (Or.inl rfl) (bf fj (pv 4) aB (fun _ _=>rfl)))
    (au (pN own1 (PW.pt (N8 (aX CJ (bZ bI rfl T.iR jC (aj (pv 2) aq)) aB (bx _)) (Ie (aX jf (bf aU (pv 2) (YB T_ aB) (fun _ _=>rfl)) aB (bx _)))))
     (ak (cZ (afn jJ PySem.F.slot_list_pop PySem.F.type_list_pop afa (pv 2)))
     (au (cZ (pM jJ vG vH jx (pv 1) (aj (j5 T.dW.Vj GS hr rfl T.dW.glob bS .nil bG
      (aj (a_ T.vV) (aj (cB dj (bZ bI rfl T.iR jC (aj (pv 2) aq)) aB) (aj (bL aq) aq)))) aq)))))))))))))
   (au (aL (pv 1)))))),?_⟩
  refine⟨len0,fun ls hls=>⟨len0,fun lp hlp=>?_⟩⟩
  have nel:ls≠lp:=fun z=>by rw[<-z,ao] at hlp;cases hlp
  have agl:H lp=none:=by rw[aD nel.symm] at hlp;exact hlp
  have W0:Walk a H (L2.upd (L2.upd H ls (.lst [])) lp (.lst (pl []))) ls lp [] [] (pl []):=⟨aF.but (aF.upd hls) agl,by rw[aD nel,ao];rfl,ao,nel,hls,agl,.nil⟩
  refine pP (fun σ H'=>∃(i:Nat) (as:List Addr) (done:List Gx) (real:List (List aQ)) (gY:List aQ) (v4:Option V),σ=[some (.ref p),some (.ref ls),some (.ref lp),some (.int i),v4]/\Walk a H H' ls lp as done (pl real)/\Left v i done real gY/\Wh real)
   (fun σ _=>(aZ v).length-Bl σ 3) ⟨0,[],[],[],[v],none,rfl,W0,⟨by rw[cX,jA,jA];simp,by rw[dD,fB,fB];simp⟩,fun f rs z=>by cases z⟩ ?_ ?_
  .rintro σ H1 ⟨i,as,done,real,gY,v4,rfl,W,L,hh⟩
   have hS1:=hS.same W.same
   walk_at "rd"
   refine⟨p,_,rfl,hS1,?_⟩
   walk_at "rd"
   refine Gy (fun c=>?_) (fun c=>?_)
   .have hi:i<(aZ v).length:=by
     have c':(i:Int)<(((aZ v).map V.int).length:Nat):=c
     rw[aW] at c';omega
    have hne:cX real gY≠[]:=by
     rw[<-L.nums];intro z
     have:=congrArg List.length z
     rw[qm] at this;simp at this;omega
    obtain⟨v0,r0,hc⟩:=aeH hh hne
    have hN:=L.nums.trans (aae hc)
    have hA:=XF hc
    obtain⟨s1,s2,s3,x,hx,hx1,ago,hown⟩:=YX (real.length+1) hN
    have tp:=zG v0
    walk_at "rd"
    refine⟨p,aZ v,i,rfl,hS1,hi,fun z=>s3 (.inl z),fun H2 t e2 ht=>?_⟩
    have hsp:spanOf (aZ v) i=((x:Int),((i+took v0:Nat):Int)):=ago
    rw[hsp] at ht
    have W2:=W.grow e2
    have hS2:=hS1.same e2
    have e0:(aZ v)[i]? =some ((aZ v).getD i 0):=by rw[JN,pF hi];rfl
    have aok:yZ ((aZ v).map V.int) (some (x:Int)) (some ((i+took v0:Nat):Int))=(jE (real.length+1) v0).own.map V.int:=by
     unfold yZ
     rw[HT.rB,HT.rB,aW,zL s1,zL (mR hx s1),<-List.map_drop,<-List.map_take,hown]
    refine⟨_,rfl,.inl ⟨rfl,_,bN.of W2.hls⟩,?_⟩
    refine⟨_,rfl,_,rfl,N_ hS2 rfl e0 ?_⟩
    refine⟨_,rfl,lp,_,rfl,.inl (bN.of W2.hlp),_,_,rfl,rfl,?_⟩
    refine⟨_,rfl,_,rfl,t,_,0,_,rfl,rfl,eV.of ht,rfl,_,rfl,_,rfl,t,_,1,_,rfl,rfl,eV.of ht,rfl,_,rfl,?_⟩
    refine⟨p,_,rfl,hS2,?_,fun q oq hq hoq=>?_⟩
    .rintro⟨z,_⟩
     rw[HT.rB,aW,zL (mR hx s1)] at z
     omega
    .rw[aok] at hoq
     have hq3:bN K (L2.upd H2 q oq) q ((jE (real.length+1) v0).own.map V.int)\/eV K (L2.upd H2 q oq) q ((jE (real.length+1) v0).own.map V.int):=by
      rcases hoq with rfl|rfl
      .exact .inl (bN.of ao)
      .exact .inr (eV.of ao)
     refine⟨q,_,rfl,hq3,fun o ho=>fun y dy n1 n2 n3=>made n1 n2 rfl trivial fun H5 e5 ob=>⟨rfl,?_⟩⟩
     have e24:aF H2 (L2.upd (L2.upd H2 q oq) o (.lst ((jE (real.length+1) v0).own.map V.int))):=(aF.upd hq).trans (aF.upd ho)
     have W5:=W2.grow (e24.trans e5)
     have aol:(((pl real).length:Nat):Int)+1=(jE (real.length+1) v0).dep:=by
      rw[zZ];cases v0<;>rfl
     have no:∀b∈[ls,lp],o≠b:=fun b hb z=>by
      subst z
      obtain⟨xs,hxs⟩:=W2.ex o hb
      rw[aF.upd hq o _ hxs] at ho;cases ho
     have st:xP a H [ls,lp] H5 y (jE (real.length+1) v0):=by
      obtain⟨dz,hz⟩:=ob
      refine⟨dz,o,?_,e5 _ _ ao,fun hb=>no o hb rfl,aF.free (W2.same.trans (aF.upd hq)) ho⟩
      rw[<-s2,<-aol];exact hz
     have W6:=W5.step st
     have t5:H5 t=some (.tup [.int (x:Int),.int ((i+took v0:Nat):Int)]):=e5 _ _ (e24 _ _ ht)
     have tls:t≠ls:=vX t5 W5.hls (by intro z;cases z)
     have tlp:t≠lp:=vX t5 W5.hlp (by intro z;cases z)
     have hl:=L.len
     have al:=W.aaW
     refine⟨ls,_,_,rfl,rfl,W5.hls,fX (by rw[aW];omega),?_⟩
     have hS6:∀{H':Hp},Walk a H H' ls lp (as++[y]) (done++[jE (real.length+1) v0]) (pl real)->SqI K H' p (aZ v):=fun W'=>hS.same W'.same
     refine⟨_,rfl,lp,_,rfl,.inl (bN.of W6.hlp),_,_,rfl,rfl,_,rfl,Yo (fun H7=>Walk a H H7 ls lp (as++[y]) (done++[jE (real.length+1) v0]) (pl (Jc real))/\H7 t=some (.tup [.int (x:Int),.int ((i+took v0:Nat):Int)])) (fun H7 h7=>?_) (fun nx c3=>?_) (fun c3=>?_)⟩
     .obtain⟨W7,t7⟩:=h7
      have hS7:=hS.same W7.same
      refine⟨_,rfl,_,rfl,N_ hS7 rfl e0 ⟨rfl,_,rfl,Yo (fun H8=>Walk a H H8 ls lp (as++[y]) (done++[jE (real.length+1) v0]) (pl (push v0 (Jc real)))/\H8 t=some (.tup [.int (x:Int),.int ((i+took v0:Nat):Int)])) (fun H8 h8=>?_) (fun nx c4=>?_) (fun c4=>?_)⟩⟩
      .obtain⟨W8,t8⟩:=h8
       refine⟨_,rfl,t,_,1,_,rfl,rfl,eV.of t8,rfl,?_⟩
       have L8:Left v (i+took v0) (done++[jE (real.length+1) v0]) (push v0 (Jc real)) (WK real gY):=by
        refine⟨?_,?_⟩
        .rw[<-vD,hN,aad]
        .have:=XD v0 (Jc real) (WK real gY)
         rw[Uw] at this
         rw[ud,List.singleton_append,<-this,<-hA];exact L.all
       refine pP (fun σ H'=>∃(as2:List Addr) (Mp:List Gx) (Oa:List (List aQ)),σ=[some (.ref p),some (.ref ls),some (.ref lp),some (.int ((i+took v0:Nat):Int)),some (.ref t)]/\Walk a H H' ls lp as2 Mp (pl Oa)/\Left v (i+took v0) Mp Oa (WK real gY))
        (fun _ H'=>J3 H' lp) ⟨_,_,_,rfl,W8,L8⟩ ?_ ?_
       .rintro σ H9 ⟨as2,Mp,Oa,rfl,W9,L9⟩
        refine⟨_,rfl,lp,_,rfl,.inl (bN.of W9.hlp),_,_,rfl,rfl,_,rfl,Gy (fun c5=>?_) (fun c5=>?_)⟩
        .have c5':(0:Int)<((pl Oa).length:Nat):=c5
         rw[zZ] at c5'
         match Oa,W9,L9,c5' with
         |f::rs,W9,L9,_=>
          have h9:=W9.hlp
          rw[Lk] at h9
          refine⟨_,rfl,_,rfl,lp,_,_,_,rfl,rfl,bN.of h9,G9 _ _,rfl,_,rfl,Iu (fun c6=>?_) (fun c6=>?_)⟩
          .have hf:f=[]:=List.length_eq_zero_iff.mp (by omega)
           subst hf
           refine⟨_,rfl,.inl ⟨rfl,_,bN.of W9.hlp⟩,lp,_,_,rfl,rfl,h9,(by simp;rfl),?_⟩
           rw[List.dropLast_concat]
           have W10:Walk a H (L2.upd H9 lp (.lst (pl rs))) ls lp as2 Mp (pl rs):=W9.parts
           refine⟨_,rfl,.inl ⟨rfl,_,bN.of W10.hls⟩,_,rfl,lp,_,rfl,.inl (bN.of W10.hlp),_,_,rfl,rfl,len0,fun o2 ho2=>fun y2 dy2 m1 m2 m3=>made m1 m2 rfl trivial fun H11 e11 ob2=>⟨rfl,?_⟩⟩
           have W11:=W10.grow ((aF.upd ho2).trans e11)
           have no2:∀b∈[ls,lp],o2≠b:=fun b hb z=>by
            subst z
            obtain⟨xs,hxs⟩:=W10.ex o2 hb
            rw[hxs] at ho2;cases ho2
           have st2:xP a H [ls,lp] H11 y2 ⟨4,(rs.length:Int)+1,[]⟩:=by
            obtain⟨dz,hz⟩:=ob2
            refine⟨dz,o2,?_,e11 _ _ ao,fun hb=>no2 o2 hb rfl,aF.free W10.same ho2⟩
            rw[<-zZ rs];exact hz
           have l9:=L9.len
           have a9:=W9.aaW
           refine⟨ls,_,_,rfl,rfl,W11.hls,fX (by rw[aW];omega),?_⟩
           have W12:=W11.step st2
           refine⟨⟨as2++[y2],Mp++[⟨4,(rs.length:Int)+1,[]⟩],rs,rfl,W12,?_,?_⟩,?_⟩
           .have:=L9.nums
            rw[cX,jA,List.nil_append] at this;exact this
           .have:=L9.all
            rw[dD,fB,List.nil_append] at this
            rw[ud,List.singleton_append];exact this
           .show J3 _ lp<J3 H9 lp
            rw[Hy W12.hlp,Hy W9.hlp,zZ,zZ]
            exact Ug _
          .refine⟨⟨i+took v0,as2,Mp,f::rs,WK real gY,_,rfl,W9,L9,fun f' rs' z=>?_⟩,?_⟩
           .injection z with z1 z2
            subst z1
            intro hf
            exact c6 (by rw[hf];rfl)
           .show(aZ v).length-((i+took v0:Nat):Int).toNat<(aZ v).length-(i:Int).toNat
            omega
        .have c5':¬(0:Int)<((pl Oa).length:Nat):=c5
         rw[zZ] at c5'
         cases Oa with
         |cons f rs=>exfalso;simp at c5'
         |nil=>
          refine lG ⟨⟨i+took v0,as2,Mp,[],WK real gY,_,rfl,W9,L9,fun f rs z=>by cases z⟩,?_⟩
          show(aZ v).length-((i+took v0:Nat):Int).toNat<(aZ v).length-(i:Int).toNat
          omega
       .rintro σ H' Q1 Q2 h ⟨v1,e1,p1,ys,e3,e4,i1,j1,e5,e6,b,e7,q⟩
        refine⟨v1,e1,p1,ys,e3,e4,i1,j1,e5,e6,b,e7,?_⟩
        cases b with
        |false=>exact lG (h _ _ (by simpa using q))
        |true=>
         have q':=q
         rw[if_pos rfl] at q'
         refine j4 ?_
         obtain⟨v1,e1,v2,e2,p1,ys,i1,z1,e3,e4,e5,e6,e7,b,e8,q⟩:=q'
         exact⟨v1,e1,v2,e2,p1,ys,i1,z1,e3,e4,e5,e6,e7,b,e8,h _ _ q⟩
      .have c4':(aZ v).getD i 0=3:=El.mp (of_decide_eq_true c4)
       have hv:∃l,v0= .list l:=by
        rw[s2] at c4'
        cases v0 with
        |truth b=>cases c4'
        |num n e=>cases c4'
        |text tt=>cases c4'
        |list l=>exact⟨l,rfl⟩
       obtain⟨l,rfl⟩:=hv
       refine⟨_,rfl,.inl ⟨rfl,_,bN.of W7.hlp⟩,_,rfl,_,rfl,_,_,rfl,rfl,N_ hS7 (j:=i+1) (by omega) (list_count hN) ⟨lp,_,_,rfl,rfl,W7.hlp,fX (by rw[zZ,Uw];omega),nx _ ⟨?_,?_⟩⟩⟩
       .have e8:pl (Jc real)++[V.int (l.length:Nat)]=pl (push (.list l) (Jc real)):=(Lk l (Jc real)).symm
        rw[e8];exact W7.parts
       .rw[aD tlp];exact t7
      .have c4':¬(aZ v).getD i 0=3:=fun z=>of_decide_eq_false c4 (El.mpr z)
       have e8:push v0 (Jc real)=Jc real:=by
        rw[s2] at c4'
        cases v0 with
        |truth b=>rfl
        |num n e=>rfl
        |text tt=>rfl
        |list l=>exact absurd rfl c4'
       rw[e8]
       exact⟨W7,t7⟩
     .have c3':(0:Int)<((pl real).length:Nat):=of_decide_eq_true c3
      rw[zZ] at c3'
      match real,hh,W6,c3',nx with
      |f::rs,hh,W6,_,nx=>
       have hf:=hh f rs rfl
       have h6:=W6.hlp
       rw[Lk] at h6
       refine⟨_,rfl,_,rfl,lp,_,_,_,rfl,rfl,(by decide),bN.of h6,G9 _ _,_,_,rfl,rfl,lp,_,_,_,rfl,rfl,h6,Vf _ _,nx _ ⟨?_,?_⟩⟩
       .have e7:(pl rs++[V.int (f.length:Nat)]).set (pl rs).length (V.int ((f.length:Nat)-1:Int))=pl (Jc (f::rs)):=by
         rw[acf]
         show _=pl (f.tail::rs)
         rw[Lk,List.length_tail]
         cases f with
         |nil=>exact absurd rfl hf
         |cons u us=>congr 2;simp
        rw[<-e7];exact W6.parts
       .rw[aD tlp,aD tls];exact t5
     .have c3':¬(0:Int)<((pl real).length:Nat):=of_decide_eq_false c3
      rw[zZ] at c3'
      cases real with
      |nil=>exact⟨W6,by rw[aD tls];exact t5⟩
      |cons f rs=>exfalso;simp at c3'
   .have hi:¬i<(aZ v).length:=fun z=>c (by show(i:Int)<(((aZ v).map V.int).length:Nat);rw[aW];omega)
    have hz:dD real gY=[]:=ab' hh (by rw[<-L.nums,List.drop_eq_nil_of_le (by omega)])
    have hd:done=bD 1 v:=by
     have:=L.all
     rw[hz,vI] at this;exact this
    walk_at "rd"
    refine k H1 ls as W.same W.hls W.nls (hd▸Paired.iM W.steps fun q s h=>?_)
    obtain⟨dx,o,h1,h2,_,h4⟩:=h
    exact⟨dx,o,h1,h2,by simp,h4⟩
  .rintro σ H' Q1 Q2 h ⟨v1,e1,v2,e2,p1,ys,e3,e4,i1,j1,e5,e6,b,e7,q⟩
   exact⟨v1,e1,v2,e2,p1,ys,e3,e4,i1,j1,e5,e6,b,e7,h _ _ q⟩
end
end Kv
namespace Kv
open Coll CollNeutral
mutual
theorem Ri:∀(v:Value) (d:Nat) (s:Gx),s∈bD d v->s.tag=1->∃(n:Int) (e:Nat),s.own=[n,(e:Int)]/\n∈valueN v/\(e:Int)∈valueN v
 | .truth b,d,s,h,ht=>by rw[bD] at h;simp at h;subst h;cases ht
 | .num n e,d,s,h,ht=>by
  rw[bD] at h;simp at h;subst h
  exact⟨n,e,rfl,by rw[valueN];simp,by rw[valueN];simp⟩
 | .text t,d,s,h,ht=>by rw[bD] at h;simp at h;subst h;cases ht
 | .list l,d,s,h,ht=>by
  rw[bD] at h
  rcases bU.mp h with rfl|h
  .cases ht
  .rcases j9.mp h with h|h
   .obtain⟨n,e,h1,h2,h3⟩:=M6 l (d+1) s h ht
    exact⟨n,e,h1,by rw[valueN];exact dU _ (dU _ h2),by rw[valueN];exact dU _ (dU _ h3)⟩
   .simp at h;subst h;cases ht
theorem M6:∀(l:List Value) (d:Nat) (s:Gx),s∈fB d l->s.tag=1->∃(n:Int) (e:Nat),s.own=[n,(e:Int)]/\n∈valuesN l/\(e:Int)∈valuesN l
 |[],d,s,h,ht=>by rw[fB] at h;cases h
 |v::l,d,s,h,ht=>by
  rw[fB] at h
  rcases j9.mp h with h|h
  .obtain⟨n,e,h1,h2,h3⟩:=Ri v d s h ht
   exact⟨n,e,h1,by rw[valuesN];exact Bw _ h2,by rw[valuesN];exact Bw _ h3⟩
  .obtain⟨n,e,h1,h2,h3⟩:=M6 l d s h ht
   exact⟨n,e,h1,by rw[valuesN];exact iD _ h2,by rw[valuesN];exact iD _ h3⟩
end
mutual
theorem Td:∀(v:Value) (d:Nat) (s:Gx),s∈bD d v->s.own.length<=(valueN v).length
 | .truth b,d,s,h=>by rw[bD] at h;simp at h;subst h;rw[valueN];simp
 | .num n e,d,s,h=>by rw[bD] at h;simp at h;subst h;rw[valueN];simp
 | .text t,d,s,h=>by rw[bD] at h;simp at h;subst h;rw[valueN];simp[bytesN,rowN,rT];omega
 | .list l,d,s,h=>by
  rw[bD] at h
  rcases bU.mp h with rfl|h
  .exact j_ _
  .rcases j9.mp h with h|h
   .have:=Vy l (d+1) s h
    rw[valueN];simp;omega
   .simp at h;subst h;exact j_ _
theorem Vy:∀(l:List Value) (d:Nat) (s:Gx),s∈fB d l->s.own.length<=(valuesN l).length
 |[],d,s,h=>by rw[fB] at h;cases h
 |v::l,d,s,h=>by
  rw[fB] at h
  rw[valuesN,dN]
  rcases j9.mp h with h|h
  .have:=Td v d s h;omega
  .have:=Vy l d s h;omega
end
mutual
theorem Jb (sh:Bool):∀v:Value,(codes sh v).length<=(valueN v).length
 | .truth b=>by rw[codes,valueN];simp
 | .num n e=>by rw[codes,valueN];simp
 | .text t=>by
  rw[codes,valueN]
  split<;>simp[bytesN,rowN,rT]
 | .list l=>by
  have:=Mf sh l
  rw[codes,valueN];simp;omega
theorem Mf (sh:Bool):∀l:List Value,(mZ sh l).length<=(valuesN l).length
 |[]=>by rw[mZ,valuesN];exact cF _
 |v::l=>by
  have h1:=Jb sh v
  have h2:=Mf sh l
  rw[mZ,valuesN,dN,dN];omega
end
theorem Ny{α β:Type}(f:α->List β){l:List α}{i:Nat}{x:α}(h:l[i]? =some x):((l.take i).flatMap f).length+(f x).length<=(l.flatMap f).length/\(l.take (i+1)).flatMap f=(l.take i).flatMap f++f x:=by
 have e:(l.take (i+1)).flatMap f=(l.take i).flatMap f++f x:=by
  rw[mY,h,LC];simp
 refine⟨?_,e⟩
 have e2:l.flatMap f=(l.take (i+1)).flatMap f++(l.drop (i+1)).flatMap f:=by rw[<-LC,LK]
 rw[e2,e,dN,dN];omega
def tR(ns:List Int):Prop:=∀z∈ns,-9223372036854775808<=z/\z<=9223372036854775807
theorem xG{v:Value}(h:tR (valueN v)){d:Nat}{s:Gx}(hs:s∈bD d v)(ht:s.tag=1):∃(n:Int) (e:Nat),s.own=[n,(e:Int)]/\n.natAbs<2^64/\e<9223372036854775808:=by
 obtain⟨n,e,h1,h2,h3⟩:=Ri v d s hs ht
 have a:=h _ h2
 have b:=h _ h3
 exact⟨n,e,h1,by omega,by omega⟩
mutual
theorem aa7:∀{v:Value},tR (valueN v)->proper v=true->QH v
 | .truth b,_,_=>by simp[QH]
 | .num n e,h,hp=>by
  rw[QH]
  rw[proper,lB,decide_eq_true_iff] at hp
  have:=h (e:Int) (by rw[valueN];simp)
  exact⟨hp.1,by omega⟩
 | .text t,_,_=>by simp[QH]
 | .list l,h,hp=>by
  rw[QH]
  rw[proper] at hp
  exact Yb (fun z hz=>h z (by rw[valueN];exact dU _ (dU _ hz))) hp
theorem Yb:∀{l:List Value},tR (valuesN l)->propers l=true->Uv l
 |[],_,_=>by rw[Uv];exact trivial
 |v::l,h,hp=>by
  rw[propers,lB] at hp
  rw[Uv]
  exact⟨aa7 (fun z hz=>h z (by rw[valuesN];exact Bw _ hz)) hp.1,Yb (fun z hz=>h z (by rw[valuesN];exact iD _ hz)) hp.2⟩
end
end Kv
namespace Kv
open PySem PySem.Spec PyProof.Rows L2
section
variable{w:World}{K:bw}{mg:Str->Option Value}{base:Heap}{a:Ad}
def aek(s:Gx):Prop:=s.tag=1->∃(n:Int) (e:Nat),s.own=[n,(e:Int)]/\n.natAbs<2^64/\e<9223372036854775808
inductive Zi(a:Ad)(vs:List V)(H:Hp)(Q:VK):Prop
 |mk (p:Addr) (s:Gx) (H0:Hp) (lq:vs=[.ref p]) (hh1:xP a H0 [] H p s) (nY:s.own.length<=16000) (hh3:aek s) (wO:Q (.int (wJ s)) H)
def acv(a:Ad):Sp:=fun vs H Q _=>Zi a vs H Q
theorem Nq(T:Txt K mg a):cN w K mg base 2 a.pL ["step"] (acv a):=by
 obtain⟨fd,F⟩:=T.tY.fn
 obtain⟨fg,G,bg,kg⟩:=Z_ (w:=w) (base:=base) T
 refine⟨fd,F.ok1 Ox (fun vs H Q E h=>?_) (fun cdv A outer s H vs Q E hr h=>?_),F.binds (by walk_at "b1"),F.kp⟩
 .obtain⟨p,s,H0,rfl,_⟩:=h
  rfl
 .obtain⟨p,st,H0,rfl,⟨dx,o,h1,h2,_⟩,hl,hn,k⟩:=h
  refine⟨_,ak (cJ (aX jf (aG (pv 0) rfl) (a_ T.nZ) (bx _)) (au (aL (cB dj
    (aA G hr rfl T.DK.glob kg bg .nil bG (aj (bf aU (aG (pv 0) rfl) aB (fun _ _=>rfl)) aq))
    (aA G hr rfl T.DK.glob kg bg .nil bG (aj (bf aU (aG (pv 0) rfl) aB (fun _ _=>rfl)) aq))))) bF)
   (ak (cJ (aX jf (aG (pv 0) rfl) (a_ T.Ck) (bx _)) (au (aL (cB dj (bZ bI rfl T.iR jC (aj (aG (pv 0) rfl) aq)) aB))) bF)
   (ak (cJ (aX jf (aG (pv 0) rfl) (a_ T.vV) (bx _)) (au (aL aB)) bF)
   (au (aL aB)))),?_⟩
  refine⟨_,rfl,p,_,dx,_,_,rfl,h1,T.dW.cl,T.fL,kJ,rfl,_,rfl,Iu (fun c=>?_) (fun c=>?_)⟩
  .obtain⟨n,e,ho,hn1,hn2⟩:=hn c
   rw[ho] at h2
   refine⟨_,rfl,p,_,dx,_,_,rfl,h1,T.dW.cl,T.d7,iU,o,_,0,_,rfl,rfl,bN.of h2,rfl,n,rfl,hn1,?_⟩
   refine⟨_,rfl,p,_,dx,_,_,rfl,h1,T.dW.cl,T.d7,iU,o,_,1,_,rfl,rfl,bN.of h2,rfl,(e:Int),rfl,by omega,_,_,rfl,rfl,?_⟩
   have e1:((wJ st:Nat):Int)=(JT n.natAbs:Int)+(JT (e:Int).natAbs:Int):=by
    unfold wJ
    rw[if_pos c,ho];rfl
   rw[e1] at k;exact k
  .refine⟨_,rfl,p,_,dx,_,_,rfl,h1,T.dW.cl,T.fL,kJ,rfl,_,rfl,Iu (fun c1=>?_) (fun c1=>?_)⟩
   .refine⟨_,rfl,p,_,dx,_,_,rfl,h1,T.dW.cl,T.d7,iU,o,_,rfl,.inl (bN.of h2),_,_,rfl,rfl,?_⟩
    have e1:((wJ st:Nat):Int)=((st.own.map V.int).length:Int)+1:=by
     unfold wJ
     rw[if_neg c,if_pos c1,aW];rfl
    rw[e1] at k;exact k
   .refine⟨_,rfl,p,_,dx,_,_,rfl,h1,T.dW.cl,T.fL,kJ,rfl,_,rfl,Iu (fun c2=>?_) (fun c2=>?_)⟩
    .have e1:wJ st=0:=by unfold wJ;rw[if_neg c,if_neg c1,if_pos c2]
     rw[e1] at k;exact k
    .have e1:wJ st=1:=by unfold wJ;rw[if_neg c,if_neg c1,if_neg c2]
     rw[e1] at k;exact k
end
end Kv
namespace Kv
open Coll CollNeutral
def maxD(l:List Gx):Int:=l.foldl (fun d s=>if s.dep>d then s.dep else d) 0
theorem Z5{l:List Gx}{i:Nat}{s:Gx}(h:l[i]? =some s):maxD (l.take (i+1))=if s.dep>maxD (l.take i) then s.dep else maxD (l.take i):=by
 unfold maxD
 rw[mY,h,List.foldl_append];rfl
theorem fold_max(m:Int):∀(l:List Gx) (d:Int),l.foldl (fun d s=>if s.dep>d then s.dep else d) d<=m↔d<=m/\∀s∈l,s.dep<=m
 |[],d=>by simp
 |x::r,d=>by
  rw[List.foldl_cons,fold_max m r]
  constructor
  .rintro⟨h1,h2⟩
   refine⟨by split at h1<;>omega,fun s hs=>?_⟩
   rcases bU.mp hs with e|hs
   .subst e;split at h1<;>omega
   .exact h2 s hs
  .rintro⟨h1,h2⟩
   have:=h2 x fY
   exact⟨by split<;>omega,fun s hs=>h2 s (dU _ hs)⟩
theorem Xm(v:Value):maxD (bD 1 v)=(depth v:Int):=by
 have h0:(0:Int)<=maxD (bD 1 v):=((fold_max (maxD (bD 1 v)) (bD 1 v) 0).mp (Int.le_refl _)).1
 have key:∀m:Nat,maxD (bD 1 v)<=(m:Int)↔depth v<=m:=fun m=>by
  unfold maxD
  rw[fold_max]
  have:=Mi m v 0
  rw[Nat.zero_add] at this
  rw[this]
  constructor
  .rintro⟨_,h⟩;omega
  .intro h;exact⟨by omega,by omega⟩
 have k1:=(key (maxD (bD 1 v)).toNat).mp (by omega)
 have k2:=(key (depth v)).mpr (cF _)
 omega
end Kv
namespace Kv
open PySem PySem.Spec PyProof.Rows L2
theorem boot_max:bootBuiltins "max"=some (.builtin "max"):=by decide+kernel
abbrev oK(H:Hp)(t:Addr)(ns:List Int):Prop:=H t=some (.tup (ns.map V.int))
section
variable{w:World}{K:bw}{mg:Str->Option Value}{base:Heap}{a:Ad}
inductive aet(a:Ad)(H:Hp)(x:Addr)(v:aQ):Prop
 |mk (n:_) (lq:Ob H x a.mQ (fValue n (Coll.depth v) (iK v))) (hh1:H n=some (.tup ((aZ v).map V.int)))
def wR(a:Ad)(H:Hp)(x:Addr)(v:aQ):Prop:=aet a H x v
def SqV(K:bw)(H:Hp)(p:Addr)(ns:List Int):Prop:=bN K H p (ns.map V.int)\/oK H p ns
theorem SqV.sq{H:Hp}{p:Addr}{ns:List Int}(h:SqV K H p ns):SqI K H p ns:=h.elim .inl fun z=> .inr (eV.of z)
inductive aaN(K:bw)(a:Ad)(vs:List V)(H:Hp)(Q:VK)(E:XK):Prop
 |mk (p:Addr) (v:aQ) (lq:vs=[.ref p]) (hh1:SqV K H p (aZ v)) (nY:(aZ v).length<=16000) (hh3:tR (aZ v)) (wO:(mW v=false->∀H',aF H H'->E (.ref a.gb) none H')) (Eo:(mW v=true->∀(H':Hp) (x:Addr),aF H H'->wR a H' x v->Q (.ref x) H'))
def YW(K:bw)(a:Ad):Sp:=fun vs H Q E=>aaN K a vs H Q E
theorem afw{c:TT}{t u:TS}{D:Ends}{σ:L2.St}{H:Hp}(rest:u D σ H)(h:u D σ H->c σ H fun b H1=>if b=true then t {D with nx:=u D} σ H1 else u D σ H1):aav (ad8 c t V9) u D σ H:=h rest
theorem adF{v:aQ}{s:Gx}(hs:s∈bD 1 v)(h:jo s=false):mW v=false:=by
 rw[<-D_ v 1,<-uV,wU]
 intro z
 rw[z s hs] at h;cases h
theorem yj(T:Txt K mg a):cN w K mg base 4 a.qN ["numbers"] (YW K a):=by
 obtain⟨fd,F⟩:=T.oW.fn
 obtain⟨f1,G1,b1,k1⟩:=zx (w:=w) (base:=base) T
 obtain⟨f2,G2,b2,k2⟩:=S7 (w:=w) (base:=base) T
 obtain⟨f3,G3,b3,k3⟩:=Nq (w:=w) (base:=base) T
 obtain⟨f4,G4,b4,_⟩:=abR (w:=w) (base:=base) T
 refine⟨fd,F.ok1 Fe (fun vs H Q E h=>?_) (fun cdv A outer s H vs Q E hr h=>?_),F.binds (by walk_at "b1"),F.kp⟩
 .obtain⟨p,v,rfl,_⟩:=h
  rfl
 .obtain⟨p,v,rfl,hS,hlen,hsm,kE,kQ⟩:=h
  have hr2:cI 2 _:=hr.mono (by decide)
  have nd:=Fe.nd
  refine⟨_,ak (aK (i:=1) nd rfl (Or.inl rfl) aB) (ak (aK (i:=2) nd rfl (Or.inl rfl) aB)
   (ak (qZ own1 rfl (iQ (aA G1 hr rfl T.mD.glob k1 b1 .nil bG (aj (pv 0) aq))) (gH (i:=3) nd rfl (Or.inl rfl))
    (ak (cJ (PW.pt (N8 (aX jf (aG (pv 3) rfl) (a_ T.nZ) (bx _)) (Ie (yp (vY (aA G2 hr2 rfl T.xJ.glob k2 b2 .nil bG
      (aj (bf aU (aG (pv 3) rfl) aB (fun _ _=>rfl)) (aj (bf aU (aG (pv 3) rfl) aB (fun _ _=>rfl)) aq)))))))) (au (jg T.oM rfl)) bF)
    (ak (aK (i:=1) nd rfl (Or.inl rfl) (bZ (Zt rfl) rfl T.aaY boot_max (aj (pv 1) (aj (aG (pv 3) rfl) aq))))
    (au (XC (i:=2) nd rfl (Or.inl rfl) (aA G3 hr2 rfl T.tY.glob k3 b3 .nil bG (aj (pv 3) aq)) abB)))))
   (au (aL (j5 T.d8.Vj G4 hr2 rfl T.d8.glob b4 .nil bG (aj (jy xV rfl T.G_ boot_tuple (aj (pv 0) aq)) (aj (pv 1) (aj (pv 2) aq)))))))),?_⟩
  refine⟨_,rfl,p,v,rfl,hS.sq,hlen,fun H1 l as e1 hl hnl hp=>?_⟩
  refine⟨l,rfl,⟨_,bN.of hl⟩,kZ (K:=K) (a:=l) (xs:=as.map V.ref) (fun i σ H'=>∃v2:Option V,σ=[some (.ref p),some (.int (maxD ((bD 1 v).take i))),some (.int (Gj ((bD 1 v).take i))),v2]/\H'=H1/\∀s∈(bD 1 v).take i,jo s=true)
   ⟨none,rfl,rfl,fun s hs=>by simp at hs⟩ (fun i σ H' _ ⟨_,_,e,_⟩=>e▸bN.of hl) ?_ ?_⟩
  .rintro i x σ H' hi ⟨v2,rfl,rfl,hall⟩
   obtain⟨q,hq,rfl⟩:∃q,as[i]? =some q/\x=V.ref q:=by
    rw[gw] at hi
    cases e:as[i]? with
    |none=>rw[e] at hi;cases hi
    |some z=>rw[e] at hi;exact⟨z,rfl,(dJ hi).symm⟩
   obtain⟨st,hst,hAt⟩:=cD hp hq
   have mem:st∈bD 1 v:=fZ hst
   obtain⟨dx,o,h1,h2,hno⟩:=hAt
   have ol:=Td v 1 st mem
   have rest:jo st=true->∀s∈(bD 1 v).take (i+1),jo s=true:=fun hlow s hs=>by
    rw[mY,hst] at hs
    rcases j9.mp hs with hs|hs
    .exact hall s hs
    .have:s=st:=by simpa using hs
     subst this
     exact hlow
   have tk:Gj ((bD 1 v).take (i+1))=Gj ((bD 1 v).take i)+wJ st:=by
    rw[mY,hst,KD];simp[Gj]
   by_cases hlow:jo st=true
   .show aav _ _ _ _ _
    refine afw ?_ (fun nx=>?_)
    .refine⟨_,rfl,_,rfl,q,_,dx,_,_,rfl,h1,T.dW.cl,T.u6,U0,_,_,rfl,?_⟩
     refine⟨_,rfl,_,rfl,q,st,H,rfl,⟨dx,o,h1,h2,hno⟩,mR ol hlen,fun ht=>xG hsm mem ht,_,_,rfl,rfl,?_⟩
     refine⟨some (.ref q),?_,rfl,rest hlow⟩
     rw[tk,Z5 hst,Int.natCast_add];rfl
    .refine⟨_,rfl,q,_,dx,_,_,rfl,h1,T.dW.cl,T.fL,kJ,rfl,_,rfl,Iu (fun ht=>?_) (fun ht=>lG nx)⟩
     obtain⟨n,e,ho,hn1,hn2⟩:=xG hsm mem ht
     rw[ho] at h2
     refine⟨_,rfl,q,_,dx,_,_,rfl,h1,T.dW.cl,T.d7,iU,o,_,0,_,rfl,rfl,bN.of h2,rfl,
      _,rfl,q,_,dx,_,_,rfl,h1,T.dW.cl,T.d7,iU,o,_,1,_,rfl,rfl,bN.of h2,rfl,n,e,rfl,_,rfl,?_⟩
     have hl2:(decide (0<e)&&(Nat.gcd n.natAbs e==1))=true:=by
      have z:=hlow
      unfold jo at z
      rw[ht,ho] at z
      simp at z
      simp
      exact⟨by omega,z.2⟩
     rw[hl2]
     exact lG nx
   .have hbad:jo st=false:=by simpa using hlow
    have ht:st.tag=1:=by
     unfold jo at hbad
     by_cases z:st.tag=1
     .exact z
     .simp[z] at hbad
    refine⟨_,rfl,q,_,dx,_,_,rfl,h1,T.dW.cl,T.fL,kJ,rfl,_,rfl,Iu (fun _=>?_) (fun c1=>absurd ht c1)⟩
    obtain⟨n,e,ho,hn1,hn2⟩:=xG hsm mem ht
    rw[ho] at h2
    refine⟨_,rfl,q,_,dx,_,_,rfl,h1,T.dW.cl,T.d7,iU,o,_,0,_,rfl,rfl,bN.of h2,rfl,
     _,rfl,q,_,dx,_,_,rfl,h1,T.dW.cl,T.d7,iU,o,_,1,_,rfl,rfl,bN.of h2,rfl,n,e,rfl,_,rfl,?_⟩
    have hl2:(decide (0<e)&&(Nat.gcd n.natAbs e==1))=false:=by
     have z:=hbad
     unfold jo at z
     rw[ht,ho] at z
     rw[<-uV] at z ⊢
     intro z2
     refine z ?_
     simp at z2 ⊢
     exact⟨by omega,z2.2⟩
    rw[hl2]
    exact j4 (kE (adF mem hbad) H' e1)
  .rintro σ H' ⟨v2,rfl,rfl,hall⟩
   have abu:(bD 1 v).take (as.map V.ref).length=bD 1 v:=by
    rw[aW,gC hp,lC]
   rw[abu] at hall ⊢
   have hok:mW v=true:=by
    rw[<-D_ v 1,wU];exact hall
   have fin:∀(n:Addr) (H2:Hp),aF H' H2->oK H2 n (aZ v)->∀y dy,H2 y=none->H2 dy=none->Ao a.mQ 3 (fun _=>True) Yk (.ref y::([V.ref n,V.int (maxD (bD 1 v)),V.int (Gj (bD 1 v))]++[])) (L2.upd (L2.upd H2 dy (.own y)) y (.ins a.mQ dy [])) (fun v H3=>v= .non/\Q (.ref y) H3) E0:=fun n H2 e2 hn y dy n1 n2=>
    made n1 n2 rfl trivial fun H5 e5 ob=>⟨rfl,kQ hok H5 y ((e1.trans e2).trans e5) ⟨n,by rw[<-OD v 1,<-Xm v];exact ob,e5 _ _ hn⟩⟩
   rcases hS with hS|hS
   .refine⟨_,rfl,p,_,rfl,.inl ⟨e1.seq hS,fun n hn=>⟨_,rfl,_,rfl,fun y dy n1 n2 n3=>fin n _ (aF.upd hn) ao y dy n1 n2⟩⟩⟩
   .exact⟨_,rfl,p,_,rfl,.inr ⟨eV.of (e1 _ _ hS),_,rfl,_,rfl,fun y dy n1 n2 n3=>fin p _ (fun _ _ z=>z) (e1 _ _ hS) y dy n1 n2⟩⟩
inductive aey(a:Ad)(vs:List V)(H:Hp)(Q:VK):Prop
 |mk (x:Addr) (v:aQ) (lq:vs=[.ref x]) (hh1:wR a H x v) (nY:Q (.bl (decide (Coll.depth v<=40)&&decide (iK v<=4096))) H)
def aen(a:Ad):Sp:=fun vs H Q _=>aey a vs H Q
theorem abS(T:Txt K mg a):cN w K mg base 1 a.gP ["value"] (aen a):=by
 obtain⟨fd,F⟩:=T.gW.fn
 refine⟨fd,F.ok1 Bq (fun vs H Q E h=>?_) (fun cdv A outer s H vs Q E hr h=>?_),F.binds (by walk_at "b1"),F.kp⟩
 .obtain⟨x,v,rfl,_⟩:=h
  rfl
 .obtain⟨x,v,rfl,⟨n,⟨dx,h1⟩,h2⟩,k⟩:=h
  refine⟨_,au (aL (Nz (qY Nt (aG (pv 0) rfl) (a_ T.zP) (bx _)) (NP (qY Nt (aG (pv 0) rfl) (a_ T.zO) (bx _))))),?_⟩
  refine⟨_,rfl,x,_,dx,_,_,rfl,h1,T.d8.cl,T.tL,R4,_,_,rfl,rfl,_,rfl,Gy (fun c=>?_) (fun c=>?_)⟩
  .have c':Coll.depth v<=40:=by have:((Coll.depth v:Nat):Int)<=40:=c;omega
   rw[decide_eq_true c',LQ] at k
   refine⟨_,rfl,x,_,dx,_,_,rfl,h1,T.d8.cl,T.gQ,pG,_,_,rfl,rfl,?_⟩
   have e:decide (((iK v:Nat):Int)<=4096)=decide (iK v<=4096):=decide_eq_decide.mpr (by omega)
   show Q (.bl (decide (((iK v:Nat):Int)<=4096))) H
   rw[e];exact k
  .have c':¬Coll.depth v<=40:=fun z=>c (by show((Coll.depth v:Nat):Int)<=40;omega)
   rw[decide_eq_false c',GF] at k
   exact k
inductive Wm(K:bw)(a:Ad)(vs:List V)(H:Hp)(Q:VK)(E:XK):Prop
 |mk (p:Addr) (v:aQ) (lq:vs=[.ref p]) (hh1:bN K H p ((aZ v).map V.int)) (nY:(aZ v).length<=16000) (hh3:tR (aZ v)) (wO:(iV v=false->∀H',aF H H'->E (.ref a.gb) none H')) (Eo:(iV v=true->∀(H':Hp) (x:Addr),aF H H'->wR a H' x v->Q (.ref x) H'))
def aao(K:bw)(a:Ad):Sp:=fun vs H Q E=>Wm K a vs H Q E
theorem dZ(T:Txt K mg a):cN w K mg base 5 a.lV ["numbers"] (aao K a):=by
 obtain⟨fd,F⟩:=T.cu.fn
 obtain⟨f1,G1,b1,k1⟩:=yj (w:=w) (base:=base) T
 obtain⟨f2,G2,b2,k2⟩:=abS (w:=w) (base:=base) T
 refine⟨fd,F.ok1 zy (fun vs H Q E h=>?_) (fun cdv A outer s H vs Q E hr h=>?_),F.binds (by walk_at "b1"),F.kp⟩
 .obtain⟨p,v,rfl,_⟩:=h
  rfl
 .obtain⟨p,v,rfl,hS,hlen,hsm,kE,kQ⟩:=h
  have hr1:cI 1 _:=hr.mono (by decide)
  refine⟨_,ak (aK (i:=1) zy.nd rfl (Or.inl rfl) (aA G1 hr rfl T.oW.glob k1 b1 .nil cA (aj (pv 0) aq)))
   (ak (cJ (yp (vY (aA G2 hr1 rfl T.gW.glob k2 b2 .nil bG (aj (pv 1) aq)))) (au (jg T.oM rfl)) bF) (au (aL (pv 1)))),?_⟩
  have vo:∀b,mW v=true->(decide (Coll.depth v<=40)&&decide (iK v<=4096))=b->iV v=b:=fun b h1 h2=>by
   unfold iV Coll.DEEP Coll.SIZE
   rw[h1,h2];rfl
  refine⟨_,rfl,p,v,rfl,.inl hS,hlen,hsm,fun z H' e=>kE (by unfold iV;rw[z];rfl) H' e,fun z H' x e hx=>?_⟩
  refine⟨_,rfl,x,v,rfl,hx,_,rfl,?_⟩
  cases e2:(decide (Coll.depth v<=40)&&decide (iK v<=4096)) with
  |true=>exact lG ⟨_,rfl,kQ (vo _ z e2) H' x e hx⟩
  |false=>exact j4 (kE (vo _ z e2) H' e)
end
theorem abU{X:Cx}:Gw X (binaryOp .FloorDiv) (rI (fun _ j=>0<j/\j<18446744073709551616) fun i j=> .int (i/j)):=opI fun i j _ _ _ _ _ hc q=>by
 have h1:(0:Int)<j:=hc.1
 have h2:j<18446744073709551616:=hc.2
 refine floordiv_int (by omega) (by rw[Int.fdiv_eq_ediv_of_nonneg i (by omega)];exact q) (.inl (PyProof.noPylong_of_log2 ?_))
 exact wQ ((Nat.log2_lt (k:=64) (by omega)).mpr (by omega)) (by decide)
section
variable{w:World}{K:bw}{mg:Str->Option Value}{base:Heap}{a:Ad}
inductive aaE(a:Ad)(vs:List V)(H:Hp)(Q:VK):Prop
 |mk (p:Addr) (s:Gx) (o:Nat) (H0:Hp) (lq:vs=[.ref p,.int o]) (hh1:xP a H0 [] H p s) (nY:s.own.length<=16000) (hh3:aek s) (wO:jo s=true) (Eo:∀(H':Hp) (l:Addr),aF H H'->H l=none->H' l=some (.lst ((dF o s).map V.int))->Q (.ref l) H')
def adU(a:Ad):Sp:=fun vs H Q _=>aaE a vs H Q
theorem PL(T:Txt K mg a):cN w K mg base 1 a.qO ["step","order"] (adU a):=by
 obtain⟨fd,F⟩:=T.vh.fn
 refine⟨fd,F.ok1 Qh (fun vs H Q E h=>?_) (fun cdv A outer s H vs Q E hr h=>?_),F.binds (by walk_at "b2"),F.kp⟩
 .obtain⟨p,s,o,H0,rfl,_⟩:=h
  rfl
 .obtain⟨p,st,od,H0,rfl,⟨dx,o,h1,h2,_⟩,hl,hn,hlow,k⟩:=h
  refine⟨_,ak (cJ (aX jf (aG (pv 0) rfl) (a_ T.nZ) (bx _)) (au (aL (bL (aj (a_ T.nZ) (aj (cB abU (cB abW (bf aU (aG (pv 0) rfl) aB (fun _ _=>rfl)) (a_ T.Fl)) (bf aU (aG (pv 0) rfl) aB (fun _ _=>rfl))) aq))))) bF)
   (ak (cJ (PW.pt (N8 (aX jf (aG (pv 0) rfl) (a_ T.Ck) (bx _)) (Ie (aX jf (pv 1) (a_ T.mK) (bx _))))) (au (aL (cB n_ (bL (aj (a_ T.Ck) (aj (bZ bI rfl T.iR jC (aj (aG (pv 0) rfl) aq)) aq))) (aG (pv 0) rfl)))) bF)
   (ak (cJ (aX jf (aG (pv 0) rfl) (a_ T.Ck) (bx _)) (au (aL (cB n_ (cB n_ (bL (aj (a_ T.Ck) aq)) (aG (pv 0) rfl)) (bL (aj (a_ T.Yt) aq))))) bF)
   (ak (cJ (aX jf (aG (pv 0) rfl) (a_ T.vV) (bx _)) (au (aL (bL (aj (a_ T.Yt) aq)))) bF)
   (au (aL (cB n_ (bL (aj (aG (pv 0) rfl) aq)) (aG (pv 0) rfl))))))),?_⟩
  refine⟨_,rfl,p,_,dx,_,_,rfl,h1,T.dW.cl,T.fL,kJ,rfl,_,rfl,Iu (fun c=>?_) (fun c=>?_)⟩
  .obtain⟨n,e,ho,hn1,hn2⟩:=hn c
   rw[ho] at h2
   have he:0<e:=by
    unfold jo at hlow
    rw[c,ho] at hlow
    simp at hlow
    omega
   refine⟨_,rfl,p,_,dx,_,_,rfl,h1,T.dW.cl,T.d7,iU,o,_,0,_,rfl,rfl,bN.of h2,rfl,_,_,rfl,rfl,.inl ⟨by omega,by omega⟩,?_⟩
   refine⟨_,rfl,p,_,dx,_,_,rfl,h1,T.dW.cl,T.d7,iU,o,_,1,_,rfl,rfl,bN.of h2,rfl,_,_,rfl,rfl,⟨by omega,by omega⟩,len2,fun l hl1=>k _ l (aF.upd hl1) hl1 ?_⟩
   rw[ao]
   unfold dF
   rw[if_pos c,ho];rfl
  .refine⟨_,rfl,p,_,dx,_,_,rfl,h1,T.dW.cl,T.fL,kJ,rfl,_,rfl,?_⟩
   have tail:st.tag≠2->∀(D:Ends),D.rt=Q->(aav (ad8 (aer (tOp rEq (Qj K (vd 0) "tag") (tC (V.int 4)))) (ad_ (afU (xH (tC (V.int (-1))) O4))) V9) (ad_ (tOp agF (afU (xH (Qj K (vd 0) "tag") O4)) (Qj K (vd 0) "own")))) D (start ["step","order"] [V.ref p,V.int (od:Int)]) H:=fun c2 D hD=>by
    refine⟨_,rfl,p,_,dx,_,_,rfl,h1,T.dW.cl,T.fL,kJ,rfl,_,rfl,Iu (fun c3=>?_) (fun c3=>?_)⟩
    .refine⟨len1,fun l hl1=>?_⟩
     show D.rt _ _
     rw[hD]
     refine k _ l (aF.upd hl1) hl1 ?_
     rw[ao]
     unfold dF
     rw[if_neg c,if_neg (fun z=>c2 z.1),if_neg c2,if_pos c3];rfl
    .refine⟨_,rfl,p,_,dx,_,_,rfl,h1,T.dW.cl,T.fL,kJ,len1,fun l hl1=>?_⟩
     refine⟨_,rfl,p,_,dx,_,_,rfl,aF.upd hl1 _ _ h1,T.dW.cl,T.d7,iU,l,o,_,_,rfl,rfl,ao,aF.upd hl1 _ _ h2,cT (by simp;omega),fun l2 hl2=>?_⟩
     show D.rt _ _
     rw[hD]
     refine k _ l2 ((aF.upd hl1).trans (aF.upd hl2)) (aF.free (aF.upd hl1) hl2) ?_
     rw[ao]
     unfold dF
     rw[if_neg c,if_neg (fun z=>c2 z.1),if_neg c2,if_neg c3];rfl
   refine Iu (fun c1=>?_) (fun c1=>lG ?_)
   .refine⟨_,rfl,rfl,_,rfl,Iu (fun c2=>?_) (fun c2=>?_)⟩
    .refine⟨_,rfl,p,_,dx,_,_,rfl,h1,T.dW.cl,T.d7,iU,o,_,rfl,.inl (bN.of h2),len2,fun l hl1=>?_⟩
     refine⟨_,rfl,p,_,dx,_,_,rfl,aF.upd hl1 _ _ h1,T.dW.cl,T.d7,iU,l,o,_,_,rfl,rfl,ao,aF.upd hl1 _ _ h2,cT (by simp;omega),fun l2 hl2=>?_⟩
     refine k _ l2 ((aF.upd hl1).trans (aF.upd hl2)) (aF.free (aF.upd hl1) hl2) ?_
     rw[ao]
     unfold dF
     rw[if_neg c,if_pos ⟨c1,by omega⟩,aW];rfl
    .refine⟨_,rfl,p,_,dx,_,_,rfl,h1,T.dW.cl,T.fL,kJ,rfl,_,rfl,Iu (fun c3=>?_) (fun c3=>absurd c1 c3)⟩
     refine⟨len1,fun l hl1=>?_⟩
     refine⟨_,rfl,p,_,dx,_,_,rfl,aF.upd hl1 _ _ h1,T.dW.cl,T.d7,iU,l,o,_,_,rfl,rfl,ao,aF.upd hl1 _ _ h2,cT (by simp;omega),fun l2 hl2=>?_⟩
     refine⟨len1,fun l3 hl3=>⟨l2,l3,_,_,rfl,rfl,aF.upd hl3 _ _ ao,ao,cT (by simp;omega),fun l4 ZR=>?_⟩⟩
     have s3:=((aF.upd (o:= .lst [V.int 2]) hl1).trans (aF.upd hl2)).trans (aF.upd (o:= .lst [V.int (-1)]) hl3)
     refine k _ l4 (s3.trans (aF.upd ZR)) (aF.free s3 ZR) ?_
     rw[ao]
     unfold dF
     rw[if_neg c,if_neg (fun z=>c2 (by omega)),if_pos c1,cU,fP];rfl
   .refine⟨_,rfl,p,_,dx,_,_,rfl,h1,T.dW.cl,T.fL,kJ,rfl,_,rfl,Iu (fun c3=>absurd c3 c1) (fun c3=>?_)⟩
    exact tail c1 _ rfl
end
theorem Ub{σ:L2.St}{H:Hp}{A B:Hp->Prop}(h:A H):agY σ H (fun b H3=>if b=true then A H3 else B H3):=by
 show if true=true then A H else B H
 rw[if_pos rfl];exact h
section
variable{w:World}{K:bw}{mg:Str->Option Value}{base:Heap}{a:Ad}
inductive aaL(K:bw)(vs:List V)(H:Hp)(Q:VK):Prop
 |mk (p:Addr) (v:aQ) (o:Nat) (lq:vs=[.ref p,.int o]) (hh1:SqI K H p (aZ v)) (nY:(aZ v).length<=16000) (hh3:tR (aZ v)) (wO:mW v=true) (Eo:∀(H':Hp) (t:Addr),aF H H'->H' t=some (.tup ((place o v).map V.int))->Q (.ref t) H')
def YT(K:bw):Sp:=fun vs H Q _=>aaL K vs H Q
theorem n8(T:Txt K mg a):cN w K mg base 4 a.vR ["numbers","order"] (YT K):=by
 obtain⟨fd,F⟩:=T.jj.fn
 obtain⟨f1,G1,b1,k1⟩:=zx (w:=w) (base:=base) T
 obtain⟨f2,G2,b2,k2⟩:=PL (w:=w) (base:=base) T
 refine⟨fd,F.ok1 Ku (fun vs H Q E h=>?_) (fun cdv A outer s H vs Q E hr h=>?_),F.binds (by walk_at "b2"),F.kp⟩
 .obtain⟨p,v,o,rfl,_⟩:=h
  rfl
 .obtain⟨p,v,od,rfl,hS,hlen,hsm,hpr,k⟩:=h
  have hr1:cI 1 _:=hr.mono (by decide)
  have nd:=Ku.nd
  refine⟨_,ak (aK (i:=2) nd rfl (Or.inl rfl) (bL aq))
   (ak (qZ own1 rfl (iQ (aA G1 hr rfl T.mD.glob k1 b1 .nil bG (aj (pv 0) aq))) (gH (i:=3) nd rfl (Or.inl rfl))
    (au (cZ (pM jJ Bu Bv qx (pv 2) (aj (aA G2 hr1 rfl T.vh.glob k2 b2 .nil bG (aj (pv 3) (aj (pv 1) aq))) aq)))))
   (ak (cJ (aX jf (pv 1) (a_ T.vW) (bx _)) (au (aL (jy xV rfl T.G_ boot_tuple (aj
     (VF rfl nd (iQ (pv 2)) (yW (own:=[("code",4)]) (by kernel_rfl)) (fun _ _ _ _ _=>gH (i:=4) nd rfl (Or.inl rfl)) (fun _ _ _ _ _=>Ln) (fun _ _ _ _ _=>YB T_ (pv 4))) aq)))) bF)
   (au (aL (jy xV rfl T.G_ boot_tuple (aj (pv 2) aq)))))),?_⟩
  refine⟨len0,fun lc hlc=>?_⟩
  refine⟨_,rfl,p,v,rfl,hS.same (aF.upd hlc),hlen,fun H1 l as e1 hl hnl hp=>?_⟩
  have nlc:∀{b:Addr},(L2.upd H lc (.lst [])) b=none->b≠lc:=fun hb z=>by rw[z,ao] at hb;cases hb
  have agj:H1 lc=some (.lst []):=e1 _ _ ao
  have sH:aF H H1:=(aF.upd hlc).trans e1
  refine⟨l,rfl,⟨_,bN.of hl⟩,kZ (K:=K) (a:=l) (xs:=as.map V.ref) (fun i σ H'=>∃v3:Option V,σ=[some (.ref p),some (.int od),some (.ref lc),v3,none]/\(∀b u,H1 b=some u->b≠lc->H' b=some u)/\H' lc=some (.lst ((((bD 1 v).take i).flatMap (dF od)).map V.int)))
   ⟨none,rfl,fun b u q _=>q,by rw[agj];simp⟩ (fun i σ H' _ ⟨_,_,e,_⟩=>bN.of (e _ _ hl (nlc hnl))) ?_ ?_⟩
  .rintro i x σ H' hi ⟨v3,rfl,keep,Xa⟩
   obtain⟨q,hq,rfl⟩:∃q,as[i]? =some q/\x=V.ref q:=by
    rw[gw] at hi
    cases e:as[i]? with
    |none=>rw[e] at hi;cases hi
    |some z=>rw[e] at hi;exact⟨z,rfl,(dJ hi).symm⟩
   obtain⟨st,hst,dx,o,h1,h2,aor,agm⟩:=cD hp hq
   have mem:st∈bD 1 v:=fZ hst
   have ol:=Td v 1 st mem
   have hlow:jo st=true:=wU.mp ((D_ v 1).trans hpr) st mem
   have pl2:=Ny (dF od) hst
   have cl:=Jb (od==2) v
   rw[<-wX od v 1] at cl
   have q1:q≠lc:=vX h1 agj (by intro z;cases z)
   refine⟨_,rfl,.inl ⟨rfl,_,bN.of Xa⟩,_,rfl,_,rfl,q,st,od,_,rfl,⟨dx,o,keep _ _ h1 q1,keep _ _ h2 (nlc agm),aor,agm⟩,mR ol hlen,fun ht=>xG hsm mem ht,hlow,fun H2 l2 e2 hn2 hl2=>?_⟩
   refine⟨lc,l2,_,_,rfl,rfl,e2 _ _ Xa,hl2,cT (by rw[aW,aW];omega),?_⟩
   refine⟨some (.ref q),rfl,fun b u z hb=>?_,?_⟩
   .rw[aD hb];exact e2 _ _ (keep b u z hb)
   .rw[ao,pl2.2,fP]
  .rintro σ H' ⟨v3,rfl,keep,Xa⟩
   have abu:(bD 1 v).take (as.map V.ref).length=bD 1 v:=by
    rw[aW,gC hp,lC]
   rw[abu] at Xa
   have sH':aF H H':=fun b u z=>keep b u (sH b u z) (aJ z hlc)
   have hpl:=VJ od v
   have cl:=Jb (od==2) v
   rw[<-wX od v 1] at cl
   walk_at "rd"
   refine Iu (fun c=>?_) (fun c=>?_)
   .have c':od=1:=by omega
    rw[if_pos c'] at hpl
    refine⟨_,rfl,lc,rfl,⟨_,bN.of Xa⟩,fun D hD=>DY (K:=K) (a:=lc) (xs:=(((bD 1 v).flatMap (dF od)).map V.int)) (fun i H2=>aF H' H2/\H2 D=some (.lst (((((bD 1 v).flatMap (dF od)).take i).map fun x=> -x).map V.int)))
     ⟨aF.upd hD,ao⟩ (fun i H2 _ ⟨e,_⟩=>bN.of (e _ _ Xa)) ?_ ?_⟩
    .rintro i x H2 hi ⟨e,hd⟩
     obtain⟨z,hz,rfl⟩:∃z,((bD 1 v).flatMap (dF od))[i]? =some z/\x=V.int z:=by
      rw[gw] at hi
      cases q:((bD 1 v).flatMap (dF od))[i]? with
      |none=>rw[q] at hi;cases hi
      |some z=>rw[q] at hi;exact⟨z,rfl,(dJ hi).symm⟩
     refine⟨rfl,Ub ?_⟩
     refine⟨_,rfl,_,rfl,_,hd,fX (by rw[aW,aW,lR];omega),fun b u q=>?_,?_⟩
     .rw[aD (aJ q hD)];exact e b u q
     .rw[ao,mY,hz,fP,fP];rfl
    .rintro H2 ⟨e,hd⟩
     rw[aW,lC] at hd
     refine⟨D,_,rfl,.inl ⟨bN.of hd,fun t ht=>?_⟩⟩
     refine k _ t ((sH'.trans e).trans (aF.upd ht)) ?_
     rw[ao,hpl]
   .have c':od≠1:=by omega
    rw[if_neg c'] at hpl
    walk_at "rd"
    refine⟨lc,_,rfl,.inl ⟨bN.of Xa,fun t ht=>?_⟩⟩
    refine k _ t (sH'.trans (aF.upd ht)) ?_
    rw[ao,hpl]
end
abbrev Jf(k v p:Addr)(r:Int):List (Str×V):=fV "room" (.int r) (fV "place" (.ref p) (fV "value" (.ref v) (fV "key" (.ref k) [])))
theorem eY{k v p:Addr}{r:Int}:(Jf k v p r).lookup ("key":Str)=some (.ref k):=by
 rw[aO,if_neg (by decide+kernel),aO,if_neg (by decide+kernel),aO,if_neg (by decide+kernel),aO,if_pos rfl]
theorem gF{k v p:Addr}{r:Int}:(Jf k v p r).lookup ("value":Str)=some (.ref v):=by
 rw[aO,if_neg (by decide+kernel),aO,if_neg (by decide+kernel),aO,if_pos rfl]
theorem eG{k v p:Addr}{r:Int}:(Jf k v p r).lookup ("place":Str)=some (.ref p):=by
 rw[aO,if_neg (by decide+kernel),aO,if_pos rfl]
theorem UW{k v p:Addr}{r:Int}:(Jf k v p r).lookup ("room":Str)=some (.int r):=by rw[aO,if_pos rfl]
abbrev vL(k o:Int)(l:Addr)(r:Int):List (Str×V):=fV "room" (.int r) (fV "entries" (.ref l) (fV "order" (.int o) (fV "kind" (.int k) [])))
theorem bQ{k o r:Int}{l:Addr}:(vL k o l r).lookup ("kind":Str)=some (.int k):=by
 rw[aO,if_neg (by decide+kernel),aO,if_neg (by decide+kernel),aO,if_neg (by decide+kernel),aO,if_pos rfl]
theorem bM{k o r:Int}{l:Addr}:(vL k o l r).lookup ("order":Str)=some (.int o):=by
 rw[aO,if_neg (by decide+kernel),aO,if_neg (by decide+kernel),aO,if_pos rfl]
theorem aV{k o r:Int}{l:Addr}:(vL k o l r).lookup ("entries":Str)=some (.ref l):=by
 rw[aO,if_neg (by decide+kernel),aO,if_pos rfl]
theorem gG{k o r:Int}{l:Addr}:(vL k o l r).lookup ("room":Str)=some (.int r):=by rw[aO,if_pos rfl]
abbrev pq(d:Addr)(u n:Int):List (Str×V):=fV "following" (.int n) (fV "used" (.int u) (fV "versions" (.ref d) []))
theorem jt{d:Addr}{u n:Int}:(pq d u n).lookup ("versions":Str)=some (.ref d):=by
 rw[aO,if_neg (by decide+kernel),aO,if_neg (by decide+kernel),aO,if_pos rfl]
theorem w6{d:Addr}{u n:Int}:(pq d u n).lookup ("used":Str)=some (.int u):=by
 rw[aO,if_neg (by decide+kernel),aO,if_pos rfl]
theorem kI{d:Addr}{u n:Int}:(pq d u n).lookup ("following":Str)=some (.int n):=by rw[aO,if_pos rfl]
def sO(kind:Nat)(e:aN):List Int:=if kind=3 then[] else aZ e.k
def valN(kind:Nat)(e:aN):List Int:=if kind=1 then[] else aZ e.x
def plN(kind ord:Nat)(e:aN):List Int:=if kind=3 then[] else place ord e.k
def vZ(kind:Nat)(e:aN):Nat:=1+(iK e.k+if kind=0\/kind=2 then iK e.x else 0)
inductive aaB(a:Ad)(kind ord:Nat)(H:Hp)(x:Addr)(e:aN):Prop
 |mk (k:_) (v:_) (p:_) (lq:Ob H x a.mO (Jf k v p (vZ kind e))) (hh1:oK H k (sO kind e)) (nY:oK H v (valN kind e)) (hh3:oK H p (plN kind ord e))
def bT(a:Ad)(kind ord:Nat)(H:Hp)(x:Addr)(e:aN):Prop:=aaB a kind ord H x e
inductive aeu(a:Ad)(H:Hp)(x:Addr)(v:bC):Prop
 |mk (l:_) (as:_) (lq:Ob H x a.fC (vL v.kind v.ord l (bY v))) (hh1:H l=some (.lst (as.map V.ref))) (nY:Paired (bT a v.kind v.ord H) as v.l)
def gZ(a:Ad)(H:Hp)(x:Addr)(v:bC):Prop:=aeu a H x v
theorem bT.same{a:Ad}{kind ord:Nat}{H H':Hp}{x:Addr}{e:aN}(h:bT a kind ord H x e)(s:aF H H'):bT a kind ord H' x e:=by
 obtain⟨k,v,p,⟨dx,h1⟩,h2,h3,h4⟩:=h
 exact⟨k,v,p,⟨dx,s _ _ h1⟩,s _ _ h2,s _ _ h3,s _ _ h4⟩
theorem gZ.same{a:Ad}{H H':Hp}{x:Addr}{v:bC}(h:gZ a H x v)(s:aF H H'):gZ a H' x v:=by
 obtain⟨l,as,⟨dx,h1⟩,h2,h3⟩:=h
 exact⟨l,as,⟨dx,s _ _ h1⟩,s _ _ h2,Paired.iM h3 fun _ _ z=>z.same s⟩
theorem wR.same{a:Ad}{H H':Hp}{x:Addr}{v:aQ}(h:wR a H x v)(s:aF H H'):wR a H' x v:=by
 obtain⟨n,⟨dx,h1⟩,h2⟩:=h
 exact⟨n,⟨dx,s _ _ h1⟩,s _ _ h2⟩
section
variable{w:World}{K:bw}{mg:Str->Option Value}{base:Heap}{a:Ad}
def adw:List V->List (Str×V)
 |[x,y,z,u]=>fV "room" u (fV "place" z (fV "value" y (fV "key" x [])))
 |_=>[]
theorem M7(T:Txt K mg a):cN w K mg base 1 a.Hu ["self","key","value","place","room"] (Ao a.mO 4 (fun _=>True) adw):=by
 obtain⟨fd,F⟩:=T.bO.fn
 refine⟨fd,F.ok1 P0 (fun vs H Q E h=>?_) (fun cdv A outer s H vs Q E hr h=>?_),F.binds (by walk_at "b5"),F.kp⟩
 .obtain⟨p,dx,xs,rfl,hl,_⟩:=h
  simp[hl]
 .obtain⟨p,dx,xs,rfl,hl,_,hp,k⟩:=h
  match xs,hl with
  |[x,y,z,u],_=>
   refine⟨_,ak (lK (pv 0) (pv 1) rfl) (ak (lK (pv 0) (pv 2) rfl) (ak (lK (pv 0) (pv 3) rfl) (au (lK (pv 0) (pv 4) rfl)))),?_⟩
   refine⟨_,rfl,_,rfl,p,_,dx,_,rfl,hp,T.bO.cl,T.dG,(by show 0<1000;decide),_,rfl,_,rfl,p,_,dx,_,rfl,ao,T.bO.cl,T.d9,(by show 1<1000;decide),
    _,rfl,_,rfl,p,_,dx,_,rfl,ao,T.bO.cl,T.cR,(by show 2<1000;decide),_,rfl,_,rfl,p,_,dx,_,rfl,ao,T.bO.cl,T.u5,(by show 3<1000;decide),?_⟩
   exact k _ ao fun b o e hb=>by rw[aD hb,aD hb,aD hb,aD hb];exact e
def QW:List V->List (Str×V)
 |[x,y,z,u]=>fV "room" u (fV "entries" z (fV "order" y (fV "kind" x [])))
 |_=>[]
theorem p_(T:Txt K mg a):cN w K mg base 1 a.zj ["self","kind","order","entries","room"] (Ao a.fC 4 (fun _=>True) QW):=by
 obtain⟨fd,F⟩:=T.aC.fn
 refine⟨fd,F.ok1 K9 (fun vs H Q E h=>?_) (fun cdv A outer s H vs Q E hr h=>?_),F.binds (by walk_at "b5"),F.kp⟩
 .obtain⟨p,dx,xs,rfl,hl,_⟩:=h
  simp[hl]
 .obtain⟨p,dx,xs,rfl,hl,_,hp,k⟩:=h
  match xs,hl with
  |[x,y,z,u],_=>
   refine⟨_,ak (lK (pv 0) (pv 1) rfl) (ak (lK (pv 0) (pv 2) rfl) (ak (lK (pv 0) (pv 3) rfl) (au (lK (pv 0) (pv 4) rfl)))),?_⟩
   refine⟨_,rfl,_,rfl,p,_,dx,_,rfl,hp,T.aC.cl,T.bH,(by show 0<1000;decide),_,rfl,_,rfl,p,_,dx,_,rfl,ao,T.aC.cl,T.bB,(by show 1<1000;decide),
    _,rfl,_,rfl,p,_,dx,_,rfl,ao,T.aC.cl,T.aP,(by show 2<1000;decide),_,rfl,_,rfl,p,_,dx,_,rfl,ao,T.aC.cl,T.dh,(by show 3<1000;decide),?_⟩
   exact k _ ao fun b o e hb=>by rw[aD hb,aD hb,aD hb,aD hb];exact e
def readable(v:aQ):Prop:=(aZ v).length<=16000/\tR (aZ v)/\mW v=true
inductive acS(a:Ad)(vs:List V)(H:Hp)(Q:VK):Prop
 |mk (x y:Addr) (k v:aQ) (o:Nat) (lq:vs=[.ref x,.ref y,.int o]) (hh1:wR a H x k) (nY:wR a H y v) (hh3:readable k) (wO:∀(H':Hp) (z:Addr),aF H H'->(∀kind,kind=0\/kind=2->bT a kind o H' z ⟨k,v⟩)->Q (.ref z) H')
def afG(a:Ad):Sp:=fun vs H Q _=>acS a vs H Q
theorem yh(T:Txt K mg a):cN w K mg base 5 a.qK ["key","value","order"] (afG a):=by
 obtain⟨fd,F⟩:=T.oV.fn
 obtain⟨f1,G1,b1,k1⟩:=n8 (w:=w) (base:=base) T
 obtain⟨f2,G2,b2,_⟩:=M7 (w:=w) (base:=base) T
 refine⟨fd,F.ok1 Qg (fun vs H Q E h=>?_) (fun cdv A outer s H vs Q E hr h=>?_),F.binds (by walk_at "b3"),F.kp⟩
 .obtain⟨x,y,k,v,o,rfl,_⟩:=h
  rfl
 .obtain⟨x,y,kv,vv,o,rfl,⟨n1,⟨d1,h1⟩,t1⟩,⟨n2,⟨d2,h2⟩,t2⟩,hrd,k⟩:=h
  have hr2:cI 2 _:=hr.mono (by decide)
  refine⟨_,au (aL (j5 T.bO.Vj G2 hr2 rfl T.bO.glob b2 .nil bG (aj (aG (pv 0) rfl) (aj (aG (pv 1) rfl)
   (aj (aA G1 hr rfl T.jj.glob k1 b1 .nil bG (aj (aG (pv 0) rfl) (aj (pv 2) aq))) (aj (cB dj (cB dj aB (aG (pv 0) rfl)) (aG (pv 1) rfl)) aq)))))),?_⟩
  refine⟨_,rfl,x,_,d1,_,_,rfl,h1,T.d8.cl,T.b_,dg,_,rfl,y,_,d2,_,_,rfl,h2,T.d8.cl,T.b_,dg,?_⟩
  refine⟨_,rfl,x,_,d1,_,_,rfl,h1,T.d8.cl,T.b_,dg,_,rfl,n1,kv,o,rfl,.inr (eV.of t1),hrd.1,hrd.2.1,hrd.2.2,fun H1 t e1 ht=>?_⟩
  refine⟨_,rfl,x,_,d1,_,_,rfl,e1 _ _ h1,T.d8.cl,T.gQ,pG,_,_,rfl,rfl,_,rfl,y,_,d2,_,_,rfl,e1 _ _ h2,T.d8.cl,T.gQ,pG,_,_,rfl,rfl,?_⟩
  refine fun z dz m1 m2 m3=>made m1 m2 rfl trivial fun H2 e2 ob=>⟨rfl,?_⟩
  refine k H2 z (e1.trans e2) fun kind hk=>⟨n1,n2,t,?_,?_,?_,?_⟩
  .have e:((vZ kind ⟨kv,vv⟩:Nat):Int)=1+(iK kv:Int)+(iK vv:Int):=by
    unfold vZ
    rw[if_pos hk]
    show((1+(iK kv+iK vv):Nat):Int)=_
    omega
   rw[e];exact ob
  .unfold sO;rw[if_neg (by omega)];exact e2 _ _ (e1 _ _ t1)
  .unfold valN;rw[if_neg (by omega)];exact e2 _ _ (e1 _ _ t2)
  .unfold plN;rw[if_neg (by omega)];exact e2 _ _ ht
end
def RG(a:Ad)(H:Hp)(kv:Key×V)(nv:Nat×bC):Prop:=kv.1= .inl (nv.1:Int)/\∃x,kv.2= .ref x/\gZ a H x nv.2
structure cH(a:Ad)(H:Hp)(sh d:Addr)(s:bu):Prop where
 ob:Ob H sh a.jl (pq d s.room s.next)
 dict:∃kvs,H d=some (.dK kvs)/\Paired (RG a H) kvs s.l
 below:∀p∈s.l,p.1<s.next
theorem Ht{a:Ad}{H:Hp}(n:Nat):∀{kvs:List (Key×V)} {l:List (Nat×bC)},Paired (RG a H) kvs l->
  ((l.find? fun x=>x.1==n)=none->iJ kvs (.inl (n:Int))=none)/\(∀p,(l.find? fun x=>x.1==n)=some p->∃x,iJ kvs (.inl (n:Int))=some (.ref x)/\gZ a H x p.2)
 |_,_,.nil=>⟨fun _=>rfl,fun p h=>by simp at h⟩
 |_,_,@Paired.cons _ _ _ kv nv kvs l h t=>by
  obtain⟨h1,x,h2,h3⟩:=h
  have ih:=Ht n t
  by_cases e:nv.1=n
  .have e':kv.1=Sum.inl (n:Int):=by rw[h1,e]
   refine⟨fun z=>?_,fun p z=>?_⟩
   .rw[List.find?_cons_of_pos (by simp[e])] at z;cases z
   .rw[List.find?_cons_of_pos (by simp[e])] at z
    cases z
    exact⟨x,by rw[mH e',h2],h3⟩
  .have e':¬kv.1=Sum.inl (n:Int):=fun z=>by
    rw[h1] at z
    injection z with z;omega
   rw[List.find?_cons_of_neg (by simp[e]),mG e']
   exact ih
section
variable{w:World}{K:bw}{mg:Str->Option Value}{base:Heap}{a:Ad}
inductive acL(a:Ad)(vs:List V)(H:Hp)(Q:VK)(E:XK):Prop
 |mk (sh d:Addr) (s:bu) (n:Nat) (lq:vs=[.ref sh,.int n]) (hh1:cH a H sh d s) (nY:(s.get n=none->E (.ref a.eU) none H)) (hh3:(∀v x,s.get n=some v->gZ a H x v->Q (.ref x) H))
def afB(a:Ad):Sp:=fun vs H Q E=>acL a vs H Q E
theorem dX(T:Txt K mg a):cN w K mg base 1 a.nH ["shelf","number"] (afB a):=by
 obtain⟨fd,F⟩:=T.cC.fn
 refine⟨fd,F.ok1 K_ (fun vs H Q E h=>?_) (fun cdv A outer s H vs Q E hr h=>?_),F.binds (by walk_at "b2"),F.kp⟩
 .obtain⟨sh,d,st,n,rfl,_⟩:=h
  rfl
 .obtain⟨sh,d,st,n,rfl,S,kE,kQ⟩:=h
  have hu:=J1 hr
  obtain⟨dx,h1⟩:=S.ob
  obtain⟨kvs,h2,hp⟩:=S.dict
  have g:=Ht n hp
  refine⟨_,ak (cJ (N6 (Ec hu (pv 1) (aG (pv 0) rfl))) (au (jg T.rY rfl)) bF) (au (aL (Te hu (aG (pv 0) rfl) (pv 1) (fun _ _=>rfl)))),?_⟩
  refine⟨_,rfl,_,rfl,sh,_,dx,_,_,rfl,h1,T.fW.cl,T.dY,jt,d,_,rfl,zJ.k (k:=Sum.inl (n:Int)) h2,_,rfl,?_⟩
  cases e:(st.l.find? fun x=>x.1==n) with
  |none=>
   rw[g.1 e]
   refine j4 (kE ?_)
   unfold bu.get;rw[e];rfl
  |some p=>
   obtain⟨x,hx,hv⟩:=g.2 p e
   rw[hx]
   refine lG ⟨_,rfl,sh,_,dx,_,_,rfl,h1,T.fW.cl,T.dY,jt,_,rfl,d,.ref x,rfl,?_,kQ p.2 x ?_ hv⟩
   .rw[<-hx];exact zJ.k (k:=Sum.inl (n:Int)) h2
   .unfold bu.get;rw[e];rfl
inductive aaF(a:Ad)(vs:List V)(H:Hp)(Q:VK)(E:XK):Prop
 |mk (sh d t:Addr) (s:bu) (n:Nat) (ks:List Int) (lq:vs=[.ref sh,.int n,.ref t]) (hh1:cH a H sh d s) (nY:oK H t ks) (hh3:(s.get n=none->E (.ref a.eU) none H)) (wO:(∀v x,s.get n=some v->gZ a H x v->((v.kind:Int)∉ks->E (.ref a.j8) none H)/\((v.kind:Int)∈ks->Q (.ref x) H)))
def adV(a:Ad):Sp:=fun vs H Q E=>aaF a vs H Q E
theorem Cd(z:Int):∀ks:List Int,inV (.int z) (ks.map V.int)=decide (z∈ks)
 |[]=>by simp[inV]
 |k::r=>by
  have ih:=Cd z r
  unfold inV at ih ⊢
  rw[cU,GP,ih]
  have:eqV (V.int k) (V.int z)=decide (k=z):=by
   by_cases e:k=z
   .subst e;simp[eqV]
   .simp[eqV,e]
  rw[this]
  by_cases e:k=z
  .subst e;simp
  .have e2:¬z=k:=fun q=>e q.symm
   simp[e,e2]
theorem zf:∀ks:List Int,(ks.map V.int).all Hq=true
 |[]=>rfl
 |k::r=>by rw[cU,List.all_cons,zf r];rfl
theorem eO(T:Txt K mg a):cN w K mg base 2 a.nG ["shelf","number","kinds"] (adV a):=by
 obtain⟨fd,F⟩:=T.dB.fn
 obtain⟨f1,G1,b1,k1⟩:=dX (w:=w) (base:=base) T
 refine⟨fd,F.ok1 Bc (fun vs H Q E h=>?_) (fun cdv A outer s H vs Q E hr h=>?_),F.binds (by walk_at "b3"),F.kp⟩
 .obtain⟨sh,d,t,st,n,ks,rfl,_⟩:=h
  rfl
 .obtain⟨sh,d,t,st,n,ks,rfl,S,ht,kE,kQ⟩:=h
  refine⟨_,ak (aK (i:=3) Bc.nd rfl (Or.inl rfl) (aA G1 hr rfl T.cC.glob k1 b1 .nil cA (aj (pv 0) (aj (pv 1) aq))))
   (ak (cJ (aX zX (aG (pv 3) rfl) (pv 2) rfl) (au (jg T.vK rfl)) bF) (au (aL (pv 3)))),?_⟩
  refine⟨_,rfl,_,rfl,sh,d,st,n,rfl,S,kE,fun v x hg hv=>?_⟩
  have q:=kQ v x hg hv
  obtain⟨l,as,⟨dx,h1⟩,_⟩:=hv
  refine⟨_,rfl,x,_,dx,_,_,rfl,h1,T.aC.cl,T.bH,bQ,_,rfl,t,_,rfl,.inr (eV.of ht),rfl,zf ks,_,rfl,?_⟩
  rw[Cd]
  by_cases e:(v.kind:Int)∈ks
  .rw[decide_eq_true e]
   exact lG ⟨_,rfl,q.2 e⟩
  .rw[decide_eq_false e]
   exact j4 (q.1 e)
def isFull(s:bu)(r:Int):Prop:=Coll.KEPT<=s.l.length\/Coll.NEXT<=s.next\/(Coll.ROOM:Int)<s.room+r
inductive Y9(a:Ad)(vs:List V)(H:Hp)(Q:VK)(E:XK):Prop
 |mk (sh d:Addr) (s:bu) (r:Int) (lq:vs=[.ref sh,.int r]) (hh1:cH a H sh d s) (nY:(isFull s r->E (.ref a.iB) none H)) (hh3:(¬isFull s r->Q .non H))
def aci(a:Ad):Sp:=fun vs H Q E=>Y9 a vs H Q E
theorem qX(T:Txt K mg a):cN w K mg base 1 a.pI ["shelf","room"] (aci a):=by
 obtain⟨fd,F⟩:=T.jV.fn
 refine⟨fd,F.ok1 Oq (fun vs H Q E h=>?_) (fun cdv A outer s H vs Q E hr h=>?_),F.binds (by walk_at "b2"),F.kp⟩
 .obtain⟨sh,d,st,r,rfl,_⟩:=h
  rfl
 .obtain⟨sh,d,st,r,rfl,S,kE,kQ⟩:=h
  obtain⟨dx,h1⟩:=S.ob
  obtain⟨kvs,h2,hp⟩:=S.dict
  have hl:=gC hp
  refine⟨_,ak (cJ (PW.pt (Ig (aX abV (bZ QF rfl T.iR jC (aj (aG (pv 0) rfl) aq)) (a_ T.uI) (bx _)) (Fy (aX abV (aG (pv 0) rfl) (a_ T.xZ) (bx _))))) (au (jg T.BV rfl)) bF)
   (au (cJ (aX CJ (cB dj (aG (pv 0) rfl) (pv 1)) (a_ T.Ci) (bx _)) (au (jg T.BV rfl)) bF)),?_⟩
  refine⟨_,rfl,sh,_,dx,_,_,rfl,h1,T.fW.cl,T.dY,jt,d,kvs,rfl,h2,_,_,rfl,rfl,_,rfl,Gy (fun c=>?_) (fun c=>?_)⟩
  .have c':(1024:Int)<=(kvs.length:Nat):=c
   refine j4 (kE (.inl ?_))
   show 1024<=_
   omega
  .have c':¬(1024:Int)<=(kvs.length:Nat):=c
   refine⟨_,rfl,sh,_,dx,_,_,rfl,h1,T.fW.cl,T.fK,kI,_,_,rfl,rfl,_,rfl,Gy (fun c1=>?_) (fun c1=>?_)⟩
   .have c1':(1000000:Int)<=(st.next:Nat):=c1
    refine kE (.inr (.inl ?_))
    show 1000000<=_
    omega
   .have c1':¬(1000000:Int)<=(st.next:Nat):=c1
    refine⟨_,rfl,sh,_,dx,_,_,rfl,h1,T.fW.cl,T.lJ,w6,_,rfl,_,_,rfl,rfl,_,_,rfl,rfl,_,rfl,Gy (fun c2=>?_) (fun c2=>?_)⟩
    .exact kE (.inr (.inr c2))
    .refine kQ ?_
     rintro(z|z|z)
     .have z':1024<=st.l.length:=z
      omega
     .have z':1000000<=st.next:=z
      omega
     .exact c2 z
end
theorem nVU:¬("versions":Str)="used":=by decide+kernel
theorem nVF:¬("versions":Str)="following":=by decide+kernel
theorem nUF:¬("used":Str)="following":=by decide+kernel
theorem rZ(d:Addr)(u n:Int):pq d u n=([(("versions":Str),V.ref d),(("used":Str),V.int u),(("following":Str),V.int n)]:List (Str×V)):=by
 simp[pq,fV,nVU,nVF,nUF]
theorem VM{d:Addr}{u n z:Int}:fV "used" (.int z) (pq d u n)=pq d z n:=by
 rw[rZ,rZ];simp[fV,nVU]
theorem PX{d:Addr}{u n z:Int}:fV "following" (.int z) (pq d u n)=pq d u z:=by
 rw[rZ,rZ];simp[fV,nVF,nUF]
def rM(sh d:Addr)(H H':Hp):Prop:=∀b o,H b=some o->b≠sh->b≠d->H' b=some o
section
variable{a:Ad}{H H':Hp}{sh d:Addr}{s:bu}
theorem cH.ne(S:cH a H sh d s){b:Addr}{o:HO}(h:H b=some o)(ho:(∀C dx fs,o= .ins C dx fs->fs.lookup ("following":Str)=none)/\∀kvs,o≠ .dK kvs):b≠sh/\b≠d:=by
 obtain⟨dx,h1⟩:=S.ob
 obtain⟨kvs,h2,_⟩:=S.dict
 refine⟨fun z=>?_,fun z=>?_⟩
 .subst z
  rw[h] at h1
  have:=ho.1 _ _ _ (dJ h1)
  rw[kI] at this;cases this
 .subst z
  rw[h] at h2
  exact ho.2 kvs (dJ h2)
theorem Xp{xs:List V}:(∀C dx fs,HO.tup xs= .ins C dx fs->fs.lookup ("following":Str)=none)/\∀kvs,HO.tup xs≠ .dK kvs:=⟨fun _ _ _ z=>(by cases z),fun _ z=>(by cases z)⟩
theorem afb{xs:List V}:(∀C dx fs,HO.lst xs= .ins C dx fs->fs.lookup ("following":Str)=none)/\∀kvs,HO.lst xs≠ .dK kvs:=⟨fun _ _ _ z=>(by cases z),fun _ z=>(by cases z)⟩
theorem Xo{C dx:Addr}{fs:List (Str×V)}(h:fs.lookup ("following":Str)=none):(∀C' dx' fs',HO.ins C dx fs= .ins C' dx' fs'->fs'.lookup ("following":Str)=none)/\∀kvs,HO.ins C dx fs≠ .dK kvs:=⟨fun _ _ _ z=>(by cases z;exact h),fun _ z=>(by cases z)⟩
theorem ZD{k v p:Addr}{r:Int}:(Jf k v p r).lookup ("following":Str)=none:=by
 rw[aO,if_neg (by decide+kernel),aO,if_neg (by decide+kernel),aO,if_neg (by decide+kernel),aO,if_neg (by decide+kernel)];rfl
theorem JZ{k o r:Int}{l:Addr}:(vL k o l r).lookup ("following":Str)=none:=by
 rw[aO,if_neg (by decide+kernel),aO,if_neg (by decide+kernel),aO,if_neg (by decide+kernel),aO,if_neg (by decide+kernel)];rfl
theorem bT.Dj(S:cH a H sh d s)(e:rM sh d H H'){kind ord:Nat}{x:Addr}{en:aN}(h:bT a kind ord H x en):bT a kind ord H' x en:=by
 obtain⟨k,v,p,⟨dx,h1⟩,h2,h3,h4⟩:=h
 have n1:=S.ne h1 (Xo ZD)
 have n2:=S.ne h2 Xp
 have n3:=S.ne h3 Xp
 have n4:=S.ne h4 Xp
 exact⟨k,v,p,⟨dx,e _ _ h1 n1.1 n1.2⟩,e _ _ h2 n2.1 n2.2,e _ _ h3 n3.1 n3.2,e _ _ h4 n4.1 n4.2⟩
theorem gZ.Dj(S:cH a H sh d s)(e:rM sh d H H'){x:Addr}{v:bC}(h:gZ a H x v):gZ a H' x v:=by
 obtain⟨l,as,⟨dx,h1⟩,h2,h3⟩:=h
 have n1:=S.ne h1 (Xo JZ)
 have n2:=S.ne h2 afb
 exact⟨l,as,⟨dx,e _ _ h1 n1.1 n1.2⟩,e _ _ h2 n2.1 n2.2,Paired.iM h3 fun _ _ z=>bT.Dj S e z⟩
theorem cH.same(S:cH a H sh d s)(e:aF H H'):cH a H' sh d s:=by
 obtain⟨dx,h1⟩:=S.ob
 obtain⟨kvs,h2,hp⟩:=S.dict
 exact⟨⟨dx,e _ _ h1⟩,⟨kvs,e _ _ h2,Paired.iM hp fun _ _ ⟨z1,x,z2,z3⟩=>⟨z1,x,z2,z3.same e⟩⟩,S.below⟩
end
theorem aag(l:List (Nat×bC))(n m:Nat)(v:bC):bu.room ⟨l++[(n,v)],m⟩=bu.room ⟨l,m⟩+bY v:=by
 unfold bu.room
 rw[List.foldl_append];rfl
section
variable{w:World}{K:bw}{mg:Str->Option Value}{base:Heap}{a:Ad}
def kept(s:bu)(v:bC):bu:=⟨s.l++[(s.next,v)],s.next+1⟩
inductive acO(a:Ad)(vs:List V)(H:Hp)(Q:VK)(E:XK):Prop
 |mk (sh d x:Addr) (s:bu) (v:bC) (lq:vs=[.ref sh,.ref x]) (hh1:cH a H sh d s) (nY:gZ a H x v) (hh3:(isFull s (bY v)->E (.ref a.iB) none H)) (wO:(¬isFull s (bY v)->∀H',rM sh d H H'->cH a H' sh d (kept s v)->Q (.int s.next) H'))
def acn(a:Ad):Sp:=fun vs H Q E=>acO a vs H Q E
theorem iw(T:Txt K mg a):cN w K mg base 2 a.nQ ["shelf","version"] (acn a):=by
 obtain⟨fd,F⟩:=T.d_.fn
 obtain⟨f1,G1,b1,k1⟩:=qX (w:=w) (base:=base) T
 refine⟨fd,F.ok1 Bg (fun vs H Q E h=>?_) (fun cdv A outer s H vs Q E hr h=>?_),F.binds (by walk_at "b2"),F.kp⟩
 .obtain⟨sh,d,x,st,v,rfl,_⟩:=h
  rfl
 .obtain⟨sh,d,x,st,v,rfl,S,hv,kE,kQ⟩:=h
  have hu:=J1 hr
  obtain⟨dx,h1⟩:=S.ob
  obtain⟨kvs,h2,hp⟩:=S.dict
  have hv0:=hv
  obtain⟨l,as,⟨dv,hv1⟩,_⟩:=hv0
  have xne:=S.ne hv1 (Xo JZ)
  have shd:sh≠d:=vX h1 h2 (by intro z;cases z)
  have new:iJ kvs (Sum.inl (st.next:Int))=none:=(Ht st.next hp).1 (List.find?_eq_none.mpr fun p hpm=>by
   have:=S.below p hpm
   simp;omega)
  have kl:=gC hp
  refine⟨_,ak (cZ (aA G1 hr rfl T.jV.glob k1 b1 .nil cA (aj (pv 0) (aj (aG (pv 1) rfl) aq))))
   (ak (aK (i:=2) Bg.nd rfl (Or.inl rfl) (aG (pv 0) rfl))
   (ak (Ti hu (aG (pv 0) rfl) (pv 2) (pv 1) rfl)
   (ak (Jr (pv 0) (aG (pv 1) rfl) abz)
   (ak (Jr (pv 0) aB abz)
   (au (aL (pv 2))))))),?_⟩
  refine⟨_,rfl,_,rfl,x,_,dv,_,_,rfl,hv1,T.aC.cl,T.dh,gG,sh,d,st,_,rfl,S,kE,fun nf=>?_⟩
  have len:kvs.length<1024:=by
   have:¬Coll.KEPT<=st.l.length:=fun z=>nf (.inl z)
   have:¬1024<=st.l.length:=this
   omega
  refine⟨_,rfl,sh,_,dx,_,_,rfl,h1,T.fW.cl,T.fK,kI,?_⟩
  refine⟨_,rfl,_,rfl,sh,_,dx,_,_,rfl,h1,T.fW.cl,T.dY,jt,_,rfl,d,_,rfl,RC.k (k:=Sum.inl (st.next:Int)) h2 (fX (by omega)),?_⟩
  have h1':(L2.upd H d (.dK (putK kvs (Sum.inl (st.next:Int)) (V.ref x)))) sh=some (.ins a.jl dx (pq d st.room st.next)):=by rw[aD shd];exact h1
  have hv1':(L2.upd H d (.dK (putK kvs (Sum.inl (st.next:Int)) (V.ref x)))) x=some (.ins a.fC dv (vL v.kind v.ord l (bY v))):=by rw[aD xne.2];exact hv1
  refine⟨_,rfl,sh,_,dx,_,_,rfl,h1',T.fW.cl,T.lJ,w6,_,rfl,x,_,dv,_,_,rfl,hv1',T.aC.cl,T.dh,gG,_,_,rfl,rfl,dx,_,h1',(by rw[rZ];show 3<1000;decide),?_⟩
  rw[VM]
  refine⟨_,rfl,sh,_,dx,_,_,rfl,ao,T.fW.cl,T.fK,kI,_,_,rfl,rfl,dx,_,ao,(by rw[rZ];show 3<1000;decide),_,rfl,?_⟩
  rw[PX]
  have sS:rM sh d H (L2.upd (L2.upd (L2.upd H d (.dK (putK kvs (Sum.inl (st.next:Int)) (V.ref x)))) sh (.ins a.jl dx (pq d ((st.room:Int)+(bY v:Int)) st.next))) sh (.ins a.jl dx (pq d ((st.room:Int)+(bY v:Int)) ((st.next:Int)+1)))):=
   fun b o q n1 n2=>by rw[aD n1,aD n1,aD n2];exact q
  refine kQ nf _ sS ⟨⟨dx,?_⟩,⟨kvs++[(Sum.inl (st.next:Int),V.ref x)],?_,?_⟩,fun p hpm=>?_⟩
  .rw[ao]
   have e:((kept st v).room:Int)=(st.room:Int)+(bY v:Int):=by
    unfold kept
    rw[aag]
    show((bu.room ⟨st.l,st.next+1⟩+bY v:Nat):Int)=((bu.room st:Nat):Int)+_
    rw[Int.natCast_add];rfl
   rw[e];rfl
  .rw[aD shd.symm,aD shd.symm,ao,ab5 _ new]
  .refine Paired.snoc (Paired.iM hp fun _ _ ⟨z1,y,z2,z3⟩=>⟨z1,y,z2,gZ.Dj S sS z3⟩) ⟨rfl,x,rfl,gZ.Dj S sS hv⟩
  .rcases j9.mp hpm with hpm|hpm
   .have:=S.below p hpm
    show p.1<st.next+1
    omega
   .have:p=(st.next,v):=by simpa using hpm
    subst this
    exact Ug _
end
theorem qW:∀x y:List Int,HT.lexLt x y=(cO x y== .lt)
 |[],[]=>rfl
 |[],_::_=>rfl
 |_::_,[]=>rfl
 |x::r,y::s=>by
  rw[HT.zR,ju]
  by_cases e:x=y
  .rw[if_pos e,cP e,gk,qW r s]
  .rw[if_neg e]
   by_cases h:x<y
   .rw[fU h,decide_eq_true h];rfl
   .rw[fQ (by omega),decide_eq_false h];rfl
theorem Paired.at{α β:Type}{G:α->β->Prop}{l:List α}{m:List β}(h:Paired G l m){i:Nat}{y:β}(hy:m[i]? =some y):∃x,l[i]? =some x/\G x y:=by
 have hl:=gC h
 have hi:i<l.length:=by
  have:=(gn.mp hy).1
  omega
 obtain⟨z,hz,g⟩:=cD h (pF hi)
 rw[hy] at hz;cases hz
 exact⟨_,pF hi,g⟩
section
variable{w:World}{K:bw}{mg:Str->Option Value}{base:Heap}{a:Ad}
inductive acI(a:Ad)(kind ord:Nat)(H:Hp)(l:Addr)(es:List aN):Prop
 |mk (as:_) (lq:H l=some (.lst (as.map V.ref))) (hh1:Paired (bT a kind ord H) as es)
def gK(a:Ad)(kind ord:Nat)(H:Hp)(l:Addr)(es:List aN):Prop:=acI a kind ord H l es
inductive aaG(a:Ad)(test:List Int->List Int->Bool)(vs:List V)(H:Hp)(Q:VK):Prop
 |mk (l t:Addr) (kind ord:Nat) (es:List aN) (ps:List Int) (lq:vs=[.ref l,.ref t]) (hh1:kind≠3) (nY:gK a kind ord H l es) (hh3:oK H t ps) (wO:sortedBy (pk ord) es) (Eo:es.length<=1000000) (Ph:∀k:Nat,Cut (fun e=>test (pk ord e) ps) es k->Q (.int k) H)
def YQ(a:Ad)(test:List Int->List Int->Bool):Sp:=fun vs H Q _=>aaG a test vs H Q
theorem uW(T:Txt K mg a):cN w K mg base 1 a.iZ ["entries","place"] (YQ a fun x y=>cO x y== .lt):=by
 obtain⟨fd,F⟩:=T.ji.fn
 refine⟨fd,F.ok1 uX (fun vs H Q E h=>?_) (fun cdv A outer s H vs Q E hr h=>?_),F.binds (by walk_at "b2"),F.kp⟩
 .obtain⟨l,t,kind,ord,es,ps,rfl,_⟩:=h
  rfl
 .obtain⟨l,t,kind,ord,es,ps,rfl,hk3,⟨as,hl,hp⟩,ht,hso,hn,k⟩:=h
  have nd:=uX.nd
  have pl:=gC hp
  refine⟨_,ak (aK (i:=2) nd rfl (Or.inl rfl) aB) (ak (aK (i:=3) nd rfl (Or.inl rfl) (bZ bI rfl T.iR jC (aj (pv 0) aq)))
   (ak (pN own1 (aX Ez (pv 2) (pv 3) (bx _))
    (ak (aK (i:=4) nd rfl (Or.inl rfl) (cB Yz (cB dj (pv 2) (pv 3)) aB))
    (au (cJ (aX (Tc hr.O6) (aG (bf aU (pv 0) (pv 4) (fun _ _=>rfl)) rfl) (pv 1) (bx _)) (au (aK (i:=2) nd rfl (Or.inl rfl) (cB dj (pv 4) aB))) (au (aK (i:=3) nd rfl (Or.inl rfl) (pv 4)))))))
   (au (aL (pv 2))))),?_⟩
  refine⟨_,rfl,l,_,rfl,.inl (bN.of hl),?_⟩
  refine pP (fun σ H'=>∃(lo hi:Nat) (v4:Option V),σ=[some (.ref l),some (.ref t),some (.int lo),some (.int hi),v4]/\H'=H/\lo<=hi/\hi<=es.length/\(∀i e,i<lo->es[i]? =some e->(cO (pk ord e) ps== .lt)=true)/\(∀i e,hi<=i->es[i]? =some e->(cO (pk ord e) ps== .lt)=false))
   (fun σ _=>Bl σ 3-Bl σ 2) ⟨0,es.length,none,by rw[aW,pl];rfl,rfl,j_ _,cF _,fun i e h=>absurd h (Nat.not_lt_zero _),fun i e h q=>by
    have:=(gn.mp q).1
    omega⟩ ?_ ?_
  .rintro σ H' ⟨lo,hi,v4,rfl,rfl,h1,h2,hyes,hno⟩
   walk_at "rd"
   refine Gy (fun c=>?_) (fun c=>?_)
   .have c':lo<hi:=by omega
    walk_at "rd"
    refine⟨⟨by decide,by decide⟩,?_⟩
    have em:((lo:Int)+(hi:Int))/2=(((lo+hi)/2:Nat):Int):=by omega
    obtain⟨e,he⟩:∃e,es[(lo+hi)/2]? =some e:=⟨_,pF (by omega)⟩
    obtain⟨x,hx,kx,vx,px,⟨dx,o1⟩,_,_,o4⟩:=Paired.at hp he
    unfold plN at o4
    rw[if_neg hk3] at o4
    have sym:(fun i j=>V.int (i/j)) ((lo:Int)+(hi:Int)) 2=V.int (((lo+hi)/2:Nat):Int):=by rw[<-em]
    rw[sym]
    refine⟨_,rfl,_,rfl,l,_,_,_,rfl,rfl,bN.of hl,uZ (by rw[gw,hx];rfl),x,_,dx,_,_,rfl,o1,T.bO.cl,T.cR,eG,_,rfl,px,t,_,_,rfl,rfl,eV.of o4,eV.of ht,_,rfl,?_⟩
    rw[qW]
    refine ifB (fun c1=>?_) (fun c1=>?_)
    .walk_at "rd"
     refine⟨⟨(lo+hi)/2+1,hi,_,rfl,rfl,by omega,h2,fun i f hi' hf=>?_,hno⟩,?_⟩
     .by_cases z:i=(lo+hi)/2
      .subst z;rw[he] at hf;cases hf;exact c1
      .have:=(Uj.mp hso) i ((lo+hi)/2) (gn.mp hf).1 (by omega) (by omega)
       rw[(gn.mp hf).2,(gn.mp he).2] at this
       exact xT.mpr (yc this (xT.mp c1))
     .show(hi:Int).toNat-(((lo+hi)/2:Nat)+1:Int).toNat<(hi:Int).toNat-(lo:Int).toNat
      omega
    .walk_at "rd"
     refine⟨⟨lo,(lo+hi)/2,_,rfl,rfl,by omega,by omega,hyes,fun i f hi' hf=>?_⟩,?_⟩
     .by_cases z:i=(lo+hi)/2
      .subst z;rw[he] at hf;cases hf;exact c1
      .have:=(Uj.mp hso) ((lo+hi)/2) i (by omega) (gn.mp hf).1 (by omega)
       rw[(gn.mp hf).2,(gn.mp he).2] at this
       refine eF.mpr fun q=>?_
       exact eF.mp c1 (yc this q)
     .show(((lo+hi)/2:Nat):Int).toNat-(lo:Int).toNat<(hi:Int).toNat-(lo:Int).toNat
      omega
   .have c':lo=hi:=by omega
    subst c'
    walk_at "rd"
    exact k lo ⟨h2,hyes,hno⟩
  .rintro σ H' Q1 Q2 h ⟨v1,e1,v2,e2,i1,j1,e5,e6,b,e7,q⟩
   exact⟨v1,e1,v2,e2,i1,j1,e5,e6,b,e7,h _ _ q⟩
theorem Az(T:Txt K mg a):cN w K mg base 1 a.nJ ["entries","place"] (YQ a fun x y=> !(cO y x== .lt)):=by
 obtain⟨fd,F⟩:=T.lg.fn
 refine⟨fd,F.ok1 Bd (fun vs H Q E h=>?_) (fun cdv A outer s H vs Q E hr h=>?_),F.binds (by walk_at "b2"),F.kp⟩
 .obtain⟨l,t,kind,ord,es,ps,rfl,_⟩:=h
  rfl
 .obtain⟨l,t,kind,ord,es,ps,rfl,hk3,⟨as,hl,hp⟩,ht,hso,hn,k⟩:=h
  have nd:=Bd.nd
  have pl:=gC hp
  refine⟨_,ak (aK (i:=2) nd rfl (Or.inl rfl) aB) (ak (aK (i:=3) nd rfl (Or.inl rfl) (bZ bI rfl T.iR jC (aj (pv 0) aq)))
   (ak (pN own1 (aX Ez (pv 2) (pv 3) (bx _))
    (ak (aK (i:=4) nd rfl (Or.inl rfl) (cB Yz (cB dj (pv 2) (pv 3)) aB))
    (au (cJ (aX (Tc hr.O6) (pv 1) (aG (bf aU (pv 0) (pv 4) (fun _ _=>rfl)) rfl) (bx _)) (au (aK (i:=3) nd rfl (Or.inl rfl) (pv 4))) (au (aK (i:=2) nd rfl (Or.inl rfl) (cB dj (pv 4) aB)))))))
   (au (aL (pv 2))))),?_⟩
  refine⟨_,rfl,l,_,rfl,.inl (bN.of hl),?_⟩
  refine pP (fun σ H'=>∃(lo hi:Nat) (v4:Option V),σ=[some (.ref l),some (.ref t),some (.int lo),some (.int hi),v4]/\H'=H/\lo<=hi/\hi<=es.length/\(∀i e,i<lo->es[i]? =some e->(!(cO ps (pk ord e)== .lt))=true)/\(∀i e,hi<=i->es[i]? =some e->(!(cO ps (pk ord e)== .lt))=false))
   (fun σ _=>Bl σ 3-Bl σ 2) ⟨0,es.length,none,by rw[aW,pl];rfl,rfl,j_ _,cF _,fun i e h=>absurd h (Nat.not_lt_zero _),fun i e h q=>by
    have:=(gn.mp q).1
    omega⟩ ?_ ?_
  .rintro σ H' ⟨lo,hi,v4,rfl,rfl,h1,h2,hyes,hno⟩
   walk_at "rd"
   refine Gy (fun c=>?_) (fun c=>?_)
   .have c':lo<hi:=by omega
    walk_at "rd"
    refine⟨⟨by decide,by decide⟩,?_⟩
    have em:((lo:Int)+(hi:Int))/2=(((lo+hi)/2:Nat):Int):=by omega
    obtain⟨e,he⟩:∃e,es[(lo+hi)/2]? =some e:=⟨_,pF (by omega)⟩
    obtain⟨x,hx,kx,vx,px,⟨dx,o1⟩,_,_,o4⟩:=Paired.at hp he
    unfold plN at o4
    rw[if_neg hk3] at o4
    have sym:(fun i j=>V.int (i/j)) ((lo:Int)+(hi:Int)) 2=V.int (((lo+hi)/2:Nat):Int):=by rw[<-em]
    rw[sym]
    refine⟨_,rfl,_,rfl,_,rfl,l,_,_,_,rfl,rfl,bN.of hl,uZ (by rw[gw,hx];rfl),x,_,dx,_,_,rfl,o1,T.bO.cl,T.cR,eG,t,px,_,_,rfl,rfl,eV.of ht,eV.of o4,_,rfl,?_⟩
    rw[qW]
    refine ifB (fun c1=>?_) (fun c1=>?_)
    .walk_at "rd"
     refine⟨⟨lo,(lo+hi)/2,_,rfl,rfl,by omega,by omega,hyes,fun i f hi' hf=>?_⟩,?_⟩
     .rw[Bool.not_eq_false']
      by_cases z:i=(lo+hi)/2
      .subst z;rw[he] at hf;cases hf;exact c1
      .have:=(Uj.mp hso) ((lo+hi)/2) i (by omega) (gn.mp hf).1 (by omega)
       rw[(gn.mp hf).2,(gn.mp he).2] at this
       exact xT.mpr (qU (xT.mp c1) this)
     .show(((lo+hi)/2:Nat):Int).toNat-(lo:Int).toNat<(hi:Int).toNat-(lo:Int).toNat
      omega
    .walk_at "rd"
     refine⟨⟨(lo+hi)/2+1,hi,_,rfl,rfl,by omega,h2,fun i f hi' hf=>?_,hno⟩,?_⟩
     .rw[GR]
      by_cases z:i=(lo+hi)/2
      .subst z;rw[he] at hf;cases hf;exact c1
      .have:=(Uj.mp hso) i ((lo+hi)/2) (gn.mp hf).1 (by omega) (by omega)
       rw[(gn.mp hf).2,(gn.mp he).2] at this
       refine eF.mpr fun q=>?_
       exact eF.mp c1 (qU q this)
     .show(hi:Int).toNat-(((lo+hi)/2:Nat)+1:Int).toNat<(hi:Int).toNat-(lo:Int).toNat
      omega
   .have c':lo=hi:=by omega
    subst c'
    walk_at "rd"
    exact k lo ⟨h2,hyes,hno⟩
  .rintro σ H' Q1 Q2 h ⟨v1,e1,v2,e2,i1,j1,e5,e6,b,e7,q⟩
   exact⟨v1,e1,v2,e2,i1,j1,e5,e6,b,e7,h _ _ q⟩
def cW(kind:Nat)(es:List aN):Nat:=(es.map (vZ kind)).sum
inductive Zg(a:Ad)(vs:List V)(H:Hp)(Q:VK):Prop
 |mk (l:Addr) (kind ord:Nat) (es:List aN) (lq:vs=[.ref l]) (hh1:gK a kind ord H l es) (nY:es.length<=2000000) (hh3:∀H',aF H H'->Q (.int (cW kind es)) H')
def acs(a:Ad):Sp:=fun vs H Q _=>Zg a vs H Q
theorem V8(f:aN->Nat):∀es:List aN,(es.map fun e=>((f e:Nat):Int)).sum=(((es.map f).sum:Nat):Int)
 |[]=>rfl
 |e::r=>by rw[cU,qH,V8 f r,cU,qH,Int.natCast_add]
theorem zV(T:Txt K mg a):cN w K mg base 1 a.zc ["entries"] (acs a):=by
 obtain⟨fd,F⟩:=T.oX.fn
 refine⟨fd,F.ok1 Ow (fun vs H Q E h=>?_) (fun cdv A outer s H vs Q E hr h=>?_),F.binds (by walk_at "b1"),F.kp⟩
 .obtain⟨l,kind,ord,es,rfl,_⟩:=h
  rfl
 .obtain⟨l,kind,ord,es,rfl,⟨as,hl,hp⟩,hn,k⟩:=h
  have nd:=Ow.nd
  have pl:=gC hp
  refine⟨_,au (aL (bZ (aeG rfl) rfl T.aa0 boot_sum (aj (VF (te:=Qj K (vd 1) "room") rfl nd (iQ (pv 0)) (yW (own:=[("entry",1)]) (by kernel_rfl)) (fun _ _ _ _ _=>gH (i:=1) nd rfl (Or.inl rfl)) (fun _ _ _ _ _=>Ln) (fun _ _ _ _ _=>aG (pv 1) rfl)) aq))),?_⟩
  refine⟨_,rfl,l,rfl,⟨_,bN.of hl⟩,fun D hD=>DY (K:=K) (a:=l) (xs:=as.map V.ref) (fun i H2=>aF H H2/\H2 D=some (.lst (((es.take i).map fun e=>((vZ kind e:Nat):Int)).map V.int)))
   ⟨aF.upd hD,ao⟩ (fun i H2 _ ⟨e,_⟩=>bN.of (e _ _ hl)) ?_ ?_⟩
  .rintro i x H2 hi ⟨e,hd⟩
   obtain⟨q,hq,rfl⟩:∃q,as[i]? =some q/\x=V.ref q:=by
    rw[gw] at hi
    cases z:as[i]? with
    |none=>rw[z] at hi;cases hi
    |some y=>rw[z] at hi;exact⟨y,rfl,(dJ hi).symm⟩
   obtain⟨en,hen,kx,vx,px,⟨dx,o1⟩,_⟩:=cD hp hq
   refine⟨rfl,Ub ?_⟩
   refine⟨_,rfl,q,_,dx,_,_,rfl,e _ _ o1,T.bO.cl,T.u5,UW,_,hd,fX (by rw[aW,aW,lR];omega),fun b u z=>?_,?_⟩
   .rw[aD (aJ z hD)];exact e b u z
   .rw[ao,mY,hen,fP,fP];rfl
  .rintro H2 ⟨e,hd⟩
   rw[aW,pl,lC] at hd
   refine⟨D,_,rfl,bN.of hd,?_⟩
   rw[V8]
   exact k H2 e
inductive acP(a:Ad)(vs:List V)(H:Hp)(Q:VK):Prop
 |mk (x:Addr) (k:aQ) (o:Nat) (lq:vs=[.ref x,.int o]) (hh1:wR a H x k) (nY:readable k) (hh3:∀(H':Hp) (z:Addr),aF H H'->bT a 1 o H' z (o9 k)->Q (.ref z) H')
def afD(a:Ad):Sp:=fun vs H Q _=>acP a vs H Q
theorem HS(T:Txt K mg a):cN w K mg base 5 a.um ["key","order"] (afD a):=by
 obtain⟨fd,F⟩:=T.uD.fn
 obtain⟨f1,G1,b1,k1⟩:=n8 (w:=w) (base:=base) T
 obtain⟨f2,G2,b2,_⟩:=M7 (w:=w) (base:=base) T
 refine⟨fd,F.ok1 TJ (fun vs H Q E h=>?_) (fun cdv A outer s H vs Q E hr h=>?_),F.binds (by walk_at "b2"),F.kp⟩
 .obtain⟨x,k,o,rfl,_⟩:=h
  rfl
 .obtain⟨x,kv,o,rfl,⟨n1,⟨d1,h1⟩,t1⟩,hrd,k⟩:=h
  have hr2:cI 2 _:=hr.mono (by decide)
  refine⟨_,au (aL (j5 T.bO.Vj G2 hr2 rfl T.bO.glob b2 .nil bG (aj (aG (pv 0) rfl) (aj (iy aq)
   (aj (aA G1 hr rfl T.jj.glob k1 b1 .nil bG (aj (aG (pv 0) rfl) (aj (pv 1) aq))) (aj (cB dj aB (aG (pv 0) rfl)) aq)))))),?_⟩
  refine⟨_,rfl,x,_,d1,_,_,rfl,h1,T.d8.cl,T.b_,dg,len0,fun n2 hn2=>?_⟩
  have e0:aF H (L2.upd H n2 (.tup [])):=aF.upd hn2
  refine⟨_,rfl,x,_,d1,_,_,rfl,e0 _ _ h1,T.d8.cl,T.b_,dg,_,rfl,n1,kv,o,rfl,.inr (eV.of (e0 _ _ t1)),hrd.1,hrd.2.1,hrd.2.2,fun H1 t e1 ht=>?_⟩
  have e01:=e0.trans e1
  refine⟨_,rfl,x,_,d1,_,_,rfl,e01 _ _ h1,T.d8.cl,T.gQ,pG,_,_,rfl,rfl,?_⟩
  refine fun z dz m1 m2 m3=>made m1 m2 rfl trivial fun H2 e2 ob=>⟨rfl,?_⟩
  refine k H2 z (e01.trans e2) ⟨n1,n2,t,?_,?_,?_,?_⟩
  .have e:((vZ 1 (o9 kv):Nat):Int)=1+(iK kv:Int):=by
    unfold vZ o9
    rw[if_neg (by omega)]
    show((1+(iK kv+0):Nat):Int)=_
    omega
   rw[e];exact ob
  .exact e2 _ _ (e01 _ _ t1)
  .exact e2 _ _ (e1 _ _ ao)
  .exact e2 _ _ ht
end
theorem Paired.take{α β:Type}{F:α->β->Prop}:∀{l:List α} {m:List β} (n:Nat),Paired F l m->Paired F (l.take n) (m.take n)
 |_,_,0,_=> .nil
 |_,_,_+1,.nil=> .nil
 |_,_,n+1,.cons r t=> .cons r (Paired.take n t)
theorem Paired.drop{α β:Type}{F:α->β->Prop}:∀{l:List α} {m:List β} (n:Nat),Paired F l m->Paired F (l.drop n) (m.drop n)
 |_,_,0,h=>h
 |_,_,_+1,.nil=> .nil
 |_,_,n+1,.cons _ t=>Paired.drop n t
theorem Paired.append{α β:Type}{F:α->β->Prop}:∀{l l2:List α} {m m2:List β},Paired F l m->Paired F l2 m2->Paired F (l++l2) (m++m2)
 |_,_,_,_,.nil,h=>h
 |_,_,_,_,.cons r t,h=> .cons r (Paired.append t h)
theorem RV{as:List Addr}{i j:Nat}(h1:i<=j)(h2:j<=as.length):yZ (as.map V.ref) (some (i:Int)) (some (j:Int))=((as.drop i).take (j-i)).map V.ref:=by
 unfold yZ
 rw[HT.rB,HT.rB,aW,zL h2,zL (by omega),<-List.map_drop,<-List.map_take]
theorem aa6{as:List Addr}{j:Nat}(h2:j<=as.length):yZ (as.map V.ref) none (some (j:Int))=(as.take j).map V.ref:=by
 unfold yZ
 rw[HT.rB,HT.VR,aW,zL h2,<-List.map_drop,<-List.map_take,List.drop_zero,Nat.sub_zero]
theorem Mg{as:List Addr}{i:Nat}(h2:i<=as.length):yZ (as.map V.ref) (some (i:Int)) none=(as.drop i).map V.ref:=by
 unfold yZ
 rw[HT.rB,HT.VR,aW,zL h2,<-List.map_drop,<-List.map_take]
 congr 1
 rw[List.take_of_length_le (by rw[qm];exact cF _)]
theorem Ro(kind:Nat):∀(l:List aN) (n:Nat),l.foldl (fun(a:Nat) (e:aN)=>a+(1+(iK e.k+if kind=0\/kind=2 then iK e.x else 0))) n=n+cW kind l
 |[],n=>rfl
 |e::r,n=>by
  rw[List.foldl_cons,Ro kind r]
  unfold cW vZ
  rw[cU,qH];omega
theorem lM(v:bC):bY v=1+cW v.kind v.l:=Ro v.kind v.l 1
theorem rA(kind:Nat)(l m:List aN):cW kind (l++m)=cW kind l+cW kind m:=by simp[cW]
theorem Kc(kind:Nat)(l:List aN){i j:Nat}(h:i<=j):cW kind l=cW kind (l.take i)+cW kind ((l.drop i).take (j-i))+cW kind (l.drop j):=by
 have e1:l=l.take i++((l.drop i).take (j-i)++l.drop j):=by
  have e2:l.drop j=(l.drop i).drop (j-i):=by rw[vD];congr 1;omega
  rw[e2,LK,LK]
 have e3:cW kind l=cW kind (l.take i++((l.drop i).take (j-i)++l.drop j)):=congrArg _ e1
 rw[e3,rA,rA];omega
theorem gK.same{a:Ad}{kind ord:Nat}{H H':Hp}{l:Addr}{es:List aN}(h:gK a kind ord H l es)(e:aF H H'):gK a kind ord H' l es:=by
 obtain⟨as,h1,h2⟩:=h
 exact⟨as,e _ _ h1,Paired.iM h2 fun _ _ z=>z.same e⟩
section
variable{w:World}{K:bw}{mg:Str->Option Value}{base:Heap}{a:Ad}
inductive Wj(a:Ad)(vs:List V)(H:Hp)(Q:VK):Prop
 |mk (x:Addr) (v:bC) (i j:Nat) (lq:vs=[.ref x,.int i,.int j]) (hh1:gZ a H x v) (nY:i<=j) (hh3:j<=v.l.length) (wO:v.l.length<=1000000) (Eo:∀H',aF H H'->Q (.int (cW v.kind ((v.l.drop i).take (j-i)))) H')
def aam(a:Ad):Sp:=fun vs H Q _=>Wj a vs H Q
theorem A_(T:Txt K mg a):cN w K mg base 2 a.nU ["version","start","stop"] (aam a):=by
 obtain⟨fd,F⟩:=T.oG.fn
 obtain⟨f1,G1,b1,k1⟩:=zV (w:=w) (base:=base) T
 refine⟨fd,F.ok1 Bj (fun vs H Q E h=>?_) (fun cdv A outer s H vs Q E hr h=>?_),F.binds (by walk_at "b3"),F.kp⟩
 .obtain⟨x,v,i,j,rfl,_⟩:=h
  rfl
 .obtain⟨x,v,i,j,rfl,⟨l,as,⟨dx,h1⟩,hl,hp⟩,hij,hj,hn,k⟩:=h
  have pl:=gC hp
  refine⟨_,ak (aK (i:=3) Bj.nd rfl (Or.inl rfl) (aG (pv 0) rfl))
   (ak (cJ (aX Nt (cB abW aB (cB Jo (pv 2) (pv 1))) (bZ bI rfl T.iR jC (aj (pv 3) aq)) (bx _))
    (au (aL (aA G1 hr rfl T.oX.glob k1 b1 .nil bG (aj (k_ pQ (pv 3) (gJ (pv 1)) (gJ (pv 2))) aq)))) bF)
   (au (aL (cB Jo (cB Jo (cB Jo (aG (pv 0) rfl) aB) (aA G1 hr rfl T.oX.glob k1 b1 .nil bG (aj (k_ pQ (pv 3) Ib (gJ (pv 1))) aq)))
    (aA G1 hr rfl T.oX.glob k1 b1 .nil bG (aj (k_ pQ (pv 3) (gJ (pv 2)) Ib) aq)))))),?_⟩
  refine⟨_,rfl,x,_,dx,_,_,rfl,h1,T.aC.cl,T.aP,aV,?_⟩
  refine⟨_,rfl,_,rfl,_,_,rfl,rfl,_,_,rfl,rfl,.inl ⟨by decide,by decide⟩,_,rfl,l,_,rfl,.inl (bN.of hl),_,_,rfl,rfl,_,rfl,Gy (fun c=>?_) (fun c=>?_)⟩
  .refine⟨_,rfl,_,rfl,_,rfl,_,rfl,_,rfl,l,_,rfl,bN.of hl,fun q hq=>?_⟩
   rw[RV hij (by omega)]
   refine⟨q,v.kind,v.ord,_,rfl,⟨_,ao,Paired.iM (Paired.take (j-i) (Paired.drop i hp)) fun _ _ z=>z.same (aF.upd hq)⟩,?_,fun H2 e2=>k H2 ((aF.upd hq).trans e2)⟩
   rw[lR,qm];omega
  .refine⟨_,rfl,x,_,dx,_,_,rfl,h1,T.aC.cl,T.dh,gG,_,_,rfl,rfl,?_⟩
   refine⟨_,rfl,_,rfl,_,rfl,l,_,rfl,bN.of hl,fun q hq=>?_⟩
   rw[aa6 (by omega)]
   refine⟨q,v.kind,v.ord,_,rfl,⟨_,ao,Paired.iM (Paired.take i hp) fun _ _ z=>z.same (aF.upd hq)⟩,(by rw[lR];omega),fun H2 e2=>?_⟩
   have vJ:=(aF.upd (o:= .lst ((as.take i).map V.ref)) hq).trans e2
   refine⟨_,_,rfl,rfl,_,rfl,_,rfl,_,rfl,l,_,rfl,bN.of (vJ _ _ hl),fun q2 hq2=>?_⟩
   rw[Mg (by omega)]
   refine⟨q2,v.kind,v.ord,_,rfl,⟨_,ao,Paired.iM (Paired.drop j hp) fun _ _ z=>(z.same vJ).same (aF.upd hq2)⟩,(by rw[qm];omega),fun H3 e3=>?_⟩
   refine⟨_,_,rfl,rfl,?_⟩
   have er:(bY v:Int)-1-(cW v.kind (v.l.take i):Int)-(cW v.kind (v.l.drop j):Int)=(cW v.kind ((v.l.drop i).take (j-i)):Int):=by
    have:=Kc v.kind v.l hij
    rw[lM];omega
   have q':=k H3 ((vJ.trans (aF.upd hq2)).trans e3)
   rw[<-er] at q';exact q'
def keeps(a:Ad)(sh d:Addr)(s:bu)(v:bC)(H:Hp)(Q:VK)(E:XK):Prop:=
 (isFull s (bY v)->∀H',aF H H'->E (.ref a.iB) none H')/\(¬isFull s (bY v)->∀H',rM sh d H H'->cH a H' sh d (kept s v)->Q (.int s.next) H')
inductive Wq(a:Ad)(vs:List V)(H:Hp)(Q:VK)(E:XK):Prop
 |mk (sh d x f:Addr) (s:bu) (v:bC) (i j:Nat) (fs:List aN) (lq:vs=[.ref sh,.ref x,.int i,.int j,.ref f]) (hh1:cH a H sh d s) (nY:gZ a H x v) (hh3:gK a v.kind v.ord H f fs) (wO:fs.length<=1) (Eo:i<=j) (Ph:j<=v.l.length) (ZM:v.l.length<=1000000) (hh8:keeps a sh d s {v with l:=v.l.take i++fs++v.l.drop j} H Q E)
def aaq(a:Ad):Sp:=fun vs H Q E=>Wq a vs H Q E
theorem rM.ofS{sh d:Addr}{H H1 H2:Hp}(h:aF H H1)(g:rM sh d H1 H2):rM sh d H H2:=fun b o q n1 n2=>g b o (h b o q) n1 n2
theorem mq(T:Txt K mg a):cN w K mg base 3 a.nO ["shelf","version","start","stop","fresh"] (aaq a):=by
 obtain⟨fd,F⟩:=T.gU.fn
 obtain⟨f1,G1,b1,k1⟩:=zV (w:=w) (base:=base) T
 obtain⟨f2,G2,b2,k2⟩:=A_ (w:=w) (base:=base) T
 obtain⟨f3,G3,b3,k3⟩:=qX (w:=w) (base:=base) T
 obtain⟨f4,G4,b4,k4⟩:=iw (w:=w) (base:=base) T
 obtain⟨f5,G5,b5,_⟩:=p_ (w:=w) (base:=base) T
 refine⟨fd,F.ok1 Bf (fun vs H Q E h=>?_) (fun cdv A outer s H vs Q E hr h=>?_),F.binds (by walk_at "b5"),F.kp⟩
 .obtain⟨sh,d,x,f,st,v,i,j,fs,rfl,_⟩:=h
  rfl
 .obtain⟨sh,d,x,f,st,v,i,j,fs,rfl,S,hv,hf,hf1,hij,hj,hn,kE,kQ⟩:=h
  have hr1:cI 1 _:=hr.mono (by decide)
  have nd:=Bf.nd
  have hv0:=hv
  obtain⟨l,as,⟨dx,h1⟩,hl,hp⟩:=hv0
  have hf0:=hf
  obtain⟨fa,hfl,hfp⟩:=hf0
  have pl:=gC hp
  have pf:=gC hfp
  refine⟨_,ak (aK (i:=5) nd rfl (Or.inl rfl) (cB dj (cB Jo (aG (pv 1) rfl) (aA G2 hr rfl T.oG.glob k2 b2 .nil bG (aj (pv 1) (aj (pv 2) (aj (pv 3) aq))))) (aA G1 hr1 rfl T.oX.glob k1 b1 .nil bG (aj (pv 4) aq))))
   (ak (cZ (aA G3 hr1 rfl T.jV.glob k3 b3 .nil cA (aj (pv 0) (aj (pv 5) aq))))
   (ak (aK (i:=6) nd rfl (Or.inl rfl) (cB n_ (cB n_ (k_ pQ (aG (pv 1) rfl) Ib (gJ (pv 2))) (pv 4)) (k_ pQ (aG (pv 1) rfl) (gJ (pv 3)) Ib)))
   (au (aL (aA G4 hr rfl T.d_.glob k4 b4 .nil cA (aj (pv 0) (aj (j5 T.aC.Vj G5 hr rfl T.aC.glob b5 .nil bG (aj (aG (pv 1) rfl) (aj (aG (pv 1) rfl) (aj (pv 6) (aj (pv 5) aq))))) aq))))))),?_⟩
  refine⟨_,rfl,x,_,dx,_,_,rfl,h1,T.aC.cl,T.dh,gG,_,rfl,_,rfl,_,rfl,x,v,i,j,rfl,hv,hij,hj,hn,fun H1 e1=>?_⟩
  refine⟨_,_,rfl,rfl,_,rfl,f,v.kind,v.ord,fs,rfl,hf.same e1,by omega,fun H2 e2=>⟨_,_,rfl,rfl,?_⟩⟩
  have vJ:=e1.trans e2
  have er:(bY v:Int)-(cW v.kind ((v.l.drop i).take (j-i)):Int)+(cW v.kind fs:Int)=(bY {v with l:=v.l.take i++fs++v.l.drop j}:Int):=by
   have:=Kc v.kind v.l hij
   rw[lM,lM]
   show _=((1+cW v.kind (v.l.take i++fs++v.l.drop j):Nat):Int)
   rw[rA,rA];omega
  refine⟨_,rfl,_,rfl,sh,d,st,_,rfl,S.same vJ,fun full=>kE (er▸full) H2 vJ,fun nf=>?_⟩
  have nf':¬isFull st (bY {v with l:=v.l.take i++fs++v.l.drop j}):=fun z=>nf (er▸z)
  refine⟨_,rfl,x,_,dx,_,_,rfl,vJ _ _ h1,T.aC.cl,T.aP,aV,_,rfl,_,rfl,l,_,rfl,bN.of (vJ _ _ hl),fun q1 hq1=>?_⟩
  rw[aa6 (by omega)]
  have e3:=vJ.trans (aF.upd (o:= .lst ((as.take i).map V.ref)) hq1)
  refine⟨_,rfl,q1,f,_,_,rfl,rfl,ao,e3 _ _ hfl,cT (by rw[aW,aW,lR];omega),fun q2 hq2=>?_⟩
  rw[<-fP]
  have e4:=e3.trans (aF.upd (o:= .lst ((as.take i++fa).map V.ref)) hq2)
  refine⟨_,rfl,x,_,dx,_,_,rfl,e4 _ _ h1,T.aC.cl,T.aP,aV,_,rfl,_,rfl,l,_,rfl,bN.of (e4 _ _ hl),fun q3 hq3=>?_⟩
  rw[Mg (by omega)]
  have e5:=e4.trans (aF.upd (o:= .lst ((as.drop j).map V.ref)) hq3)
  refine⟨q2,q3,_,_,rfl,rfl,aF.upd hq3 _ _ ao,ao,cT (by rw[aW,aW,dN,lR,qm];omega),fun q4 hq4=>?_⟩
  rw[<-fP]
  have e6:=e5.trans (aF.upd (o:= .lst ((as.take i++fa++as.drop j).map V.ref)) hq4)
  refine⟨_,rfl,_,rfl,x,_,dx,_,_,rfl,e6 _ _ h1,T.aC.cl,T.bH,bQ,_,rfl,x,_,dx,_,_,rfl,e6 _ _ h1,T.aC.cl,T.bB,bM,_,rfl,_,rfl,?_⟩
  refine fun y dy n1 n2 n3=>made n1 n2 rfl trivial fun H7 e7 ob=>⟨rfl,?_⟩
  have RX:=e6.trans e7
  refine⟨sh,d,y,st,{v with l:=v.l.take i++fs++v.l.drop j},rfl,S.same RX,⟨q4,as.take i++fa++as.drop j,?_,e7 _ _ ao,?_⟩,fun z=>absurd z nf',fun _ H8 s8 S8=>kQ nf' H8 (rM.ofS RX s8) S8⟩
  .rw[<-er];exact ob
  .exact Paired.iM (Paired.append (Paired.append (Paired.take i hp) hfp) (Paired.drop j hp)) fun _ _ z=>z.same RX
inductive acT(a:Ad)(vs:List V)(H:Hp)(Q:VK)(E:XK):Prop
 |mk (sh d x:Addr) (s:bu) (v:bC) (i j:Nat) (lq:vs=[.ref sh,.ref x,.int i,.int j]) (hh1:cH a H sh d s) (nY:gZ a H x v) (hh3:i<=j) (wO:j<=v.l.length) (Eo:v.l.length<=1000000) (Ph:keeps a sh d s {v with l:=(v.l.drop i).take (j-i)} H Q E)
def afH(a:Ad):Sp:=fun vs H Q E=>acT a vs H Q E
theorem S9(T:Txt K mg a):cN w K mg base 3 a.uh ["shelf","version","start","stop"] (afH a):=by
 obtain⟨fd,F⟩:=T.xK.fn
 obtain⟨f2,G2,b2,k2⟩:=A_ (w:=w) (base:=base) T
 obtain⟨f4,G4,b4,k4⟩:=iw (w:=w) (base:=base) T
 obtain⟨f5,G5,b5,_⟩:=p_ (w:=w) (base:=base) T
 refine⟨fd,F.ok1 Ip (fun vs H Q E h=>?_) (fun cdv A outer s H vs Q E hr h=>?_),F.binds (by walk_at "b4"),F.kp⟩
 .obtain⟨sh,d,x,st,v,i,j,rfl,_⟩:=h
  rfl
 .obtain⟨sh,d,x,st,v,i,j,rfl,S,hv,hij,hj,hn,kE,kQ⟩:=h
  have nd:=Ip.nd
  have hv0:=hv
  obtain⟨l,as,⟨dx,h1⟩,hl,hp⟩:=hv0
  have pl:=gC hp
  refine⟨_,ak (aK (i:=4) nd rfl (Or.inl rfl) (cB dj aB (aA G2 hr rfl T.oG.glob k2 b2 .nil bG (aj (pv 1) (aj (pv 2) (aj (pv 3) aq))))))
   (au (aL (aA G4 hr rfl T.d_.glob k4 b4 .nil cA (aj (pv 0) (aj (j5 T.aC.Vj G5 hr rfl T.aC.glob b5 .nil bG (aj (aG (pv 1) rfl) (aj (aG (pv 1) rfl) (aj (k_ pQ (aG (pv 1) rfl) (gJ (pv 2)) (gJ (pv 3))) (aj (pv 4) aq))))) aq))))),?_⟩
  refine⟨_,rfl,_,rfl,_,rfl,x,v,i,j,rfl,hv,hij,hj,hn,fun H1 e1=>⟨_,_,rfl,rfl,?_⟩⟩
  have er:(1:Int)+(cW v.kind ((v.l.drop i).take (j-i)):Int)=(bY {v with l:=(v.l.drop i).take (j-i)}:Int):=by
   rw[lM]
   show _=((1+cW v.kind ((v.l.drop i).take (j-i)):Nat):Int)
   omega
  refine⟨_,rfl,_,rfl,x,_,dx,_,_,rfl,e1 _ _ h1,T.aC.cl,T.bH,bQ,_,rfl,x,_,dx,_,_,rfl,e1 _ _ h1,T.aC.cl,T.bB,bM,?_⟩
  refine⟨_,rfl,x,_,dx,_,_,rfl,e1 _ _ h1,T.aC.cl,T.aP,aV,_,rfl,_,rfl,_,rfl,_,rfl,l,_,rfl,bN.of (e1 _ _ hl),fun q hq=>?_⟩
  rw[RV hij (by omega)]
  have e2:=e1.trans (aF.upd (o:= .lst (((as.drop i).take (j-i)).map V.ref)) hq)
  refine⟨_,rfl,?_⟩
  refine fun y dy n1 n2 n3=>made n1 n2 rfl trivial fun H7 e7 ob=>⟨rfl,?_⟩
  have RX:=e2.trans e7
  refine⟨sh,d,y,st,{v with l:=(v.l.drop i).take (j-i)},rfl,S.same RX,⟨q,(as.drop i).take (j-i),?_,e7 _ _ ao,?_⟩,fun z=>kE z H7 RX,fun nf H8 s8 S8=>kQ nf H8 (rM.ofS RX s8) S8⟩
  .rw[<-er];exact ob
  .exact Paired.iM (Paired.take (j-i) (Paired.drop i hp)) fun _ _ z=>z.same RX
end
theorem Mq{K:bw}{H:Hp}:∀ns:List Int,Lx K H (ns.map V.int) (ns.map PyData.int)
 |[]=> .nil
 |n::r=> .cons (.int n) (Mq r)
theorem Yw:∀ns:List Int,PyData.canLayAll0 (ns.map PyData.int)=true
 |[]=>by rw[GK,PyData.canLayAll0]
 |n::r=>by rw[cU,PyData.canLayAll0,Yw r];simp[PyData.canLay0]
theorem Ye:∀ns:List Int,PyData.depthAll (ns.map PyData.int)=0
 |[]=>by rw[GK,PyData.depthAll]
 |n::r=>by rw[cU,PyData.depthAll,Ye r];simp[PyData.depth]
theorem Am(ns:List Int):SeqAt.shaped (.tuple (ns.map PyData.int))=true:=by
 unfold SeqAt.shaped
 rw[PyData.canLay0,Yw,PyData.depth,Ye];rfl
theorem R0:∀ns ms:List Int,PyData.eqvAll (ns.map PyData.int) (ms.map PyData.int)=decide (ns=ms)
 |[],[]=>by simp[PyData.eqvAll]
 |[],_::_=>by simp[PyData.eqvAll]
 |_::_,[]=>by simp[PyData.eqvAll]
 |n::r,m::s=>by
  rw[cU,cU,PyData.eqvAll,R0 r s,PyData.eqv]
  by_cases e:n=m
  .subst e;simp
  .simp[e]
theorem abT{X:Cx}(hu:X.A.units+64<cLine):Gw X (compareOp .Eq) (fun x y H Q=>∃(p q:Addr) (ns ms:List Int),x= .ref p/\y= .ref q/\eV X.K H p (ns.map V.int)/\eV X.K H q (ms.map V.int)/\Q (.bl (decide (ns=ms))) H):=by
 have b:=afh (X:=X) hu
 intro pins s σ H x y v u Q I rx ry h
 obtain⟨p,q,ns,ms,e1,e2,h1,h2,k⟩:=h
 subst e1 e2
 refine b pins s σ H _ _ v u Q I rx ry ⟨.tuple (ns.map PyData.int),.tuple (ms.map PyData.int),.tup h1 (Mq ns),.tup h2 (Mq ms),Am ns,Am ms,?_⟩
 rw[PyData.eqv,R0];exact k
section
variable{w:World}{K:bw}{mg:Str->Option Value}{base:Heap}{a:Ad}
inductive acX(a:Ad)(vs:List V)(H:Hp)(Q:VK):Prop
 |mk (x t:Addr) (v:bC) (ps:List Int) (lq:vs=[.ref x,.ref t]) (hh1:v.kind≠3) (nY:gZ a H x v) (hh3:oK H t ps) (wO:sortedBy (pk v.ord) v.l) (Eo:v.l.length<=1000000) (Ph:∀(k j:Nat) (H':Hp) (q:Addr),Cut (fun e=>cO (pk v.ord e) ps== .lt) v.l k->((∃e,v.l[k]? =some e/\pk v.ord e=ps)/\j=k+1\/(∀e,v.l[k]? =some e->pk v.ord e≠ps)/\j=k)->aF H H'->H' q=some (.tup [.int k,.int j])->Q (.ref q) H')
def afL(a:Ad):Sp:=fun vs H Q _=>acX a vs H Q
theorem Cz(T:Txt K mg a):cN w K mg base 2 a.vO ["version","place"] (afL a):=by
 obtain⟨fd,F⟩:=T.tE.fn
 obtain⟨f1,G1,b1,k1⟩:=uW (w:=w) (base:=base) T
 refine⟨fd,F.ok1 Ko (fun vs H Q E h=>?_) (fun cdv A outer s H vs Q E hr h=>?_),F.binds (by walk_at "b2"),F.kp⟩
 .obtain⟨x,t,v,ps,rfl,_⟩:=h
  rfl
 .obtain⟨x,t,v,ps,rfl,hk3,hv,ht,hso,hn,k⟩:=h
  have hv0:=hv
  obtain⟨l,as,⟨dx,h1⟩,hl,hp⟩:=hv0
  have pl:=gC hp
  refine⟨_,ak (aK (i:=2) Ko.nd rfl (Or.inl rfl) (aA G1 hr rfl T.ji.glob k1 b1 .nil bG (aj (aG (pv 0) rfl) (aj (pv 1) aq))))
   (ak (cJ (PW.pt (N8 (aX Ez (pv 2) (bZ bI rfl T.iR jC (aj (aG (pv 0) rfl) aq)) (bx _)) (Ie (aX (abT hr.units) (aG (bf aU (aG (pv 0) rfl) (pv 2) (fun _ _=>rfl)) rfl) (pv 1) (bx _)))))
    (au (aL (iy (aj (pv 2) (aj (cB dj (pv 2) aB) aq))))) bF)
   (au (aL (iy (aj (pv 2) (aj (pv 2) aq)))))),?_⟩
  refine⟨_,rfl,x,_,dx,_,_,rfl,h1,T.aC.cl,T.aP,aV,_,rfl,l,t,v.kind,v.ord,v.l,ps,rfl,hk3,⟨as,hl,hp⟩,ht,hso,hn,fun n hc=>?_⟩
  refine⟨_,rfl,_,rfl,x,_,dx,_,_,rfl,h1,T.aC.cl,T.aP,aV,l,_,rfl,.inl (bN.of hl),_,_,rfl,rfl,_,rfl,Gy (fun c=>?_) (fun c=>lG ?_)⟩
  .have c':(n:Int)<((as.map V.ref).length:Nat):=c
   rw[aW,pl] at c'
   obtain⟨e,he⟩:∃e,v.l[n]? =some e:=⟨_,pF (by omega)⟩
   obtain⟨y,hy,kx,vx,px,⟨dy,o1⟩,_,_,o4⟩:=Paired.at hp he
   unfold plN at o4
   rw[if_neg hk3] at o4
   refine⟨_,rfl,x,_,dx,_,_,rfl,h1,T.aC.cl,T.aP,aV,_,rfl,l,_,_,_,rfl,rfl,bN.of hl,uZ (by rw[gw,hy];rfl),y,_,dy,_,_,rfl,o1,T.bO.cl,T.cR,eG,_,rfl,px,t,_,_,rfl,rfl,eV.of o4,eV.of ht,_,rfl,Gy (fun c1=>?_) (fun c1=>?_)⟩
   .refine⟨_,rfl,_,rfl,_,_,rfl,rfl,len2,fun q hq=>?_⟩
    exact k n (n+1) _ q hc (.inl ⟨⟨e,he,c1⟩,rfl⟩) (aF.upd hq) (by rw[ao];rfl)
   .refine⟨_,rfl,_,rfl,len2,fun q hq=>?_⟩
    exact k n n _ q hc (.inr ⟨fun f hf=>by rw[he] at hf;cases hf;exact c1,rfl⟩) (aF.upd hq) ao
  .have c':¬(n:Int)<((as.map V.ref).length:Nat):=c
   rw[aW,pl] at c'
   refine⟨_,rfl,_,rfl,len2,fun q hq=>?_⟩
   refine k n n _ q hc (.inr ⟨fun f hf=>?_,rfl⟩) (aF.upd hq) ao
   have:=(gn.mp hf).1
   omega
end
end Kv
namespace L2
open PySem PySem.Spec PyProof.Rows
section
variable{X:Cx}{CX:Y5}{E:XK}{x:Str}{p pos:Pos}{e:Expr}{es:List Expr}{t:TA}
def acz(X:Cx)(CX:Y5)(i:Nat)(E:XK)(t:TA):TE:=fun σ H Q=>∃f k fd ps sp,σ[i]? =some (some (.ref f))/\Fg X.prog X.w X.K X.mg X.base CX k f fd ps sp/\cI k X.A/\Qo X.K (.ref f)=true/\Binds X.K fd ps []/\t σ H fun vs H1=>sp (vs++[]) H1 Q E
theorem abX(i:Nat)(hx:Passes CX X E)(ha:PA X (e::es) t)(hN:X.N[i]? =some x:=by rfl)(hv:Vis X.env.scope x:=by first|exact Or.inl rfl|exact Or.inr (Or.inl rfl))(hd:(x==("__debug__":Str))=false:=by decide)(hcd:(x==("__classdict__":Str))=false:=by decide)
  (he:starEach (e::es) X.env=(false,eval e X.env)::starEach es X.env:=by rfl)(hpl:(backTo pos (starEach es X.env)).any (·.1)=false:=by rfl):
  PE X (.Call (.Name x p) (e::es) [] pos) (acz X CX i E t):=by
 intro pins s σ H Q I h
 obtain⟨f,k,fd,ps,sp,hf,F,hr,hk,hb,q⟩:=h
 refine wpAny_Call_Name_kw (jk (ab1 (pos:=p) hN hv hd hcd pins s σ H (fun v H1=>v= .ref f/\H1=H) I ⟨.ref f,hf,rfl,rfl⟩) fun u s1 ⟨v,H1,I1,rv,ev,eH⟩=>?_)
 subst ev eH
 obtain rfl:u=Value.ref f:=rv
 refine PySem.W.callWith_K (h₀:=X.base) I1.ok.mod.kin hk (jk (ha pos pins s1 σ H1 _ I1 q) fun us s2 ⟨vs,H2,I2,r,q2⟩=>⟨I2.R7,?_⟩) he hpl
 exact acd F hr hb .nil hx I2 r q2
end
section
variable{X:Cx}{o i:Expr}{pos:Pos}{td ty:TE}
def agV(X:Cx)(td ty:TE):TE:=fun σ H Q=>td σ H fun x H1=>ty σ H1 fun y H2=>∃(d:Addr) (n:Int) (v:V) (u:Value) (kvs:List (Key×Value)),x= .ref d/\y= .int n/\(∀h:Heap,X.K.In h->h.DictOf (jm X.prog X.w) d kvs)/\valueAt kvs (.inl n)=some u/\RelV v u/\Q v H2
theorem Tf(ho:PE X o td)(hi:PE X i ty)(hs:aeA i):PE X (.Subscript o i pos) (agV X td ty):=by
 intro pins s σ H Q I h
 refine YZ PySem.F.slot_dict_getitem.lookup hs (jk (ho pins s σ H _ I h) fun u s1 ⟨x,H1,I1,rx,q1⟩=>jk (hi pins s1 σ H1 _ I1 q1) fun iv s2 ⟨y,H2,I2,ry,d,n,v,u2,kvs,ex,ey,hd,hv,rv,q2⟩=>?_)
 subst ex ey
 obtain rfl:u=Value.ref d:=rx
 have dd:=hd _ I2.R7
 refine⟨?_,wpAny_getItem_of (J2 (k:=Sum.inl n) ry) dd.mapOf hv ⟨v,H2,I2.tok _,rv,q2⟩⟩
 obtain⟨ob,es,ep,h1,h2,_⟩:=dd
 exact⟨ob,h1,h2.1⟩
end
end L2
namespace Kv
open PySem PySem.Spec PyProof.Rows L2
section
variable{w:World}{K:bw}{mg:Str->Option Value}{base:Heap}{a:Ad}
def rE(z:Int):Bool:=decide (0<=z)&&decide (z<=4294967295)
inductive Zj(K:bw)(a:Ad)(vs:List V)(H:Hp)(Q:VK)(E:XK):Prop
 |mk (l:Addr) (ws:List Int) (lq:vs=[.ref l]) (hh1:bN K H l (ws.map V.int)) (nY:(ws.all rE=false->E (.ref a.gb) none H)) (hh3:(ws.all rE=true->Q .non H))
def V6(K:bw)(a:Ad):Sp:=fun vs H Q E=>Zj K a vs H Q E
theorem KY(T:Txt K mg a):cN w K mg base 1 a.nu ["wholes"] (V6 K a):=by
 obtain⟨fd,F⟩:=T.rF.fn
 refine⟨fd,F.ok1 Ba (fun vs H Q E h=>?_) (fun cdv A outer s H vs Q E hr h=>?_),F.binds (by walk_at "b1"),F.kp⟩
 .obtain⟨l,ws,rfl,_⟩:=h
  rfl
 .obtain⟨l,ws,rfl,hl,kE,kQ⟩:=h
  have nd:=Ba.nd
  refine⟨_,au (qZ own1 rfl (iQ (pv 0)) (gH (i:=1) nd rfl (Or.inl rfl))
   (au (cJ (PW.pt (Ig (aX Ez (pv 1) aB (bx _)) (Fy (aX CJ (pv 1) (a_ T.xY) (bx _))))) (au (jg T.oM rfl)) bF))),?_⟩
  refine⟨_,rfl,l,rfl,⟨_,hl⟩,kZ (K:=K) (a:=l) (xs:=ws.map V.int) (fun i σ H'=>∃v1:Option V,σ=[some (.ref l),v1]/\H'=H/\(ws.take i).all rE=true) ⟨none,rfl,rfl,rfl⟩ (fun i σ H' _ ⟨_,_,e,_⟩=>e▸hl) ?_ ?_⟩
  .rintro i x σ H' hi ⟨v1,rfl,rfl,hall⟩
   obtain⟨z,hz,rfl⟩:∃z,ws[i]? =some z/\x=V.int z:=by
    rw[gw] at hi
    cases q:ws[i]? with
    |none=>rw[q] at hi;cases hi
    |some z=>rw[q] at hi;exact⟨z,rfl,(dJ hi).symm⟩
   have mem:z∈ws:=fZ hz
   have bad:rE z=false->ws.all rE=false:=fun h=>by
    rw[<-uV,wU]
    intro q
    rw[q z mem] at h;cases h
   refine⟨_,rfl,_,_,rfl,rfl,_,rfl,Gy (fun c=>?_) (fun c=>?_)⟩
   .refine j4 (kE (bad ?_))
    unfold rE
    rw[decide_eq_false (by omega)];rfl
   .refine⟨_,rfl,_,_,rfl,rfl,_,rfl,Gy (fun c1=>?_) (fun c1=>?_)⟩
    .refine kE (bad ?_)
     unfold rE
     have c1':(4294967295:Int)<z:=c1
     rw[decide_eq_false (show ¬z<=4294967295 by omega),Bool.and_false]
    .refine⟨some (.int z),rfl,rfl,?_⟩
     rw[mY,hz,List.all_append,hall]
     have c':¬z<0:=c
     have c1':¬(4294967295:Int)<z:=c1
     show(true&&(rE z&&true))=true
     unfold rE
     rw[decide_eq_true (show 0<=z by omega),decide_eq_true (show z<=4294967295 by omega)];rfl
  .rintro σ H' ⟨v1,rfl,rfl,hall⟩
   rw[aW,lC] at hall
   exact kQ hall
end
end Kv
namespace Kv
open PySem PySem.Spec PyProof.Rows L2
open PySem.W (exmOne)
theorem Tg{o:Option Bool}{t u v:TS}{D:Ends}{σ:L2.St}{H:Hp}(h:o=some true)(q:t D σ H):(if o=some true then t else if o=some false then u else v) D σ H:=by
 rw[if_pos h];exact q
theorem Ed{o:Option Bool}{t u v:TS}{D:Ends}{σ:L2.St}{H:Hp}(h:o=some false)(q:u D σ H):(if o=some true then t else if o=some false then u else v) D σ H:=by
 subst h
 exact q
section
variable{w:World}{K:bw}{mg:Str->Option Value}{base:Heap}{a:Ad}
structure Cat(K:bw)(a:Ad):Prop where
 rr:exmOne K (.ref a.gb) (.ref a.gb)=some true
 ar:exmOne K (.ref a.eU) (.ref a.gb)=some false
 aa:exmOne K (.ref a.eU) (.ref a.eU)=some true
 kr:exmOne K (.ref a.j8) (.ref a.gb)=some false
 ka:exmOne K (.ref a.j8) (.ref a.eU)=some false
 kk:exmOne K (.ref a.j8) (.ref a.j8)=some true
 fr:exmOne K (.ref a.iB) (.ref a.gb)=some false
 fa:exmOne K (.ref a.iB) (.ref a.eU)=some false
 fk:exmOne K (.ref a.iB) (.ref a.j8)=some false
 ff:exmOne K (.ref a.iB) (.ref a.iB)=some true
def gives(Q:VK)(H:Hp)(z:Int):Prop:=∀(l:Addr) (H':Hp),aF H H'->H' l=some (.lst [V.int z])->Q (.ref l) H'
def adq(a:Ad)(Q:VK):XK:=fun C _ H=>(C= .ref a.gb/\gives Q H (-1))\/(C= .ref a.eU/\gives Q H (-2))\/(C= .ref a.j8/\gives Q H (-3))\/(C= .ref a.iB/\gives Q H (-4))
structure Lw(w:World)(K:bw)(mg:Str->Option Value)(d:Addr)(kvs:List (Key×Value)):Prop where
 glob:mg "CALLS"=some (.ref d)
 dict:∀h:Heap,K.In h->h.DictOf (jm PP w) d kvs
inductive Y7(w:World)(K:bw)(mg:Str->Option Value)(base:Heap)(a:Ad)(kvs:List (Key×Value))(vs:List V)(H:Hp)(Q:VK):Prop
 |mk (sh wl rl tc f:Addr) (c:Int) (ws:List Int) (nw nr:Int) (kf:Nat) (fdf:FuncData) (psf:List Str) (spf:Sp) (lq:vs=[.ref sh,.int c,.ref wl,.ref rl]) (hh1:valueAt kvs (.inl c)=some (.ref tc)) (nY:eV K H tc [.int nw,.int nr,.ref f]) (hh3:Fg PP w K mg base (CX1 PP w) kf f fdf psf spf) (wO:kf<=12) (Eo:Qo K (.ref f)=true) (Ph:Binds K fdf psf []) (ZM:bN K H wl (ws.map V.int)) (hh8:(ws.all rE=false->gives Q H (-1))) (hh9:(ws.all rE=true->spf [.ref sh,.ref wl,.ref rl] H Q (adq a Q)))
def V5(w:World)(K:bw)(mg:Str->Option Value)(base:Heap)(a:Ad)(kvs:List (Key×Value)):Sp:=fun vs H Q _=>Y7 w K mg base a kvs vs H Q
theorem M8{d:Addr}{kvs:List (Key×Value)}(T:Txt K mg a)(C:Cat K a)(D0:Lw w K mg d kvs):cN w K mg base 13 a.mJ ["shelf","call","wholes","rows"] (V5 w K mg base a kvs):=by
 obtain⟨fd,F⟩:=T.tU.fn
 obtain⟨f1,G1,b1,k1⟩:=KY (w:=w) (base:=base) T
 refine⟨fd,F.ok1 Dk (fun vs H Q E h=>?_) (fun cdv A outer s H vs Q E hr h=>?_),F.binds (by walk_at "b4"),F.kp⟩
 .obtain⟨sh,wl,rl,tc,f,c,ws,nw,nr,kf,fdf,psf,spf,rfl,_⟩:=h
  rfl
 .obtain⟨sh,wl,rl,tc,f,c,ws,nw,nr,kf,fdf,psf,spf,rfl,hv,ht,FF,hkf,hkp,hb,hw,kR,kQ⟩:=h
  have hr1:cI 1 _:=hr.mono (by decide)
  refine⟨_,ak (aK (i:=4) Dk.nd rfl (Or.inl rfl) (bf fj (Tf (Lj (v:= .ref d) rfl D0.glob rfl) (pv 1) (fun _ _=>rfl)) aB (fun _ _=>rfl)))
   (au (afr (E:=adq a Q) (tb:=aav (aeo (Rw (V6 K a) [] (adq a Q) (xH (vd 2) O4))) (ad_ (acz (Pg PP w K mg base ["shelf","call","wholes","rows","work"] "answer_call" (aH tQ) a.mJ cdv A outer s H E) (CX1 PP w) 4 (adq a Q) (xH (vd 0) (xH (vd 2) (xH (vd 3) O4))))))
    ⟨_,rfl,rfl⟩ (fun pins E' hx=>ak (cZ (aA G1 hr1 rfl T.rF.glob k1 b1 .nil hx (aj (pv 2) aq))) (au (aL (abX 4 hx (aj (pv 0) (aj (pv 2) (aj (pv 3) aq)))))))
    (.cons rfl T.oM.glob (by decide) (fun e=>au (aL (bL (aj (a_ T.Fo) aq))))
     (.cons rfl T.rY.glob (by decide) (fun e=>au (aL (bL (aj (a_ T.Cj) aq))))
     (.cons rfl T.vK.glob (by decide) (fun e=>au (aL (bL (aj (a_ T.Ji) aq))))
     (.cons rfl T.BV.glob (by decide) (fun e=>au (aL (bL (aj (a_ T.Jh) aq)))) .nil)))))),?_⟩
  refine⟨_,rfl,d,c,.ref tc,_,kvs,rfl,rfl,D0.dict,hv,rfl,tc,_,2,_,rfl,rfl,ht,rfl,?_⟩
  refine⟨⟨_,rfl,wl,ws,rfl,hw,fun z=> .inl ⟨rfl,kR z⟩,fun z=>?_⟩,fun E1 σ' H' hE=>?_⟩
  .exact⟨f,kf,fdf,psf,spf,rfl,FF,hr.mono hkf,hkp,hb,_,rfl,_,rfl,_,rfl,kQ z⟩
  .have fin:∀z:Int,gives Q H' z->([V.int z]).length<=dM/\∀p,H' p=none->Q (.ref p) (L2.upd H' p (.lst [V.int z])):=fun z g=>⟨len1,fun p hp=>g p _ (aF.upd hp) ao⟩
   rcases hE with⟨e,g⟩|⟨e,g⟩|⟨e,g⟩|⟨e,g⟩
   .cases e
    exact Tg C.rr (fin _ g)
   .cases e
    exact Ed C.ar (Tg C.aa (fin _ g))
   .cases e
    exact Ed C.kr (Ed C.ka (Tg C.kk (fin _ g)))
   .cases e
    exact Ed C.fr (Ed C.fa (Ed C.fk (Tg C.ff (fin _ g))))
end
end Kv
namespace Kv
open PySem PySem.Spec PyProof.Rows L2
theorem Mh{ns:List Int}{i j:Nat}(h1:i<=j)(h2:j<=ns.length):yZ (ns.map V.int) (some (i:Int)) (some (j:Int))=((ns.drop i).take (j-i)).map V.int:=by
 unfold yZ
 rw[HT.rB,HT.rB,aW,zL h2,zL (by omega),<-List.map_drop,<-List.map_take]
def Qm(ex:List Addr)(H:Hp)(r:Addr)(row:List Int):Prop:=H r=some (.lst (row.map V.int))/\r∉ex
inductive af3(ex:List Addr)(H:Hp)(x:Addr)(c:List (List Int)):Prop
 |mk (pn:Int) (ws:List Int) (rows:List (List Int)) (wl rl:Addr) (ras:List Addr) (lq:c=(pn::ws)::rows) (hh1:H x=some (.tup [.int pn,.ref wl,.ref rl])) (nY:H wl=some (.lst (ws.map V.int))) (hh3:H rl=some (.lst (ras.map V.ref))) (wO:Paired (Qm ex H) ras rows) (Eo:wl∉ex) (Ph:rl∉ex)
def aaS(ex:List Addr)(H:Hp)(x:Addr)(c:List (List Int)):Prop:=af3 ex H x c
def isSeq:HO->Prop
 | .lst _=>True
 | .tup _=>True
 |_=>False
theorem Qm.keep{ex:List Addr}{H H':Hp}{r:Addr}{row:List Int}(h:Qm ex H r row)(k:∀b o,H b=some o->isSeq o->b∉ex->H' b=some o):Qm ex H' r row:=⟨k _ _ h.1 trivial h.2,h.2⟩
theorem aaS.keep{ex:List Addr}{H H':Hp}{x:Addr}{c:List (List Int)}(h:aaS ex H x c)(k:∀b o,H b=some o->isSeq o->b∉ex->H' b=some o)(hx:∀b∈ex,∀xs,H b≠some (.tup xs)):aaS ex H' x c:=by
 obtain⟨pn,ws,rows,wl,rl,ras,e,h1,h2,h3,h4,h5,h6⟩:=h
 refine⟨pn,ws,rows,wl,rl,ras,e,k _ _ h1 trivial fun z=>hx _ z _ h1,k _ _ h2 trivial h5,k _ _ h3 trivial h6,Paired.iM h4 fun _ _ z=>z.keep k,h5,h6⟩
def few(o:Option (Nat×Nat)):Prop:=∀n k,o=some (n,k)->k<=2
theorem adt{c:Prop}[Decidable c]{x y:Option (Nat×Nat)}(h1:few x)(h2:few y):few (if c then x else y):=by
 by_cases h:c
 .rw[if_pos h];exact h1
 .rw[if_neg h];exact h2
theorem XJ{p:Int}{n k:Nat}(h:pW p=some (n,k)):k<=2:=by
 have q:few (pW p):=by
  unfold pW
  repeat (refine adt (fun n k h=>by cases h;decide) ?_)
  intro n k h
  cases h
 exact q n k h
theorem YG:∀{cs:List (List (List Int))},(∀c∈cs,PyFlat.okCall pW c)->cs.length<=(cG cs).length
 |[],_=>cF _
 |c::cs,h=>by
  have ih:=YG fun x hx=>h x (dU _ hx)
  obtain⟨pn,ws,rows,e,_⟩:=h c fY
  subst e
  show cs.length+1<=(((pn::ws)++rP rows)++cG cs).length
  simp;omega
theorem afs{cs:List (List (List Int))}(hok:∀c∈cs,PyFlat.okCall pW c)(h:cG cs≠[]):∃pn ws rows cs3,cs=((pn::ws)::rows)::cs3/\pW pn=some (ws.length,rows.length):=by
 cases cs with
 |nil=>exact absurd rfl h
 |cons c cs3=>
  obtain⟨pn,ws,rows,e,hs⟩:=hok c fY
  exact⟨pn,ws,rows,cs3,by rw[e],hs⟩
section
variable{w:World}{K:bw}{mg:Str->Option Value}{base:Heap}{a:Ad}
def Shapes(K:bw)(kvs:List (Key×Value)):Prop:=∀(p:Int) (nw nr:Nat),pW p=some (nw,nr)->∃tc f,valueAt kvs (.inl p)=some (.ref tc)/\∀H:Hp,eV K H tc [.int nw,.int nr,.ref f]
inductive acU(K:bw)(vs:List V)(H:Hp)(Q:VK):Prop
 |mk (p:Addr) (cs:List (List (List Int))) (ex:List Addr) (lq:vs=[.ref p]) (hh1:(∀b∈ex,∃u,H b=some u/\∀xs,u≠ .tup xs)) (nY:bN K H p ((cG cs).map V.int)) (hh3:(∀c∈cs,PyFlat.okCall pW c)) (wO:(cG cs).length<=16000) (Eo:∀(H':Hp) (l:Addr) (xs:List Addr),aF H H'->H l=none->H' l=some (.lst (xs.map V.ref))->Paired (aaS (l::ex) H') xs cs->Q (.ref l) H')
def afI(K:bw):Sp:=fun vs H Q _=>acU K vs H Q
theorem PB{d:Addr}{kvs:List (Key×Value)}(T:Txt K mg a)(D0:Lw w K mg d kvs)(SH:Shapes K kvs):cN w K mg base 1 a.qL ["calls"] (afI K):=by
 obtain⟨fd,F⟩:=T.vf.fn
 refine⟨fd,F.ok1 E_ (fun vs H Q E h=>?_) (fun cdv A outer s H vs Q E hr h=>?_),F.binds (by walk_at "b1"),F.kp⟩
 .obtain⟨p,cs,ex,rfl,_⟩:=h
  rfl
 .obtain⟨p,cs,ex,rfl,hex,hS,hok,hlen,k⟩:=h
  have nd:=E_.nd
  refine⟨_,ak (aK (i:=1) nd rfl (Or.inl rfl) (bL aq)) (ak (aK (i:=2) nd rfl (Or.inl rfl) aB)
   (ak (pN own1 (aX Ez (pv 2) (bZ bI rfl T.iR jC (aj (pv 0) aq)) (bx _))
    (ak (aK (i:=3) nd rfl (Or.inl rfl) (bf aU (pv 0) (pv 2) (fun _ _=>rfl)))
    (ak (aK (i:=4) nd rfl (Or.inl rfl) (cB dj (cB dj (pv 2) aB) (bf fj (Tf (Lj (v:= .ref d) rfl D0.glob rfl) (pv 3) (fun _ _=>rfl)) aB (fun _ _=>rfl))))
    (ak (aK (i:=5) nd rfl (Or.inl rfl) (k_ pQ (pv 0) (gJ (cB dj (pv 2) aB)) (gJ (pv 4))))
    (ak (aK (i:=2) nd rfl (Or.inl rfl) (pv 4))
    (ak (aK (i:=6) nd rfl (Or.inl rfl) (bL aq))
    (ak (pN own1 (aX Ez (bZ bI rfl T.iR jC (aj (pv 6) aq)) (bf fj (Tf (Lj (v:= .ref d) rfl D0.glob rfl) (pv 3) (fun _ _=>rfl)) aB (fun _ _=>rfl)) (bx _))
     (ak (aK (i:=7) nd rfl (Or.inl rfl) (cB dj (cB dj (pv 2) aB) (bf aU (pv 0) (pv 2) (fun _ _=>rfl))))
     (ak (cZ (pM jJ vG vH jx (pv 6) (aj (k_ pQ (pv 0) (gJ (cB dj (pv 2) aB)) (gJ (pv 7))) aq)))
     (au (aK (i:=2) nd rfl (Or.inl rfl) (pv 7))))))
    (au (cZ (pM jJ vG vH jx (pv 1) (aj (iy (aj (pv 3) (aj (pv 5) (aj (pv 6) aq)))) aq)))))))))))
   (au (aL (pv 1))))),?_⟩
  refine⟨len0,fun ls hls=>?_⟩
  refine pP (fun σ H'=>∃(i:Nat) (cs1 cs2:List (List (List Int))) (xs:List Addr) (v3 v4 v5 v6 v7:Option V),σ=[some (.ref p),some (.ref ls),some (.int i),v3,v4,v5,v6,v7]/\cs=cs1++cs2/\aF H H'/\H' ls=some (.lst (xs.map V.ref))/\Paired (aaS (ls::ex) H') xs cs1/\(cG cs).drop i=cG cs2)
   (fun σ _=>(cG cs).length-Bl σ 2) ⟨0,[],cs,[],none,none,none,none,none,rfl,rfl,aF.upd hls,ao,.nil,rfl⟩ ?_ ?_
  .rintro σ H1 ⟨i,cs1,cs2,xs,v3,v4,v5,v6,v7,rfl,hcs,e1,hl1,hp1,hd⟩
   have hS1:=e1.seq hS
   refine⟨_,rfl,_,rfl,p,_,rfl,.inl hS1,_,_,rfl,rfl,_,rfl,Gy (fun c=>?_) (fun c=>?_)⟩
   .have hi:i<(cG cs).length:=by
     have c':(i:Int)<(((cG cs).map V.int).length:Nat):=c
     rw[aW] at c';omega
    have hne:cG cs2≠[]:=by
     rw[<-hd];intro z
     have:=congrArg List.length z
     rw[qm] at this;simp at this;omega
    obtain⟨pn,ws,rows,cs3,rfl,hsh⟩:=afs (fun c hc=>hok c (by rw[hcs];exact iD _ hc)) hne
    have hd':(cG cs).drop i=pn::(ws++(rP rows++cG cs3)):=by
     rw[hd]
     show((pn::ws)++rP rows)++cG cs3=_
     simp
    obtain⟨tc,f,hv,htc⟩:=SH pn _ _ hsh
    have e0:(cG cs)[i]? =some pn:=by
     have:((cG cs).drop i)[0]? =some pn:=by rw[hd'];rfl
     rwa [Bt] at this
    have agk:i+1+ws.length<=(cG cs).length:=by
     have:=congrArg List.length hd'
     rw[qm] at this;simp at this;omega
    have hd1:(cG cs).drop (i+1)=ws++(rP rows++cG cs3):=by rw[<-vD,hd'];rfl
    have ag7:yZ ((cG cs).map V.int) (some ((i:Int)+1)) (some ((i:Int)+1+(ws.length:Int)))=ws.map V.int:=by
     have:=Mh (ns:=cG cs) (i:=i+1) (j:=i+1+ws.length) (by omega) agk
     rw[hd1,show i+1+ws.length-(i+1)=ws.length by omega,List.take_left'] at this
     .exact this
     .rfl
    refine⟨_,rfl,_,rfl,p,_,_,_,rfl,rfl,hS1,kj e0,?_⟩
    refine⟨_,rfl,_,_,rfl,rfl,_,rfl,d,pn,.ref tc,_,kvs,rfl,rfl,D0.dict,hv,rfl,tc,_,0,_,rfl,rfl,htc _,rfl,_,_,rfl,rfl,?_⟩
    refine⟨_,rfl,_,rfl,_,_,rfl,rfl,_,rfl,_,rfl,_,rfl,p,_,rfl,hS1,fun wl hwl=>?_⟩
    rw[ag7]
    refine⟨_,rfl,len0,fun rl hrl=>?_⟩
    have eW:aF H1 (L2.upd H1 wl (.lst (ws.map V.int))):=aF.upd hwl
    have eR:aF (L2.upd H1 wl (.lst (ws.map V.int))) (L2.upd (L2.upd H1 wl (.lst (ws.map V.int))) rl (.lst [])):=aF.upd hrl
    have ag0:wl≠ls:=fun z=>by rw[z,hl1] at hwl;cases hwl
    have aaf:rl≠ls:=fun z=>by rw[z,eW _ _ hl1] at hrl;cases hrl
    have aoR:rl≠wl:=fun z=>by rw[z,ao] at hrl;cases hrl
    have adA:H1 rl=none:=aF.free eW hrl
    refine pP (fun σ H'=>∃(j m:Nat) (ras:List Addr) (v4 v7:Option V),σ=[some (.ref p),some (.ref ls),some (.int j),some (.int pn),v4,some (.ref wl),some (.ref rl),v7]/\m<=rows.length/\(∀b u,(L2.upd H1 wl (.lst (ws.map V.int))) b=some u->b≠rl->H' b=some u)/\H' rl=some (.lst (ras.map V.ref))/\
      Paired (Qm (ls::rl::ex) H') ras (rows.take m)/\(cG cs).drop j=rP (rows.drop m)++cG cs3/\i<j)
     (fun _ H'=>rows.length-J3 H' rl) ⟨i+1+ws.length,0,[],_,_,rfl,j_ _,fun b u q _=>eR b u q,ao,.nil,?_,by omega⟩ ?_ ?_
    .rw[<-vD,hd1,List.drop_left']
     .rfl
     .rfl
    .rintro σ H2 ⟨j,m,ras,v4',v7',rfl,hm,kp,hr2,hrp,hdj,hij⟩
     have rlen:=gC hrp
     rw[lR,zL hm] at rlen
     have hS2:bN K H2 p ((cG cs).map V.int):=by
      have s2:aF H H2:=fun b u q=>kp b u (eW b u (e1 b u q)) (aJ q (aF.free e1 adA))
      exact s2.seq hS
     refine⟨_,rfl,rl,_,rfl,.inl (bN.of hr2),_,rfl,d,pn,.ref tc,_,kvs,rfl,rfl,D0.dict,hv,rfl,tc,_,1,_,rfl,rfl,htc _,rfl,_,_,rfl,rfl,_,rfl,Gy (fun c2=>?_) (fun c2=>?_)⟩
     .have c2':((ras.map V.ref).length:Int)<(rows.length:Int):=c2
      rw[aW] at c2'
      have hmr:m<rows.length:=by omega
      obtain⟨row,hrow⟩:∃row,rows[m]? =some row:=⟨_,pF hmr⟩
      have edr:rows.drop m=row::rows.drop (m+1):=by
       rw[List.drop_eq_getElem_cons hmr]
       rw[pF hmr] at hrow
       cases hrow;rfl
      have aeW:(cG cs).drop j=(row.length:Int)::(row++(rP (rows.drop (m+1))++cG cs3)):=by
       rw[hdj,edr]
       show((((row.length:Int)::row)++rP (rows.drop (m+1)))++cG cs3)=_
       simp
      have ej:(cG cs)[j]? =some (row.length:Int):=by
       have:((cG cs).drop j)[0]? =some (row.length:Int):=by rw[aeW];rfl
       rwa [Bt] at this
      have hlen2:j+1+row.length<=(cG cs).length:=by
       have:=congrArg List.length aeW
       rw[qm] at this;simp at this;omega
      have hd2:(cG cs).drop (j+1)=row++(rP (rows.drop (m+1))++cG cs3):=by rw[<-vD,aeW];rfl
      have ag6:yZ ((cG cs).map V.int) (some ((j:Int)+1)) (some ((j:Int)+1+(row.length:Int)))=row.map V.int:=by
       have:=Mh (ns:=cG cs) (i:=j+1) (j:=j+1+row.length) (by omega) hlen2
       rw[hd2,show j+1+row.length-(j+1)=row.length by omega,List.take_left'] at this
       .exact this
       .rfl
      refine⟨_,rfl,_,_,rfl,rfl,_,rfl,_,rfl,p,_,_,_,rfl,rfl,hS2,kj ej,_,_,rfl,rfl,?_⟩
      refine⟨_,rfl,.inl ⟨rfl,_,bN.of hr2⟩,_,rfl,_,rfl,_,_,rfl,rfl,_,rfl,_,rfl,_,rfl,p,_,rfl,hS2,fun q hq=>?_⟩
      rw[ag6]
      have eq2:aF H2 (L2.upd H2 q (.lst (row.map V.int))):=aF.upd hq
      refine⟨rl,_,_,rfl,rfl,eq2 _ _ hr2,fX (by rw[aW];have:=XJ hsh;omega),_,rfl,?_⟩
      have qrl:q≠rl:=fun z=>by rw[z,hr2] at hq;cases hq
      have qls:q≠ls:=fun z=>by rw[z,kp _ _ (eW _ _ hl1) aaf.symm] at hq;cases hq
      have aej:∀b u,H2 b=some u->b≠rl->(L2.upd (L2.upd H2 q (.lst (row.map V.int))) rl (.lst (ras.map V.ref++[V.ref q]))) b=some u:=fun b u z hb=>by
       rw[aD hb];exact eq2 b u z
      refine⟨⟨j+1+row.length,m+1,ras++[q],_,_,rfl,hmr,fun b u z hb=>aej b u (kp b u z hb) hb,by rw[ao,fP];rfl,?_,?_,by omega⟩,?_⟩
      .rw[mY,hrow]
       refine Paired.snoc (Paired.iM hrp fun r Tr z=>z.keep fun b u y _ hb=>aej b u y fun e=>hb (by simp[e])) ⟨?_,by
        simp only[bU,not_or]
        exact⟨qls,qrl,fun z=>by
         obtain⟨u,q1,_⟩:=hex _ z
         have q2:=kp _ _ (eW _ _ (e1 _ _ q1)) (aJ q1 (aF.free e1 adA))
         rw[q2] at hq;cases hq⟩⟩
       rw[aD qrl,ao]
      .rw[<-vD,hd2,List.drop_left']
       rfl
      .show rows.length-J3 _ rl<rows.length-J3 H2 rl
       rw[Hy ao,Hy hr2,dN,aW]
       simp;omega
     .have c2':¬((ras.map V.ref).length:Int)<(rows.length:Int):=c2
      rw[aW] at c2'
      have hmr:m=rows.length:=by omega
      subst hmr
      rw[lC] at hrp
      rw[List.drop_length] at hdj
      refine⟨_,rfl,.inl ⟨rfl,_,bN.of (kp _ _ (eW _ _ hl1) aaf.symm)⟩,_,rfl,_,rfl,_,rfl,agw,fun t ht=>?_⟩
      have et:aF H2 (L2.upd H2 t (.tup [.int pn,.ref wl,.ref rl])):=aF.upd ht
      have hx1:=gC hp1
      refine⟨ls,_,_,rfl,rfl,et _ _ (kp _ _ (eW _ _ hl1) aaf.symm),fX (by
       rw[aW]
       have z1:=YG hok
       have z2:=congrArg List.length hcs
       rw[dN] at z2;omega),?_⟩
      have tls:t≠ls:=fun z=>by rw[z,kp _ _ (eW _ _ hl1) aaf.symm] at ht;cases ht
      have Yu:∀b u,H2 b=some u->b≠ls->(L2.upd (L2.upd H2 t (.tup [.int pn,.ref wl,.ref rl])) ls (.lst (xs.map V.ref++[V.ref t]))) b=some u:=fun b u z hb=>by
       rw[aD hb];exact et b u z
      have exw:∀{z:Addr},H1 z=none->z∉ex:=fun{z} hz y=>by
       obtain⟨u,q1,_⟩:=hex _ y
       rw[e1 _ _ q1] at hz;cases hz
      have aei:∀b u,H1 b=some u->b∉[ls]->(L2.upd (L2.upd H2 t (.tup [.int pn,.ref wl,.ref rl])) ls (.lst (xs.map V.ref++[V.ref t]))) b=some u:=fun b u z hb=>
       Yu b u (kp b u (eW b u z) (aJ z adA)) fun e=>hb (by simp[e])
      refine⟨⟨j,cs1++[(pn::ws)::rows],cs3,xs++[t],_,_,_,_,_,rfl,by rw[hcs];simp,fun b u z=>?_,by rw[ao,fP];rfl,?_,hdj⟩,?_⟩
      .exact aei b u (e1 b u z) (by simp;exact aJ z hls)
      .refine Paired.snoc (Paired.iM hp1 fun _ _ z=>z.keep (fun b u y _ hb=>aei b u y fun e=>hb (by
        have:b=ls:=by simpa using e
        rw[this];exact fY)) fun b hb ys hy=>by
        rcases bU.mp hb with z|z
        .rw[z,hl1] at hy;cases hy
        .obtain⟨u,q1,q2⟩:=hex _ z
         rw[e1 _ _ q1] at hy
         exact q2 ys (dJ hy)) ⟨pn,ws,rows,wl,rl,ras,rfl,?_,?_,?_,?_,?_,?_⟩
       .rw[aD tls,ao]
       .exact Yu _ _ (kp _ _ ao aoR.symm) ag0
       .exact Yu _ _ hr2 aaf
       .refine Paired.iM hrp fun r Tr z=>⟨Yu _ _ z.1 fun e=>z.2 (by simp[e]),fun e=>z.2 ?_⟩
        rcases bU.mp e with e|e
        .rw[e];exact fY
        .exact dU _ (dU _ e)
       .simp only[bU,not_or]
        exact⟨ag0,exw hwl⟩
       .simp only[bU,not_or]
        exact⟨aaf,exw adA⟩
      .show(cG cs).length-(j:Int).toNat<(cG cs).length-(i:Int).toNat
       omega
    .rintro σ H' Q1 Q2 h ⟨v1,e1,p1,ys,e3,e4,v2,e2,d1,n1,u1,u2,k1,x1,x2,x3,x4,x5,t1,y1,z1,z2,x6,x7,x8,x9,i1,j1,e5,e6,b,e7,q⟩
     exact⟨v1,e1,p1,ys,e3,e4,v2,e2,d1,n1,u1,u2,k1,x1,x2,x3,x4,x5,t1,y1,z1,z2,x6,x7,x8,x9,i1,j1,e5,e6,b,e7,h _ _ q⟩
   .have hi:¬i<(cG cs).length:=fun z=>c (by show(i:Int)<(((cG cs).map V.int).length:Nat);rw[aW];omega)
    have hz:cG cs2=[]:=by rw[<-hd,List.drop_eq_nil_of_le (by omega)]
    have hc2:cs2=[]:=by
     cases cs2 with
     |nil=>rfl
     |cons c r=>
      obtain⟨pn,ws,rows,e,_⟩:=hok c (by rw[hcs];exact iD _ fY)
      rw[e] at hz
      have:=congrArg List.length hz
      simp[cG,PyFlat.put1] at this
    rw[hc2,vI] at hcs
    subst hcs
    exact⟨_,rfl,k H1 ls xs e1 hls hl1 hp1⟩
  .rintro σ H' Q1 Q2 h ⟨v1,e1,v2,e2,p1,ys,e3,e4,i1,j1,e5,e6,b,e7,q⟩
   exact⟨v1,e1,v2,e2,p1,ys,e3,e4,i1,j1,e5,e6,b,e7,h _ _ q⟩
end
def ks(v:aQ):List Key:=(aZ v).map Sum.inl
theorem Sd(v:aQ):(ks v).map kV=(aZ v).map V.int:=by
 unfold ks
 rw[BK];rfl
theorem Yp:∀{x y:List Int},x.map (Sum.inl:Int->Key)=y.map Sum.inl->x=y
 |[],[],_=>rfl
 |[],_::_,h=>by simp at h
 |_::_,[],h=>by simp at h
 |a::x,b::y,h=>by
  rw[cU,cU] at h
  injection h with h1 h2
  injection h1 with h1
  rw[h1,Yp h2]
theorem Cm{v u:aQ}:ks v=ks u↔v=u:=⟨fun h=>lQ.mp (Yp h),fun h=>by rw[h]⟩
inductive acH(H:Hp)(d:Addr)(es:List aN):Prop
 |mk (kvs:_) (lq:H d=some (.dT kvs)) (hh1:kvs.length<=es.length) (nY:∀k:aQ,(iJ kvs (ks k)).isSome=jK es k)
def Wu(H:Hp)(d:Addr)(es:List aN):Prop:=acH H d es
section
variable{w:World}{K:bw}{mg:Str->Option Value}{base:Heap}{a:Ad}
inductive acQ(a:Ad)(vs:List V)(H:Hp)(Q:VK):Prop
 |mk (l:Addr) (kind ord:Nat) (es:List aN) (lq:vs=[.ref l]) (hh1:kind≠3) (nY:gK a kind ord H l es) (hh3:es.length<=1000000) (wO:∀(H':Hp) (d:Addr),aF H H'->Wu H' d es->Q (.ref d) H')
def afE(a:Ad):Sp:=fun vs H Q _=>acQ a vs H Q
theorem Xw(T:Txt K mg a):cN w K mg base 1 a.za ["entries"] (afE a):=by
 obtain⟨fd,F⟩:=T.zF.fn
 refine⟨fd,F.ok1 Ov (fun vs H Q E h=>?_) (fun cdv A outer s H vs Q E hr h=>?_),F.binds (by walk_at "b1"),F.kp⟩
 .obtain⟨l,kind,ord,es,rfl,_⟩:=h
  rfl
 .obtain⟨l,kind,ord,es,rfl,hk3,⟨as,hl,hp⟩,hn,k⟩:=h
  have nd:=Ov.nd
  have hu:=J1 hr
  have pl:=gC hp
  refine⟨_,ak (aK (i:=1) nd rfl (Or.inl rfl) NK) (ak (qZ own1 rfl (iQ (pv 0)) (gH (i:=2) nd rfl (Or.inl rfl)) (au (Ti hu (pv 1) (aG (pv 2) rfl) NB rfl))) (au (aL (pv 1)))),?_⟩
  intro d hd
  refine⟨_,rfl,l,rfl,⟨_,bN.of (aF.upd hd _ _ hl)⟩,kZ (K:=K) (a:=l) (xs:=as.map V.ref) (fun i σ H'=>∃v2:Option V,σ=[some (.ref l),some (.ref d),v2]/\aF H H'/\Wu H' d (es.take i))
   ⟨none,rfl,aF.upd hd,[],ao,j_ _,fun k=>by rw[JR];rfl⟩ (fun i σ H' _ ⟨_,_,e,_⟩=>bN.of (e _ _ hl)) ?_ ?_⟩
  .rintro i x σ H' hi ⟨v2,rfl,e,kvs,hkv,hlk,hall⟩
   obtain⟨q,hq,rfl⟩:∃q,as[i]? =some q/\x=V.ref q:=by
    rw[gw] at hi
    cases z:as[i]? with
    |none=>rw[z] at hi;cases hi
    |some y=>rw[z] at hi;exact⟨y,rfl,(dJ hi).symm⟩
   obtain⟨en,hen,kx,vx,px,⟨dx,o1⟩,o2,_⟩:=cD hp hq
   unfold sO at o2
   rw[if_neg hk3] at o2
   have o2':H' kx=some (.tup ((ks en.k).map kV)):=by rw[Sd];exact e _ _ o2
   refine⟨_,rfl,_,rfl,q,_,dx,_,_,rfl,e _ _ o1,T.bO.cl,T.dG,eY,d,_,rfl,RC.t hkv o2' (fX (by rw[lR] at hlk;omega)),?_⟩
   refine⟨some (.ref q),rfl,fun b u z=>?_,_,ao,?_,fun k=>?_⟩
   .rw[aD (aJ z hd)];exact e b u z
   .have:=qw kvs (ks en.k) (V.bl true)
    rw[lR] at hlk ⊢
    have:=(gn.mp hen).1
    omega
   .rw[DP,mY,hen]
    have eh:jK (es.take i++(some en).toList) k=(jK (es.take i) k||Coll.same en.k k):=by
     unfold jK
     rw[List.any_append];simp
    rw[eh,<-hall k]
    by_cases z:ks k=ks en.k
    .rw[if_pos z,same_iff.mpr (Cm.mp z).symm,Bool.or_true];rfl
    .rw[if_neg z,oF.mpr (fun y=>z (by rw[y])),Bool.or_false]
  .rintro σ H' ⟨v2,rfl,e,hk⟩
   rw[aW,pl,lC] at hk
   exact⟨_,rfl,k H' d e hk⟩
inductive Wt(a:Ad)(vs:List V)(H:Hp)(Q:VK):Prop
 |mk (l d:Addr) (kind ord:Nat) (es fs:List aN) (lq:vs=[.ref l,.ref d]) (hh1:kind≠3) (nY:gK a kind ord H l es) (hh3:Wu H d fs) (wO:es.length<=1000000) (Eo:∀(H':Hp) (q:Addr),aF H H'->gK a kind ord H' q (alone es fs)->Q (.ref q) H')
def aat(a:Ad):Sp:=fun vs H Q _=>Wt a vs H Q
theorem K6(T:Txt K mg a):cN w K mg base 1 a.nW ["entries","found"] (aat a):=by
 obtain⟨fd,F⟩:=T.oH.fn
 refine⟨fd,F.ok1 Bk (fun vs H Q E h=>?_) (fun cdv A outer s H vs Q E hr h=>?_),F.binds (by walk_at "b2"),F.kp⟩
 .obtain⟨l,d,kind,ord,es,fs,rfl,_⟩:=h
  rfl
 .obtain⟨l,d,kind,ord,es,fs,rfl,hk3,⟨as,hl,hp⟩,⟨kvs,hkv,_,hall⟩,hn,k⟩:=h
  have nd:=Bk.nd
  have hu:=J1 hr
  have pl:=gC hp
  refine⟨_,au (aL (VF (tt:=tB (Y0 (Qj K (vd 2) "key") (vd 1))) (te:=vd 2) rfl nd (iQ (pv 0)) (yW (own:=[("entry",2)]) (by kernel_rfl)) (fun _ _ _ _ _=>gH (i:=2) nd rfl (Or.inl rfl))
   (fun _ _ _ _ _=>YF (N6 (Ec hu (aG (pv 2) rfl) (pv 1)))) (fun _ _ _ _ _=>pv 2))),?_⟩
  refine⟨_,rfl,l,rfl,⟨_,bN.of hl⟩,fun D hD=>DY (K:=K) (a:=l) (xs:=as.map V.ref) (fun i H2=>aF H H2/\∃bs,H2 D=some (.lst (bs.map V.ref))/\bs.length<=i/\Paired (bT a kind ord H) bs (alone (es.take i) fs))
   ⟨aF.upd hD,[],ao,cF _,by rw[JR];exact .nil⟩ (fun i H2 _ ⟨e,_⟩=>bN.of (e _ _ hl)) ?_ ?_⟩
  .rintro i x H2 hi ⟨e,bs,hb,hbl,hbp⟩
   obtain⟨q,hq,rfl⟩:∃q,as[i]? =some q/\x=V.ref q:=by
    rw[gw] at hi
    cases z:as[i]? with
    |none=>rw[z] at hi;cases hi
    |some y=>rw[z] at hi;exact⟨y,rfl,(dJ hi).symm⟩
   obtain⟨en,hen,Yl⟩:=cD hp hq
   have aog:=Yl
   obtain⟨kx,vx,px,⟨dx,o1⟩,o2,_⟩:=aog
   unfold sO at o2
   rw[if_neg hk3] at o2
   have o2':H2 kx=some (.tup ((ks en.k).map kV)):=by rw[Sd];exact e _ _ o2
   have hil:=(gn.mp hen).1
   have ta:alone (es.take (i+1)) fs=alone (es.take i) fs++if jK fs en.k=true then[] else[en]:=by
    unfold alone
    rw[mY,hen,Uo]
    congr 1
    cases z:jK fs en.k<;>simp[z]
   refine⟨rfl,_,rfl,q,_,dx,_,_,rfl,e _ _ o1,T.bO.cl,T.dG,eY,_,rfl,d,_,rfl,zJ.t (e _ _ hkv) o2',_,rfl,?_⟩
   rw[hall en.k]
   cases z:jK fs en.k with
   |true=>
    refine lG ⟨e,bs,hb,by omega,?_⟩
    rw[ta,z]
    simpa using hbp
   |false=>
    refine j4 ⟨_,rfl,_,hb,fX (by rw[aW];omega),fun b u y=>?_,bs++[q],?_,by simp;omega,?_⟩
    .rw[aD (aJ y hD)];exact e b u y
    .rw[ao,fP];rfl
    .rw[ta,z]
     exact Paired.snoc hbp Yl
  .rintro H2 ⟨e,bs,hb,_,hbp⟩
   rw[aW,pl,lC] at hbp
   exact k H2 D e ⟨bs,hb,Paired.iM hbp fun _ _ z=>z.same e⟩
end
theorem Cut.drop{α:Type}{p:α->Bool}{l:List α}{k i:Nat}(c:Cut p l k)(h:i<=k):Cut p (l.drop i) (k-i):=
 ⟨by have:=c.le;rw[qm];omega,fun n x hn e=>c.yes (i+n) x (by omega) (by rw[Bt] at e;exact e),fun n x hn e=>c.no (i+n) x (by omega) (by rw[Bt] at e;exact e)⟩
theorem Cut.congr{α:Type}{p q:α->Bool}{l:List α}{k:Nat}(c:Cut p l k)(h:∀x∈l,p x=q x):Cut q l k:=
 ⟨c.le,fun n x hn e=>by rw[<-h x (fZ e)];exact c.yes n x hn e,fun n x hn e=>by rw[<-h x (fZ e)];exact c.no n x hn e⟩
theorem Wv(o:Nat)(l:List aN):jH o l []=l:=rfl
section
variable{w:World}{K:bw}{mg:Str->Option Value}{base:Heap}{a:Ad}
inductive aaI(a:Ad)(vs:List V)(H:Hp)(Q:VK):Prop
 |mk (l1 l2:Addr) (kind ord:Nat) (es fs:List aN) (lq:vs=[.ref l1,.ref l2]) (hh1:kind≠3) (nY:ord<=2) (hh3:gK a kind ord H l1 es) (wO:gK a kind ord H l2 fs) (Eo:bR es) (Ph:bR fs) (ZM:sortedBy (pk ord) es) (hh8:sortedBy (pk ord) fs) (hh9:(es.length<=1000000/\fs.length<=1000000)) (ZL:∀(H':Hp) (q:Addr),aF H H'->gK a kind ord H' q (jH ord es fs)->Q (.ref q) H')
def adX(a:Ad):Sp:=fun vs H Q _=>aaI a vs H Q
theorem Jl(T:Txt K mg a):cN w K mg base 2 a.lX ["first","second"] (adX a):=by
 obtain⟨fd,F⟩:=T.pR.fn
 obtain⟨f1,G1,b1,k1⟩:=Az (w:=w) (base:=base) T
 refine⟨fd,F.ok1 zz (fun vs H Q E h=>?_) (fun cdv A outer s H vs Q E hr h=>?_),F.binds (by walk_at "b2"),F.kp⟩
 .obtain⟨l1,l2,kind,ord,es,fs,rfl,_⟩:=h
  rfl
 .obtain⟨l1,l2,kind,ord,es,fs,rfl,hk3,ho,hL1,hL2,ge,gf,se,sf,⟨hn,hn2⟩,k⟩:=h
  have nd:=zz.nd
  have aoh:=hL1
  have aoi:=hL2
  obtain⟨as,h1,p1⟩:=aoh
  obtain⟨bs,h2,p2⟩:=aoi
  have q1:=gC p1
  have q2:=gC p2
  refine⟨_,ak (aK (i:=2) nd rfl (Or.inl rfl) (bL aq)) (ak (aK (i:=3) nd rfl (Or.inl rfl) aB) (ak (aK (i:=4) nd rfl (Or.inl rfl) aB)
   (ak (pN own1 (aX Ez (pv 4) (bZ bI rfl T.iR jC (aj (pv 1) aq)) (bx _))
    (ak (aK (i:=5) nd rfl (Or.inl rfl) (aG (bf aU (pv 1) (pv 4) (fun _ _=>rfl)) rfl))
    (ak (aK (i:=6) nd rfl (Or.inl rfl) (aA G1 hr rfl T.lg.glob k1 b1 .nil bG (aj (pv 0) (aj (pv 5) aq))))
    (ak (aK (i:=7) nd rfl (Or.inl rfl) (aA G1 hr rfl T.lg.glob k1 b1 .nil bG (aj (pv 1) (aj (pv 5) aq))))
    (ak (cZ (pM jJ Bu Bv qx (pv 2) (aj (k_ pQ (pv 0) (gJ (pv 3)) (gJ (pv 6))) aq)))
    (ak (cZ (pM jJ Bu Bv qx (pv 2) (aj (k_ pQ (pv 1) (gJ (pv 4)) (gJ (pv 7))) aq)))
    (ak (aK (i:=3) nd rfl (Or.inl rfl) (pv 6)) (au (aK (i:=4) nd rfl (Or.inl rfl) (pv 7))))))))))
   (ak (cZ (pM jJ Bu Bv qx (pv 2) (aj (k_ pQ (pv 0) (gJ (pv 3)) Ib) aq)))
   (au (aL (pv 2))))))),?_⟩
  refine⟨len0,fun lj hlj=>?_⟩
  refine pP (fun σ H'=>∃(i j:Nat) (cs:List Addr) (done:List aN) (v5 v6 v7:Option V),σ=[some (.ref l1),some (.ref l2),some (.ref lj),some (.int i),some (.int j),v5,v6,v7]/\aF H H'/\H' lj=some (.lst (cs.map V.ref))/\Paired (bT a kind ord H) cs done/\
    i<=es.length/\j<=fs.length/\done.length<=i+j/\done++jH ord (es.drop i) (fs.drop j)=jH ord es fs/\∀x∈es.take i,∀y∈fs.drop j,cO (pk ord y) (pk ord x)≠ .lt)
   (fun σ _=>fs.length-Bl σ 4) ⟨0,0,[],[],none,none,none,rfl,aF.upd hlj,ao,.nil,j_ _,j_ _,cF _,rfl,fun x hx=>by simp at hx⟩ ?_ ?_
  .rintro σ H1 ⟨i,j,cs,done,v5,v6,v7,rfl,e1,hj1,hp,hi,hj,hdl,hall,hlow⟩
   have cdl:=gC hp
   refine⟨_,rfl,_,rfl,l2,_,rfl,.inl (bN.of (e1 _ _ h2)),_,_,rfl,rfl,_,rfl,Gy (fun c=>?_) (fun c=>?_)⟩
   .have c':(j:Int)<((bs.map V.ref).length:Nat):=c
    rw[aW,q2] at c'
    have hjl:j<fs.length:=by omega
    obtain⟨e,he⟩:∃e,fs[j]? =some e:=⟨_,pF hjl⟩
    have me:e∈fs:=fZ he
    have me2:e∈fs.drop j:=by
     refine fZ (i:=0) ?_
     rw[Bt];exact he
    obtain⟨x,hx,kx,vx,px,⟨dx,o1⟩,o2,o3,o4⟩:=Paired.at p2 he
    unfold plN at o4
    rw[if_neg hk3] at o4
    refine⟨_,rfl,_,rfl,l2,_,_,_,rfl,rfl,bN.of (e1 _ _ h2),uZ (by rw[gw,hx];rfl),x,_,dx,_,_,rfl,e1 _ _ o1,T.bO.cl,T.cR,eG,?_⟩
    refine⟨_,rfl,_,rfl,l1,px,kind,ord,es,pk ord e,rfl,hk3,hL1.same e1,e1 _ _ o4,se,by omega,fun n1 c1=>?_⟩
    refine⟨_,rfl,_,rfl,l2,px,kind,ord,fs,pk ord e,rfl,hk3,hL2.same e1,e1 _ _ o4,sf,by omega,fun n2 c2=>?_⟩
    have hin:i<=n1:=by
     by_cases z:i<=n1
     .exact z
     .exfalso
      obtain⟨u,hu⟩:∃u,es[n1]? =some u:=⟨_,pF (by omega)⟩
      have t:=c1.no n1 u (cF _) hu
      rw[Bool.not_eq_false'] at t
      refine hlow u ?_ e me2 (xT.mp t)
      refine fZ (i:=n1) ?_
      rw[List.getElem?_take_of_lt (by omega)];exact hu
    have hjn:j<n2:=by
     by_cases z:j<n2
     .exact z
     .exfalso
      have t:=c2.no j e (by omega) he
      rw[Bool.not_eq_false',jw] at t
      exact absurd t (by decide)
    have cv:∀{l:List aN},bR l->∀y∈l,(!(cO (pk ord e) (pk ord y)== .lt))=upTo ord e.k y:=fun{l} gl y hy=>by
     unfold upTo
     rw[bV ho (gf e me).2 (gl y hy).2];rfl
    have gde:bR (es.drop i):=fun y hy=>ge y (Qv hy)
    have gdf:bR (fs.drop j):=fun y hy=>gf y (Qv hy)
    have turn:=Ue ho gde gdf (Qw (List.drop_sublist i es) se) (Qw (List.drop_sublist j fs) sf) (e:=e) (by rw[Bt];exact he)
     ((Cut.drop c1 hin).congr (cv gde)) ((Cut.drop c2 (by omega)).congr (cv gdf))
    rw[vD,vD,show i+(n1-i)=n1 by omega,show j+(n2-j)=n2 by omega] at turn
    have n1l:=c1.le
    have n2l:=c2.le
    refine⟨_,rfl,.inl ⟨rfl,_,bN.of hj1⟩,_,rfl,_,rfl,_,rfl,_,rfl,_,rfl,l1,_,rfl,bN.of (e1 _ _ h1),fun r1 hr1=>?_⟩
    rw[RV hin (by omega)]
    have lr1:lj≠r1:=fun z=>by rw[<-z,hj1] at hr1;cases hr1
    refine⟨lj,r1,_,_,rfl,rfl,aF.upd hr1 _ _ hj1,ao,cT (by rw[aW,aW,lR,qm];omega),?_⟩
    rw[<-fP]
    have e2:aF H (L2.upd (L2.upd H1 r1 (.lst (((as.drop i).take (n1-i)).map V.ref))) lj (.lst ((cs++(as.drop i).take (n1-i)).map V.ref))):=fun b u z=>by
     rw[aD (aJ z hlj)];exact aF.upd hr1 _ _ (e1 b u z)
    refine⟨_,rfl,.inl ⟨rfl,_,bN.of ao⟩,_,rfl,_,rfl,_,rfl,_,rfl,_,rfl,l2,_,rfl,bN.of (e2 _ _ h2),fun r2 hr2=>?_⟩
    rw[RV (qz hjn) (by omega)]
    refine⟨lj,r2,_,_,rfl,rfl,aF.upd hr2 _ _ ao,ao,cT (by rw[aW,aW,dN,lR,lR,qm,qm];omega),?_⟩
    rw[<-fP]
    refine⟨_,rfl,_,rfl,?_⟩
    refine⟨⟨n1,n2,cs++(as.drop i).take (n1-i)++(bs.drop j).take (n2-j),done++(es.drop i).take (n1-i)++(fs.drop j).take (n2-j),_,_,_,rfl,fun b u z=>?_,ao,?_,n1l,n2l,?_,?_,?_⟩,?_⟩
    .rw[aD (aJ z hlj)];exact aF.upd hr2 _ _ (e2 b u z)
    .exact Paired.append (Paired.append hp (Paired.take (n1-i) (Paired.drop i p1))) (Paired.take (n2-j) (Paired.drop j p2))
    .rw[dN,dN,lR,lR,qm,qm];omega
    .rw[<-hall,turn];simp
    .intro u hu y hy z
     obtain⟨n,hn1,hu1⟩:=jD hu
     obtain⟨m,hm1,hy1⟩:=uq hy
     have t1:=c1.yes n u hn1 hu1
     have t2:=c2.no m y hm1 hy1
     rw[GR] at t1
     rw[Bool.not_eq_false'] at t2
     exact eF.mp t1 (jU (xT.mp t2) z)
    .show fs.length-(n2:Int).toNat<fs.length-(j:Int).toNat
     omega
   .have c':¬(j:Int)<((bs.map V.ref).length:Nat):=c
    rw[aW,q2] at c'
    have hjl:j=fs.length:=by omega
    refine⟨_,rfl,.inl ⟨rfl,_,bN.of hj1⟩,_,rfl,_,rfl,_,rfl,l1,_,rfl,bN.of (e1 _ _ h1),fun r1 hr1=>?_⟩
    rw[Mg (by omega)]
    refine⟨lj,r1,_,_,rfl,rfl,aF.upd hr1 _ _ hj1,ao,cT (by rw[aW,aW,qm];omega),?_⟩
    rw[<-fP]
    have e2:aF H (L2.upd (L2.upd H1 r1 (.lst ((as.drop i).map V.ref))) lj (.lst ((cs++as.drop i).map V.ref))):=fun b u z=>by
     rw[aD (aJ z hlj)];exact aF.upd hr1 _ _ (e1 b u z)
    refine⟨_,rfl,k _ lj e2 ⟨_,ao,?_⟩⟩
    rw[<-hall,hjl,List.drop_length,Wv]
    exact Paired.iM (Paired.append hp (Paired.drop i p1)) fun _ _ z=>z.same e2
  .rintro σ H' Q1 Q2 h ⟨v1,e1,v2,e2,p1,ys,e3,e4,i1,j1,e5,e6,b,e7,q⟩
   exact⟨v1,e1,v2,e2,p1,ys,e3,e4,i1,j1,e5,e6,b,e7,h _ _ q⟩
def Xc(a:Ad)(sh d:Addr)(s:bu)(v:bC)(H:Hp)(Q:VK)(E:XK):Prop:=
 (isFull s (bY v)->∀H',aF H H'->E (.ref a.iB) none H')/\(¬isFull s (bY v)->∀(H':Hp) (q:Addr),rM sh d H H'->cH a H' sh d (kept s v)->H' q=some (.lst [.int 0,.int s.next])->Q (.ref q) H')
theorem Vg{sh d:Addr}{s:bu}{v:bC}{H H1:Hp}{Q:VK}{E:XK}(k:Xc a sh d s v H Q E)(e:aF H H1):
  keeps a sh d s v H1 (fun x H2=>∀p,H2 p=none->Q (.ref p) (L2.upd H2 p (.lst [.int 0,x]))) E:=
 ⟨fun z H' e'=>k.1 z H' (e.trans e'),fun z H' sS S p hp=>k.2 z _ p (fun b o q n1 n2=>by rw[aD (aJ (sS b o (e b o q) n1 n2) hp)];exact sS b o (e b o q) n1 n2) (S.same (aF.upd hp)) ao⟩
inductive Ws(a:Ad)(vs:List V)(H:Hp)(Q:VK)(E:XK):Prop
 |mk (sh d x z:Addr) (s:bu) (v:bC) (e:aN) (lq:vs=[.ref sh,.ref x,.ref z]) (hh1:v.kind<=1) (nY:v.ord<=2) (hh3:cH a H sh d s) (wO:gZ a H x v) (Eo:bT a v.kind v.ord H z e) (Ph:good e.k) (ZM:bR v.l) (hh8:rising v.ord v.l) (hh9:v.l.length<=1000000) (ZL:Xc a sh d s {v with l:=Coll.putIn v.ord e v.l} H Q E)
def aas(a:Ad):Sp:=fun vs H Q E=>Ws a vs H Q E
theorem zu(T:Txt K mg a):cN w K mg base 4 a.lY ["shelf","version","entry"] (aas a):=by
 obtain⟨fd,F⟩:=T.mC.fn
 obtain⟨f1,G1,b1,k1⟩:=Cz (w:=w) (base:=base) T
 obtain⟨f2,G2,b2,k2⟩:=mq (w:=w) (base:=base) T
 refine⟨fd,F.ok1 zA (fun vs H Q E h=>?_) (fun cdv A outer s H vs Q E hr h=>?_),F.binds (by walk_at "b3"),F.kp⟩
 .obtain⟨sh,d,x,z,st,v,e,rfl,_⟩:=h
  rfl
 .obtain⟨sh,d,x,z,st,v,e,rfl,hk,ho,S,hv,hz,gd,gl,rl,hn,kk⟩:=h
  have hr2:cI 2 _:=hr.mono (by decide)
  have hz0:=hz
  obtain⟨kx,vx,px,⟨dz,o1⟩,o2,o3,o4⟩:=hz0
  unfold plN at o4
  rw[if_neg (by omega)] at o4
  refine⟨_,ak (aK (i:=3) zA.nd rfl (Or.inl rfl) (aA G1 hr2 rfl T.tE.glob k1 b1 .nil bG (aj (pv 1) (aj (aG (pv 2) rfl) aq))))
   (au (aL (bL (aj (a_ T.iu) (aj (aA G2 hr rfl T.gU.glob k2 b2 .nil cA (aj (pv 0) (aj (pv 1) (aj (bf fj (pv 3) aB (fun _ _=>rfl)) (aj (bf fj (pv 3) aB (fun _ _=>rfl)) (aj (bL (aj (pv 2) aq)) aq)))))) aq))))),?_⟩
  refine⟨_,rfl,_,rfl,z,_,dz,_,_,rfl,o1,T.bO.cl,T.cR,eG,x,px,v,pk v.ord e,rfl,by omega,hv,o4,tM ho gl rl,hn,fun n j H1 q hc hj e1 hq=>?_⟩
  have hc':Cut (before v.ord e.k) v.l n:=hc.congr fun y hy=>by
   unfold before
   rw[bV ho (gl y hy).2 gd.2];rfl
  have hnl:=hc.le
  have put:=Rm ho gd gl hc'
  have res:n<=j/\j<=v.l.length/\v.l.take n++[e]++v.l.drop j=Coll.putIn v.ord e v.l:=by
   rcases hj with⟨⟨f,hf,hpf⟩,rfl⟩|⟨hno,rfl⟩
   .have mf:=fZ hf
    have:=(gn.mp hf).1
    refine⟨by omega,by omega,?_⟩
    rw[put.1 f hf ((uK ho (gl f mf) gd).mp hpf)];simp
   .refine⟨cF _,hnl,?_⟩
    rw[put.2 fun f hf q=>hno f hf ((uK ho (gl f (fZ hf)) gd).mpr q)];simp
  refine⟨_,rfl,_,rfl,_,rfl,q,_,0,_,rfl,rfl,eV.of hq,rfl,_,rfl,q,_,1,_,rfl,rfl,eV.of hq,rfl,_,rfl,len1,fun g hg=>?_⟩
  have e2:=e1.trans (aF.upd (o:= .lst [V.ref z]) hg)
  refine⟨sh,d,x,g,st,v,n,j,[e],rfl,S.same e2,hv.same e2,⟨[z],ao,.cons (hz.same e2) .nil⟩,cF _,res.1,res.2.1,hn,?_⟩
  rw[res.2.2]
  have kq:=Vg kk e2
  exact⟨kq.1,fun nf H' sS S'=>⟨len2,kq.2 nf H' sS S'⟩⟩
end
end Kv
namespace Kv
open Coll
open CollNeutral (valueN valuesN)
def jh(v:Value):Prop:=(valueN v).length<=16000/\tR (valueN v)
def HJ(v:Value):Prop:=valueOk v=true/\jh v
theorem HJ.proper{v:Value}(h:HJ v):proper v=true:=by
 have:=h.1
 unfold valueOk at this
 exact(gB.mp this).1
theorem HJ.good{v:Value}(h:HJ v):good v:=⟨h.proper,aa7 h.2.2 h.proper⟩
def xr(kind:Nat)(e:Entry):Prop:=HJ e.k/\HJ e.x/\((kind=1\/kind=3)->e.x=e.k)
structure g_(v:Ver):Prop where
 kind:v.kind<=3
 ord:v.ord<=2
 row:v.kind=3->v.ord=0
 ents:∀e∈v.l,xr v.kind e
 up:v.kind<=1->rising v.ord v.l
 weak:v.kind=2->sortedBy (pk v.ord) v.l
theorem g_.bR{v:Ver}(h:g_ v):bR v.l:=fun e he=>(h.ents e he).1.good
theorem g_.sorted{v:Ver}(h:g_ v)(hk:v.kind≠3):sortedBy (pk v.ord) v.l:=by
 by_cases z:v.kind<=1
 .exact tM h.ord h.bR (h.up z)
 .exact h.weak (by have:=h.kind;omega)
structure pU(s:State):Prop where
 vers:∀p∈s.l,g_ p.2
 room:s.room<=1000000
 nodup:(s.l.map (·.1)).Nodup
 below:∀p∈s.l,p.1<s.next
theorem acy:pU start:=⟨fun p hp=>by simp[start] at hp,by decide,by simp[start],fun p hp=>by simp[start] at hp⟩
theorem get_mem{s:State}{n:Nat}{v:Ver}(h:s.get n=some v):(n,v)∈s.l:=by
 unfold State.get at h
 cases e:(s.l.find? fun(x:Nat×Ver)=>x.1==n) with
 |none=>rw[e] at h;cases h
 |some p=>
  rw[e] at h
  have hv:p.2=v:=by simpa using h
  have hm:=List.mem_of_find?_eq_some e
  have hn:=List.find?_some e
  have hn':p.1=n:=by simpa using hn
  rw[<-hv,<-hn'];exact hm
theorem pU.get{s:State}(h:pU s){n:Nat}{v:Ver}(e:s.get n=some v):g_ v:=h.vers _ (get_mem e)
theorem adu(l:List (Nat×Ver))(n:Nat):l.foldl (fun(a:Nat) (x:Nat×Ver)=>a+bY x.2) n=n+(l.map fun x=>bY x.2).sum:=by
 induction l generalizing n with
 |nil=>simp
 |cons x r ih=>rw[List.foldl_cons,ih,cU,qH];omega
theorem v8(s:State):s.room=(s.l.map fun x=>bY x.2).sum:=by
 unfold State.room
 rw[adu];omega
theorem ad6{l:List Nat}{n:Nat}(h:n∈l):n<=l.sum:=by
 induction l with
 |nil=>simp at h
 |cons x r ih=>
  rw[qH]
  rcases bU.mp h with e|e
  .omega
  .have:=ih e;omega
theorem MP(v:Ver):v.l.length+1<=bY v:=by
 have go:∀(l:List Entry) (n:Nat),l.length+n<=l.foldl (fun(a:Nat) (e:Entry)=>a+(1+(size e.k+if v.kind=0\/v.kind=2 then size e.x else 0))) n:=fun l=>by
  induction l with
  |nil=>intro n;simp
  |cons x r ih=>
   intro n
   rw[List.foldl_cons,pD]
   refine mR ?_ (ih _)
   omega
 exact go v.l 1
theorem pU.YJ{s:State}(h:pU s){n:Nat}{v:Ver}(e:s.get n=some v):bY v<=s.room:=by
 rw[v8]
 exact ad6 (uU.mpr ⟨_,get_mem e,rfl⟩)
theorem pU.len{s:State}(h:pU s){n:Nat}{v:Ver}(e:s.get n=some v):v.l.length<1000000:=by
 have h1:=h.YJ e
 have h2:=MP v
 have h3:=h.room
 omega
theorem Lh{s:State}(h:pU s){v:Ver}(hv:g_ v):pU (s.make v).1:=by
 unfold State.make
 split
 .exact h
 .rename_i hn
  have hr:¬ROOM<s.room+bY v:=fun z=>hn (.inr (.inr z))
  refine⟨fun p hp=>?_,?_,?_,fun p hp=>?_⟩
  .rcases j9.mp hp with hp|hp
   .exact h.vers p hp
   .rw[rN.mp hp];exact hv
  .have e:=v8 s
   have e2:=v8 ⟨s.l++[(s.next,v)],s.next+1⟩
   show bu.room ⟨s.l++[(s.next,v)],s.next+1⟩<=_
   rw[e2,fP,List.sum_append]
   unfold ROOM at hr
   simp
   omega
  .show((s.l++[(s.next,v)]).map (·.1)).Nodup
   rw[fP,List.nodup_append]
   refine⟨h.nodup,by simp,fun x hx y hy=>?_⟩
   have hy':y=s.next:=by simpa using hy
   obtain⟨p,hp,rfl⟩:=uU.mp hx
   have:=h.below p hp
   omega
  .rcases j9.mp hp with hp|hp
   .have:=h.below p hp
    show p.1<s.next+1
    omega
   .rw[rN.mp hp];exact Ug _
theorem tH{s:State}(h:pU s){n:Nat}{ok:Nat->Bool}{f:Ver->Option (List Entry)}{no:Answer}(k:∀v l,s.get n=some v->ok v.kind=true->f v=some l->g_ {v with l:=l}):pU (s.from n ok f no).1:=by
 unfold State.from
 cases e:s.get n with
 |none=>exact h
 |some v=>
  show pU (if ok v.kind=false then refuse s .kind else match f v with|some l=>s.make {v with l:=l}|none=>(s,no)).1
  cases e1:ok v.kind with
  |false=>rw[if_pos rfl];exact h
  |true=>
   rw[if_neg (by simp)]
   cases e2:f v with
   |none=>exact h
   |some l=>exact Lh h (k v l e e1 e2)
theorem vq{s:State}{n:Nat}{ok:Nat->Bool}{f:Ver->Answer}:(s.ask n ok f).1=s:=by
 unfold State.ask
 cases s.get n with
 |none=>rfl
 |some v=>
  show(if ok v.kind=false then refuse s .kind else(s,f v)).1=s
  split<;>rfl
theorem g_.sub{v:Ver}(h:g_ v){l:List Entry}(hs:l.Sublist v.l):g_ {v with l:=l}:=
 ⟨h.kind,h.ord,h.row,fun e he=>h.ents e (hs.subset he),fun z=>Qw hs (h.up z),fun z=>Qw hs (h.weak z)⟩
theorem g_.rowOf{v:Ver}(h:g_ v)(hk:v.kind=3){l:List Entry}(hm:∀e∈l,xr 3 e):g_ {v with l:=l}:=
 ⟨h.kind,h.ord,h.row,fun e he=>by show xr v.kind e;rw[hk];exact hm e he,fun z=>by have z':v.kind<=1:=z;omega,fun z=>by have z':v.kind=2:=z;omega⟩
theorem Li{kind:Nat}{x:Value}(h:HJ x):xr kind (one x):=⟨h,h,fun _=>rfl⟩
theorem yd{o:Nat}{e:Entry}{l:List Entry}{P:Entry->Prop}(he:P e)(hl:∀x∈l,P x):∀x∈putIn o e l,P x:=fun x hx=>by
 rcases Ea hx with z|z
 .rw[z];exact he
 .exact hl x z
theorem N7{o:Nat}(ho:o<=2){kind:Nat}:∀{m l:List Entry},(∀x∈l,xr kind x)->(∀x∈m,xr kind x)->rising o l->(∀x∈puts o l m,xr kind x)/\rising o (puts o l m)
 |[],l,hl,_,rl=>⟨hl,rl⟩
 |e::m,l,hl,hm,rl=>by
  have he:=hm e fY
  have gl:bR l:=fun x hx=>(hl x hx).1.good
  exact N7 ho (l:=putIn o e l) (yd he hl) (fun x hx=>hm x (dU _ hx)) (q_ ho he.1.good gl rl)
theorem Ly{o:Nat}(ho:o<=2){kind:Nat}:∀{m l:List Entry},(∀x∈l,xr kind x)->(∀x∈m,xr kind x)->sortedBy (pk o) l->(∀x∈jH o l m,xr kind x)/\sortedBy (pk o) (jH o l m)
 |[],l,hl,_,rl=>⟨hl,rl⟩
 |e::m,l,hl,hm,rl=>by
  have he:=hm e fY
  have gl:bR l:=fun x hx=>(hl x hx).1.good
  refine Ly ho (l:=addIn o e l) (fun x hx=>?_) (fun x hx=>hm x (dU _ hx)) (zK ho he.1.good gl rl).1
  rcases vC.mp hx with z|z
  .rw[z];exact he
  .exact hl x z
theorem Rh{o:Nat}:∀{l:List Entry} {x:Entry},x∈l.foldr (sortIn o) []->x∈l
 |[],x,h=>h
 |e::l,x,h=>by
  rw[List.foldr_cons] at h
  rcases zT h with z|z
  .rw[z];exact fY
  .exact dU _ (Rh z)
theorem Z0{v u:Ver}{how:Nat}(hv:g_ v)(hu:g_ u)(hk:v.kind=u.kind)(ho:v.ord=u.ord)(hh:¬(how≠0/\2<=v.kind)):g_ {v with l:=joined v u how}:=by
 have agP:∀p:Entry->Bool,g_ {v with l:=v.l.filter p}:=fun p=>hv.sub List.filter_sublist
 by_cases h0:how=0
 .subst h0
  show g_ {v with l:=if v.kind=3 then v.l++u.l else if v.kind=2 then u.l.foldl (fun(l:List Entry) (e:Entry)=>addIn v.ord e l) v.l else puts v.ord v.l u.l}
  have hum:∀e∈u.l,xr v.kind e:=fun e he=>by rw[hk];exact hu.ents e he
  by_cases h3:v.kind=3
  .rw[if_pos h3]
   refine hv.rowOf h3 fun e he=>?_
   rcases j9.mp he with z|z
   .rw[<-h3];exact hv.ents e z
   .rw[<-h3];exact hum e z
  .rw[if_neg h3]
   by_cases h2:v.kind=2
   .rw[if_pos h2]
    have:=Ly hv.ord (kind:=v.kind) hv.ents hum (hv.weak h2)
    exact⟨hv.kind,hv.ord,hv.row,this.1,fun z=>by have z':v.kind<=1:=z;omega,fun _=>this.2⟩
   .rw[if_neg h2]
    have hk1:v.kind<=1:=by have:=hv.kind;omega
    have:=N7 hv.ord (kind:=v.kind) hv.ents hum (hv.up hk1)
    exact⟨hv.kind,hv.ord,hv.row,this.1,fun _=>this.2,fun z=>absurd z h2⟩
 .have hk1:v.kind<=1:=by
   by_cases z:2<=v.kind
   .exact absurd ⟨h0,z⟩ hh
   .omega
  unfold joined
  split
  .exact absurd rfl h0
  .exact agP _
  .exact agP _
  .have:=N7 hv.ord (kind:=v.kind) (l:=v.l.filter fun(e:Entry)=> !hasKey u.l e.k) (m:=u.l.filter fun(e:Entry)=> !hasKey v.l e.k) (fun x hx=>hv.ents x (yU.mp hx).1)
    (fun x hx=>by rw[hk];exact hu.ents x (yU.mp hx).1) (GX.filter _ (hv.up hk1))
   exact⟨hv.kind,hv.ord,hv.row,this.1,fun _=>this.2,fun z=>by have z':v.kind=2:=z;omega⟩
theorem KR:∀{l:List Value} {v:Value},v∈l->(valueN v).length<=(valuesN l).length/\∀z∈valueN v,z∈valuesN l
 |x::r,v,h=>by
  rw[valuesN]
  rcases bU.mp h with e|e
  .subst e
   exact⟨by rw[dN];omega,fun z hz=>Bw _ hz⟩
  .have ih:=KR e
   exact⟨by rw[dN];omega,fun z hz=>iD _ (ih.2 z hz)⟩
theorem jh.part{l:List Value}(h:jh (.list l)){v:Value}(hv:v∈l):jh v:=by
 obtain⟨h1,h2⟩:=h
 rw[valueN] at h1 h2
 have m:=KR hv
 simp at h1
 exact⟨by omega,fun z hz=>h2 z (dU _ (dU _ (m.2 z hz)))⟩
theorem Mt{kind:Nat}{v:Value}{e:Entry}(h:jh v)(he:entryOf kind v=some e):xr kind e:=by
 unfold entryOf at he
 by_cases hk:kind=0\/kind=2
 .rw[if_pos hk] at he
  split at he
  .rename_i k x
   by_cases z:(valueOk k&&valueOk x)=true
   .rw[if_pos z] at he
    cases he
    have z':=gB.mp z
    exact⟨⟨z'.1,h.part (by simp)⟩,⟨z'.2,h.part (by simp)⟩,fun q=>by omega⟩
   .rw[if_neg z] at he;cases he
  .cases he
 .rw[if_neg hk] at he
  by_cases z:valueOk v=true
  .rw[if_pos z] at he
   cases he
   exact Li ⟨z,h⟩
  .rw[if_neg z] at he;cases he
def R5(kind o:Nat)(a b:Entry):Prop:=kind=3\/(kind=2/\cO (pk o b) (pk o a)≠ .lt)\/(kind<=1/\cO (pk o a) (pk o b)= .lt)
theorem WY{kind o:Nat}(hk:kind<=3)(ho:o<=2){a b:Entry}(ha:HJ a.k)(hb:HJ b.k):mayFollow kind o a b=true↔R5 kind o a b:=by
 unfold mayFollow R5
 by_cases h3:kind=3
 .simp[h3]
 .rw[if_neg h3]
  by_cases h2:kind=2
  .rw[if_pos h2,bV ho hb.good.2 ha.good.2]
   show(cO (pk o b) (pk o a) != .lt)=true↔_
   constructor
   .intro z
    exact .inr (.inl ⟨h2,by simpa using z⟩)
   .rintro(z|z|z)
    .exact absurd z h3
    .simpa using z.2
    .omega
  .rw[if_neg h2,bV ho ha.good.2 hb.good.2]
   show(cO (pk o a) (pk o b)== .lt)=true↔_
   rw[xT]
   constructor
   .intro z
    exact .inr (.inr ⟨by omega,z⟩)
   .rintro(z|z|z)
    .exact absurd z h3
    .exact absurd z.1 h2
    .exact z.2
theorem R5.trans{kind o:Nat}{a b c:Entry}(h1:R5 kind o a b)(h2:R5 kind o b c):R5 kind o a c:=by
 rcases h1 with z|⟨z,h1⟩|⟨z,h1⟩
 .exact .inl z
 .rcases h2 with y|⟨y,h2⟩|⟨y,h2⟩
  .exact .inl y
  .refine .inr (.inl ⟨y,fun q=>?_⟩)
   exact h2 (qU q h1)
  .omega
 .rcases h2 with y|⟨y,h2⟩|⟨y,h2⟩
  .exact .inl y
  .omega
  .exact .inr (.inr ⟨y,jU h1 h2⟩)
theorem Ms{kind o:Nat}(hk:kind<=3)(ho:o<=2):∀(l:List Value) (i:Nat) (last:Option Entry) (es:List Entry),(∀v∈l,jh v)->(∀a,last=some a->xr kind a)->entriesOf kind o i last l= .ok es->
  (∀e∈es,xr kind e)/\(∀a,last=some a->∀e∈es,R5 kind o a e)/\es.Pairwise (R5 kind o)
 |[],i,last,es,_,_,h=>by
  rw[entriesOf] at h
  cases h
  exact⟨fun e he=>by simp at he,fun a _ e he=>by simp at he,.nil⟩
 |v::r,i,last,es,hv,hl,h=>by
  rw[entriesOf] at h
  split at h
  .cases h
  .rename_i e he
   have okh:=Mt (hv v fY) he
   by_cases c:((last.map fun(a:Entry)=>mayFollow kind o a e).getD true)=false
   .rw[if_pos c] at h;cases h
   .rw[if_neg c] at h
    split at h
    .rename_i l' hr
     cases h
     obtain⟨i1,i2,i3⟩:=Ms hk ho r (i+1) (some e) l' (fun x hx=>hv x (dU _ hx)) (fun a ha=>by cases ha;exact okh) hr
     refine⟨fun x hx=>?_,fun a ha x hx=>?_,GX.cons (i2 e rfl) i3⟩
     .rcases bU.mp hx with z|z
      .rw[z];exact okh
      .exact i1 x z
     .subst ha
      have c':mayFollow kind o a e=true:=by simpa using c
      have f1:=(WY hk ho (hl a rfl).1 okh.1).mp c'
      rcases bU.mp hx with z|z
      .rw[z];exact f1
      .exact f1.trans (i2 e rfl x z)
    .cases h
theorem acE{kind o:Nat}(hk:kindOk kind o=true){l:List Value}{es:List Entry}(hv:∀v∈l,jh v)(h:entriesOf kind o 0 none l= .ok es):g_ ⟨kind,o,es⟩:=by
 unfold kindOk at hk
 simp at hk
 obtain⟨h1,h2,h3⟩:=Ms hk.1 hk.2.1 l 0 none es hv (fun a z=>by cases z) h
 refine⟨hk.1,hk.2.1,fun z=>?_,h1,fun z=>?_,fun z=>?_⟩
 .have z':kind=3:=z
  rcases hk.2.2 with q|q
  .exact absurd z' q
  .exact q
 .have z':kind<=1:=z
  have go:=GX.imp_of_mem (R:=R5 kind o) (S:=fun a b=>order o a.k b.k= .lt) (l:=es) (fun{a b} ha hb q=>?_) h3
  .exact go
  .rw[bV hk.2.1 (h1 a ha).1.good.2 (h1 b hb).1.good.2]
   rcases q with q|q|q
   .omega
   .omega
   .exact q.2
 .have z':kind=2:=z
  refine GX.imp_of_mem (fun{a b} ha hb q=>?_) h3
  show cO (pk o b) (pk o a)≠ .lt
  rcases q with q|q|q
  .omega
  .exact q.2
  .omega
def aa3:Call->Prop
 | .put _ k x=>jh k/\jh x
 | .insertKey _ k=>jh k
 | .drop _ k=>jh k
 | .get _ k=>jh k
 | .rank _ k=>jh k
 | .add _ k x=>jh k/\jh x
 | .insert _ _ x=>jh x
 | .change _ _ x=>jh x
 | .of_ f=>jh f
 | .before _ x y=>jh x/\jh y
 |_=>True
theorem U4{l:List (Nat×Ver)}(p:Nat×Ver->Bool):((l.filter p).map fun x=>bY x.2).sum<=(l.map fun x=>bY x.2).sum:=by
 induction l with
 |nil=>simp
 |cons x r ih=>
  rw[wV]
  split
  .rw[cU,cU,qH,qH];omega
  .rw[cU,qH];omega
theorem ad5{s:State}{c:Call}(h:pU s)(hc:aa3 c):pU (step s c).1:=by
 unfold step
 cases ha:asked c with
 |false=>rw[if_pos rfl];exact h
 |true=>
  rw[if_neg (by simp)]
  cases c with
  |new k o=>
   have hk:kindOk k o=true:=ha
   refine Lh h (acE (l:=[]) hk (fun v hv=>by simp at hv) rfl)
  |put n k x=>
   have ha':(small [n]&&(valueOk k&&valueOk x))=true:=ha
   simp only[lB] at ha'
   have hk:HJ k:=⟨ha'.2.1,hc.1⟩
   have hx:HJ x:=⟨ha'.2.2,hc.2⟩
   refine tH h fun v l hv hok hl=>?_
   cases hl
   have V:=h.get hv
   have k0:v.kind=0:=by simpa using hok
   exact⟨V.kind,V.ord,V.row,yd (P:=xr v.kind) ⟨hk,hx,fun z=>by omega⟩ V.ents,fun z=>q_ V.ord hk.good V.bR (V.up z),fun z=>by have z':v.kind=2:=z;omega⟩
  |insertKey n k=>
   have ha':(small [n]&&valueOk k)=true:=ha
   simp only[lB] at ha'
   have hk:HJ k:=⟨ha'.2,hc⟩
   refine tH h fun v l hv hok hl=>?_
   cases hl
   have V:=h.get hv
   have k0:v.kind=1:=by simpa using hok
   exact⟨V.kind,V.ord,V.row,yd (P:=xr v.kind) (Li hk) V.ents,fun z=>q_ V.ord hk.good V.bR (V.up z),fun z=>by have z':v.kind=2:=z;omega⟩
  |drop n k=>
   refine tH h fun v l hv hok hl=>?_
   split at hl
   .cases hl
    exact(h.get hv).sub List.filter_sublist
   .cases hl
  |get n k=>show pU (s.ask n _ _).1;rw[vq];exact h
  |count n=>show pU (s.ask n _ _).1;rw[vq];exact h
  |rank n k=>show pU (s.ask n _ _).1;rw[vq];exact h
  |at_ n i=>show pU (s.ask n _ _).1;rw[vq];exact h
  |range n i m=>
   refine tH h fun v l hv hok hl=>?_
   split at hl
   .cases hl
    exact(h.get hv).sub ((List.take_sublist _ _).trans (List.drop_sublist _ _))
   .cases hl
  |join n m how=>
   show pU (s.two n m fun v u=>if v.kind≠u.kind\/v.ord≠u.ord\/(how≠0/\2<=v.kind) then refuse s .kind else s.make {v with l:=joined v u how}).1
   unfold State.two
   cases e1:s.get n with
   |none=>exact h
   |some v=>
    cases e2:s.get m with
    |none=>exact h
    |some u=>
     dsimp only
     split
     .exact h
     .rename_i hn
      have q1:v.kind=u.kind:=Classical.byContradiction fun z=>hn (.inl z)
      have q2:v.ord=u.ord:=Classical.byContradiction fun z=>hn (.inr (.inl z))
      exact Lh h (Z0 (h.get e1) (h.get e2) q1 q2 fun z=>hn (.inr (.inr z)))
  |add n k x=>
   have ha':(small [n]&&(valueOk k&&valueOk x))=true:=ha
   simp only[lB] at ha'
   have hk:HJ k:=⟨ha'.2.1,hc.1⟩
   have hx:HJ x:=⟨ha'.2.2,hc.2⟩
   refine tH h fun v l hv hok hl=>?_
   cases hl
   have V:=h.get hv
   have k0:v.kind=2:=by simpa using hok
   refine⟨V.kind,V.ord,V.row,fun e he=>?_,fun z=>by have z':v.kind<=1:=z;omega,fun z=>(zK V.ord hk.good V.bR (V.weak z)).1⟩
   rcases vC.mp he with z|z
   .rw[z];exact⟨hk,hx,fun z=>by have z':v.kind=1\/v.kind=3:=z;omega⟩
   .exact V.ents e z
  |take n m=>
   refine tH h fun v l hv hok hl=>?_
   split at hl
   .cases hl
    exact(h.get hv).sub (List.drop_sublist _ _)
   .cases hl
  |insert n i x=>
   have ha':(small [n,i]&&valueOk x)=true:=ha
   simp only[lB] at ha'
   have hx:HJ x:=⟨ha'.2,hc⟩
   refine tH h fun v l hv hok hl=>?_
   have V:=h.get hv
   have k0:v.kind=3:=by simpa using hok
   split at hl
   .cases hl
    refine V.rowOf k0 fun e he=>?_
    rcases j9.mp he with z|z
    .rw[<-k0];exact V.ents e (List.mem_of_mem_take z)
    .rcases bU.mp z with z|z
     .rw[z];exact Li hx
     .rw[<-k0];exact V.ents e (Qv z)
   .cases hl
  |change n i x=>
   have ha':(small [n,i]&&valueOk x)=true:=ha
   simp only[lB] at ha'
   have hx:HJ x:=⟨ha'.2,hc⟩
   refine tH h fun v l hv hok hl=>?_
   have V:=h.get hv
   have k0:v.kind=3:=by simpa using hok
   split at hl
   .cases hl
    refine V.rowOf k0 fun e he=>?_
    rcases List.mem_or_eq_of_mem_set he with z|z
    .rw[<-k0];exact V.ents e z
    .rw[z];exact Li hx
   .cases hl
  |remove n i m=>
   refine tH h fun v l hv hok hl=>?_
   have V:=h.get hv
   have k0:v.kind=3:=by simpa using hok
   split at hl
   .cases hl
    refine V.rowOf k0 fun e he=>?_
    rcases j9.mp he with z|z
    .rw[<-k0];exact V.ents e (List.mem_of_mem_take z)
    .rw[<-k0];exact V.ents e (Qv z)
   .cases hl
  |sorted n o=>
   refine tH h fun v l hv hok hl=>?_
   have V:=h.get hv
   have k0:v.kind=3:=by simpa using hok
   cases hl
   exact V.rowOf k0 fun e he=>by rw[<-k0];exact V.ents e (Rh he)
  |forget n=>
   show pU (match s.get n with|none=>refuse s .absent|some _=>({s with l:=s.l.filter fun(x:Nat×Ver)=>x.1 !=n},Answer.done)).1
   cases e:s.get n with
   |none=>exact h
   |some v=>
    refine⟨fun p hp=>h.vers p (yU.mp hp).1,?_,?_,fun p hp=>h.below p (yU.mp hp).1⟩
    .rw[v8]
     have e1:=h.room
     rw[v8] at e1
     exact mR (U4 _) e1
    .exact List.Nodup.sublist (List.Sublist.map _ List.filter_sublist) h.nodup
  |room=>exact h
  |kind n=>show pU (s.ask n _ _).1;rw[vq];exact h
  |form n=>show pU (s.ask n _ _).1;rw[vq];exact h
  |of_ f=>
   show pU (match f with
    | .list [.num k 1,.num o 1,.list l]=>if k<0\/o<0\/kindOk k.toNat o.toNat=false then(s,Answer.nothing) else match entriesOf k.toNat o.toNat 0 none l with
     | .ok e=>s.make ⟨k.toNat,o.toNat,e⟩
     | .error i=>(s,.fault i)
    |_=>(s,.nothing)).1
   split
   .rename_i k o l
    split
    .exact h
    .rename_i hn
     split
     .rename_i e he
      have kk:kindOk k.toNat o.toNat=true:=by
       cases q:kindOk k.toNat o.toNat with
       |true=>rfl
       |false=>exact absurd (.inr (.inr q)) hn
      have hr:jh (.list [.num k 1,.num o 1,.list l]):=hc
      have hl:jh (.list l):=hr.part (by simp)
      exact Lh h (acE kk (fun v hv=>hl.part hv) he)
     .exact h
   .exact h
  |same n m=>
   show pU (s.two n m fun v u=>(s,_)).1
   unfold State.two
   cases s.get n with
   |none=>exact h
   |some v=>
    cases s.get m with
    |none=>exact h
    |some u=>exact h
  |before o x y=>exact h
  |differ n m=>
   show pU (s.two n m fun v u=>if 2<=v.kind\/v.kind≠u.kind\/v.ord≠u.ord then refuse s .kind else(s,_)).1
   unfold State.two
   cases s.get n with
   |none=>exact h
   |some v=>
    cases s.get m with
    |none=>exact h
    |some u=>
     dsimp only
     split<;>exact h
end Kv
namespace Kv
open PySem PySem.Spec PyProof.Rows L2
section
variable{w:World}{K:bw}{mg:Str->Option Value}{base:Heap}{a:Ad}
inductive aaQ(a:Ad)(vs:List V)(H:Hp)(Q:VK):Prop
 |mk (p dx:Addr) (lq:vs=[.ref p]) (hh1:H p=some (.ins a.jl dx [])) (nY:∀(H':Hp) (d:Addr),H d=none->d≠p->H' p=some (.ins a.jl dx (pq d 0 0))->H' d=some (.dK [])->(∀b o,H b=some o->b≠p->H' b=some o)->Q .non H')
def ad2(a:Ad):Sp:=fun vs H Q _=>aaQ a vs H Q
theorem abQ(T:Txt K mg a):cN w K mg base 1 a.Hv ["self"] (ad2 a):=by
 obtain⟨fd,F⟩:=T.fW.fn
 refine⟨fd,F.ok1 P_ (fun vs H Q E h=>?_) (fun cdv A outer s H vs Q E hr h=>?_),F.binds (by walk_at "b1"),F.kp⟩
 .obtain⟨p,dx,rfl,_⟩:=h
  rfl
 .obtain⟨p,dx,rfl,hp,k⟩:=h
  refine⟨_,ak (lK (pv 0) abY rfl) (ak (lK (pv 0) aB rfl) (au (lK (pv 0) aB rfl))),?_⟩
  intro d hd
  have npd:p≠d:=aJ hp hd
  refine⟨_,rfl,p,_,dx,_,rfl,by rw[aD npd];exact hp,T.fW.cl,T.dY,(by show 0<1000;decide),_,rfl,p,_,dx,_,rfl,ao,T.fW.cl,T.lJ,(by show 1<1000;decide),
   _,rfl,p,_,dx,_,rfl,ao,T.fW.cl,T.fK,(by show 2<1000;decide),?_⟩
  refine k _ d hd npd.symm ao (by rw[aD npd.symm,aD npd.symm,aD npd.symm,ao]) fun b o e hb=>?_
  rw[aD hb,aD hb,aD hb,aD (aJ e hd)];exact e
def xq(k o:Int):Bool:=if k=3 then decide (o=0) else(decide (0<=k)&&decide (k<=2))&&(decide (0<=o)&&decide (o<=2))
theorem Q9(k o:Nat):xq k o=qC k o:=by
 unfold xq qC
 by_cases h:k=3
 .subst h
  by_cases z:o=0
  .subst z;rfl
  .have:¬((o:Int)=0):=by omega
   simp[z,this]
 .have h':¬((k:Int)=3):=by omega
  rw[if_neg h']
  have e1:decide (0<=(k:Int))=true:=decide_eq_true (by omega)
  have e2:decide (0<=(o:Int))=true:=decide_eq_true (by omega)
  have e3:decide ((k:Int)<=2)=decide (k<=3):=decide_eq_decide.mpr (by omega)
  have e4:decide ((o:Int)<=2)=decide (o<=2):=decide_eq_decide.mpr (by omega)
  rw[e1,e2,e3,e4]
  have e5:(k !=3)=true:=by simp[h]
  rw[e5];simp
theorem Q8(k o:Int):xq k o=(decide (0<=k)&&(decide (0<=o)&&qC k.toNat o.toNat)):=by
 by_cases h1:0<=k
 .by_cases h2:0<=o
  .have e1:((k.toNat:Nat):Int)=k:=by omega
   have e2:((o.toNat:Nat):Int)=o:=by omega
   rw[<-Q9,e1,e2,decide_eq_true h1,decide_eq_true h2];rfl
  .rw[decide_eq_false h2,GF,Bool.and_false]
   unfold xq
   split
   .exact decide_eq_false (by omega)
   .rw[decide_eq_false h2];simp
 .rw[decide_eq_false h1,GF]
  unfold xq
  rw[if_neg (by omega),decide_eq_false h1];rfl
inductive Zc(vs:List V)(H:Hp)(Q:VK):Prop
 |mk (k o:Int) (lq:vs=[.int k,.int o]) (hh1:Q (.bl (xq k o)) H)
def aco:Sp:=fun vs H Q _=>Zc vs H Q
theorem Nk(T:Txt K mg a):cN w K mg base 1 a.gO ["kind","order"] aco:=by
 obtain⟨fd,F⟩:=T.gR.fn
 refine⟨fd,F.ok1 Bp (fun vs H Q E h=>?_) (fun cdv A outer s H vs Q E hr h=>?_),F.binds (by walk_at "b2"),F.kp⟩
 .obtain⟨k,o,rfl,_⟩:=h
  rfl
 .obtain⟨k,o,rfl,q⟩:=h
  refine⟨_,ak (cJ (aX jf (pv 0) (a_ T.Q5) (bx _)) (au (aL (qY jf (pv 1) aB (bx _)))) bF)
   (au (aL (Nz (VB Nt Nt (a_ T.Ay) (pv 0) (a_ T.qR)) (NP (VB Nt Nt aB (pv 1) (a_ T.u0)))))),?_⟩
  walk_at "rd"
  refine Iu (fun c=>?_) (fun c=>?_)
  .walk_at "rd"
   have e:xq k o=decide (V.int o=V.int 0):=by
    unfold xq
    rw[if_pos c,Hi,Bool.beq_eq_decide_eq]
   rw[e] at q;exact q
  .have e:xq k o=((decide (0<=k)&&decide (k<=2))&&(decide (0<=o)&&decide (o<=2))):=by unfold xq;rw[if_neg c]
   refine⟨_,rfl,_,_,rfl,rfl,_,rfl,Gy (fun c1=>?_) (fun c1=>?_)⟩
   .refine⟨_,_,rfl,rfl,_,rfl,Gy (fun c2=>?_) (fun c2=>?_)⟩
    .refine⟨_,rfl,_,_,rfl,rfl,_,rfl,Gy (fun c3=>?_) (fun c3=>?_)⟩
     .refine⟨_,_,rfl,rfl,?_⟩
      rw[e,decide_eq_true (show 0<=k from c1),decide_eq_true (show k<=2 from c2),decide_eq_true (show 0<=o from c3)] at q
      exact q
     .rw[e,decide_eq_true (show 0<=k from c1),decide_eq_true (show k<=2 from c2),decide_eq_false (show ¬0<=o from c3)] at q
      exact q
    .rw[e,decide_eq_true (show 0<=k from c1),decide_eq_false (show ¬k<=2 from c2)] at q
     exact q
   .refine⟨_,rfl,lG ?_⟩
    rw[e,decide_eq_false (show ¬0<=k from c1)] at q
    exact q
inductive Wn(a:Ad)(vs:List V)(H:Hp)(Q:VK)(E:XK):Prop
 |mk (o:Nat) (lq:vs=[.int o]) (hh1:(¬o<=2->E (.ref a.gb) none H)) (nY:(o<=2->Q .non H))
def aap(a:Ad):Sp:=fun vs H Q E=>Wn a vs H Q E
theorem Cw(T:Txt K mg a):cN w K mg base 1 a.pH ["order"] (aap a):=by
 obtain⟨fd,F⟩:=T.pO.fn
 refine⟨fd,F.ok1 Oo (fun vs H Q E h=>?_) (fun cdv A outer s H vs Q E hr h=>?_),F.binds (by walk_at "b1"),F.kp⟩
 .obtain⟨o,rfl,_⟩:=h
  rfl
 .obtain⟨o,rfl,kE,kQ⟩:=h
  refine⟨_,au (cJ (aX CJ (pv 0) (a_ T.u0) (bx _)) (au (jg T.oM rfl)) bF),?_⟩
  walk_at "rd"
  refine Gy (fun c=>?_) (fun c=>?_)
  .have c':(2:Int)<o:=c
   exact kE (by omega)
  .have c':¬(2:Int)<o:=c
   exact kQ (by omega)
inductive Zk(a:Ad)(vs:List V)(H:Hp)(Q:VK)(E:XK):Prop
 |mk (x:Addr) (v:bC) (i m:Nat) (lq:vs=[.ref x,.int i,.int m]) (hh1:gZ a H x v) (nY:(¬i+m<=v.l.length->E (.ref a.eU) none H)) (hh3:(i+m<=v.l.length->Q (.int ((i+m:Nat):Int)) H))
def acw(a:Ad):Sp:=fun vs H Q E=>Zk a vs H Q E
theorem yg(T:Txt K mg a):cN w K mg base 1 a.qI ["version","start","many"] (acw a):=by
 obtain⟨fd,F⟩:=T.oO.fn
 refine⟨fd,F.ok1 EY (fun vs H Q E h=>?_) (fun cdv A outer s H vs Q E hr h=>?_),F.binds (by walk_at "b3"),F.kp⟩
 .obtain⟨x,v,i,m,rfl,_⟩:=h
  rfl
 .obtain⟨x,v,i,m,rfl,⟨l,as,⟨dx,h1⟩,hl,hp⟩,kE,kQ⟩:=h
  have pl:=gC hp
  refine⟨_,ak (aK (i:=3) EY.nd rfl (Or.inl rfl) (cB dj (pv 1) (pv 2))) (ak (cJ (aX CJ (pv 3) (bZ bI rfl T.iR jC (aj (aG (pv 0) rfl) aq)) (bx _)) (au (jg T.rY rfl)) bF) (au (aL (pv 3)))),?_⟩
  refine⟨_,rfl,_,rfl,_,_,rfl,rfl,_,rfl,_,rfl,x,_,dx,_,_,rfl,h1,T.aC.cl,T.aP,aV,l,_,rfl,.inl (bN.of hl),_,_,rfl,rfl,_,rfl,Gy (fun c=>?_) (fun c=>?_)⟩
  .have c':(((as.map V.ref).length:Nat):Int)<(i:Int)+(m:Int):=c
   rw[aW,pl] at c'
   exact kE (by omega)
  .have c':¬(((as.map V.ref).length:Nat):Int)<(i:Int)+(m:Int):=c
   rw[aW,pl] at c'
   refine⟨_,rfl,?_⟩
   have q:=kQ (by omega)
   rw[Int.natCast_add] at q
   exact q
inductive acV(a:Ad)(vs:List V)(H:Hp)(Q:VK):Prop
 |mk (x:Addr) (v:aQ) (lq:vs=[.ref x]) (hh1:wR a H x v) (nY:∀(H':Hp) (z:Addr),aF H H'->bT a 3 0 H' z (o9 v)->Q (.ref z) H')
def afJ(a:Ad):Sp:=fun vs H Q _=>acV a vs H Q
theorem zW(T:Txt K mg a):cN w K mg base 3 a.uo ["value"] (afJ a):=by
 obtain⟨fd,F⟩:=T.qy.fn
 obtain⟨f2,G2,b2,_⟩:=M7 (w:=w) (base:=base) T
 refine⟨fd,F.ok1 TQ (fun vs H Q E h=>?_) (fun cdv A outer s H vs Q E hr h=>?_),F.binds (by walk_at "b1"),F.kp⟩
 .obtain⟨x,v,rfl,_⟩:=h
  rfl
 .obtain⟨x,v,rfl,⟨n1,⟨d1,h1⟩,t1⟩,k⟩:=h
  have hr2:cI 2 _:=hr.mono (by decide)
  refine⟨_,au (aL (j5 T.bO.Vj G2 hr2 rfl T.bO.glob b2 .nil bG (aj (iy aq) (aj (aG (pv 0) rfl) (aj (iy aq) (aj (cB dj aB (aG (pv 0) rfl)) aq)))))),?_⟩
  refine⟨len0,fun q1 hq1=>?_⟩
  have e1:aF H (L2.upd H q1 (.tup [])):=aF.upd hq1
  refine⟨_,rfl,x,_,d1,_,_,rfl,e1 _ _ h1,T.d8.cl,T.b_,dg,len0,fun q2 hq2=>?_⟩
  have e2:aF (L2.upd H q1 (.tup [])) (L2.upd (L2.upd H q1 (.tup [])) q2 (.tup [])):=aF.upd hq2
  refine⟨_,rfl,x,_,d1,_,_,rfl,e2 _ _ (e1 _ _ h1),T.d8.cl,T.gQ,pG,_,_,rfl,rfl,?_⟩
  refine fun z dz m1 m2 m3=>made m1 m2 rfl trivial fun H2 e3 ob=>⟨rfl,?_⟩
  refine k H2 z ((e1.trans e2).trans e3) ⟨q1,n1,q2,?_,?_,?_,?_⟩
  .have e:((vZ 3 (o9 v):Nat):Int)=1+(iK v:Int):=by
    unfold vZ
    rw[if_neg (by omega)]
    show((1+(iK v+0):Nat):Int)=_
    omega
   rw[e];exact ob
  .unfold sO;rw[if_pos rfl];exact e3 _ _ (e2 _ _ ao)
  .unfold valN;rw[if_neg (by omega)];exact e3 _ _ (e2 _ _ (e1 _ _ t1))
  .unfold plN;rw[if_pos rfl];exact e3 _ _ ao
end
def forgot(s:bu)(n:Nat):bu:={s with l:=s.l.filter fun(x:Nat×bC)=>x.1 !=n}
theorem HD:∀{l:List (Nat×bC)} {n:Nat} {v:bC},(l.map (·.1)).Nodup->(n,v)∈l->(l.map fun x=>bY x.2).sum=bY v+((l.filter fun(x:Nat×bC)=>x.1 !=n).map fun x=>bY x.2).sum
 |x::r,n,v,hn,hm=>by
  rw[cU,Qp] at hn
  rcases bU.mp hm with e|e
  .subst e
   have keep:r.filter (fun(x:Nat×bC)=>x.1 !=n)=r:=X4.mpr fun p hp=>by
    have:p.1≠n:=fun z=>hn.1 (uU.mpr ⟨p,hp,z⟩)
    simpa using this
   rw[List.filter_cons_of_neg (by simp),keep,cU,qH]
  .have hx:x.1≠n:=fun z=>hn.1 (z▸uU.mpr ⟨_,e,rfl⟩)
   rw[XZ (by simpa using hx),cU,cU,qH,qH,HD hn.2 e]
   omega
theorem VN{s:bu}(h:pU s){n:Nat}{v:bC}(e:s.get n=some v):s.room=bY v+(forgot s n).room:=by
 rw[v8,v8]
 exact HD h.nodup (get_mem e)
theorem Q6{a:Ad}{H:Hp}(n:Nat):∀{kvs:List (Key×V)} {l:List (Nat×bC)},Paired (RG a H) kvs l->Paired (RG a H) (Hl kvs (Sum.inl (n:Int))) (l.filter fun(x:Nat×bC)=>x.1 !=n)
 |_,_,.nil=> .nil
 |_,_,@Paired.cons _ _ _ kv nv kvs l h t=>by
  have ih:=Q6 n t
  unfold Hl at ih ⊢
  have e:decide (kv.1≠Sum.inl (n:Int))=(nv.1 !=n):=by
   rw[h.1]
   by_cases z:nv.1=n
   .subst z;simp
   .have:¬((nv.1:Int)=(n:Int)):=by omega
    have z2:(Sum.inl (nv.1:Int):Key)≠Sum.inl (n:Int):=fun q=>this (by injection q)
    rw[decide_eq_true z2];simp[z]
  rw[wV,wV,e]
  cases nv.1 !=n with
  |true=>exact .cons h ih
  |false=>exact ih
section
variable{w:World}{K:bw}{mg:Str->Option Value}{base:Heap}{a:Ad}
inductive Za(a:Ad)(vs:List V)(H:Hp)(Q:VK)(E:XK):Prop
 |mk (sh d:Addr) (s:bu) (n:Nat) (lq:vs=[.ref sh,.int n]) (hh1:cH a H sh d s) (nY:pU s) (hh3:(s.get n=none->E (.ref a.eU) none H)) (wO:(∀v,s.get n=some v->∀H',rM sh d H H'->cH a H' sh d (forgot s n)->Q .non H'))
def ack(a:Ad):Sp:=fun vs H Q E=>Za a vs H Q E
theorem HQ(T:Txt K mg a):cN w K mg base 2 a.kW ["shelf","number"] (ack a):=by
 obtain⟨fd,F⟩:=T.oR.fn
 obtain⟨f1,G1,b1,k1⟩:=dX (w:=w) (base:=base) T
 refine⟨fd,F.ok1 Io (fun vs H Q E h=>?_) (fun cdv A outer s H vs Q E hr h=>?_),F.binds (by walk_at "b2"),F.kp⟩
 .obtain⟨sh,d,s,n,rfl,_⟩:=h
  rfl
 .obtain⟨sh,d,st,n,rfl,S,O,kE,kQ⟩:=h
  obtain⟨dx,h1⟩:=S.ob
  obtain⟨kvs,h2,hp⟩:=S.dict
  have shd:sh≠d:=vX h1 h2 (by intro z;cases z)
  refine⟨_,ak (Jr (pv 0) (aG (aA G1 hr rfl T.cC.glob k1 b1 .nil cA (aj (pv 0) (aj (pv 1) aq))) rfl) ae2)
   (au (cZ (abZ (aG (pv 0) rfl) (pv 1) ⟨rfl,rfl,rfl,rfl⟩))),?_⟩
  refine⟨_,rfl,sh,_,dx,_,_,rfl,h1,T.fW.cl,T.lJ,w6,_,rfl,_,rfl,sh,d,st,n,rfl,S,kE,fun v x hv hx=>?_⟩
  have hx0:=hx
  obtain⟨l,as,⟨dv,hv1⟩,_⟩:=hx0
  refine⟨x,_,dv,_,_,rfl,hv1,T.aC.cl,T.dh,gG,_,_,rfl,rfl,dx,_,h1,(by rw[rZ];show 3<1000;decide),?_⟩
  rw[VM]
  have h2':(L2.upd H sh (.ins a.jl dx (pq d ((st.room:Int)-(bY v:Int)) st.next))) d=some (.dK kvs):=by rw[aD shd.symm];exact h2
  obtain⟨x2,hx2,_⟩:∃x,iJ kvs (.inl (n:Int))=some (.ref x)/\True:=by
   have g:=Ht n hp
   unfold bu.get at hv
   cases e:(st.l.find? fun x=>x.1==n) with
   |none=>rw[e] at hv;cases hv
   |some p=>obtain⟨x,z,_⟩:=g.2 p e;exact⟨x,z,trivial⟩
  refine⟨_,rfl,sh,_,dx,_,_,rfl,ao,T.fW.cl,T.dY,jt,d,rfl,.inl ⟨kvs,.inl h2'⟩,_,rfl,kvs,Sum.inl (n:Int),_,h2',rfl,hx2,?_⟩
  have sS:rM sh d H (L2.upd (L2.upd H sh (.ins a.jl dx (pq d ((st.room:Int)-(bY v:Int)) st.next))) d (.dK (Hl kvs (Sum.inl (n:Int))))):=fun b o q n1 n2=>by rw[aD n2,aD n1];exact q
  refine kQ v hv _ sS ⟨⟨dx,?_⟩,⟨_,ao,?_⟩,fun p hpm=>S.below p (yU.mp hpm).1⟩
  .rw[aD shd,ao]
   have e:=VN O hv
   have e2:(((forgot st n).room:Nat):Int)=(st.room:Int)-(bY v:Int):=by omega
   rw[e2];rfl
  .exact Q6 n (Paired.iM hp fun _ _ ⟨z1,y,z2,z3⟩=>⟨z1,y,z2,gZ.Dj S sS z3⟩)
theorem V7{z:Int}{ks:List Int}{H:Hp}{Q:VK}{t:Addr}(h:oK H t ks)(q:Q (.bl (decide (z∈ks))) H):rIn K false (.int z) (.ref t) H Q:=by
 refine⟨t,ks.map V.int,rfl,.inr (eV.of h),rfl,zf ks,?_⟩
 rw[Cd];exact q
inductive acR(a:Ad)(vs:List V)(H:Hp)(Q:VK):Prop
 |mk (x y:Addr) (v:bC) (e:aN) (lq:vs=[.ref x,.ref y]) (hh1:gZ a H x v) (nY:bT a v.kind v.ord H y e) (hh3:xr v.kind e) (wO:v.kind<=3) (Eo:∀(H':Hp) (l:Addr),aF H H'->H l=none->H' l=some (.lst ((aZ (qD v.kind e)).map V.int))->Q (.ref l) H')
def afF(a:Ad):Sp:=fun vs H Q _=>acR a vs H Q
theorem zq(T:Txt K mg a):cN w K mg base 1 a.lW ["version","entry"] (afF a):=by
 obtain⟨fd,F⟩:=T.mz.fn
 refine⟨fd,F.ok1 Jz (fun vs H Q E h=>?_) (fun cdv A outer s H vs Q E hr h=>?_),F.binds (by walk_at "b2"),F.kp⟩
 .obtain⟨x,y,v,e,rfl,_⟩:=h
  rfl
 .obtain⟨x,y,v,e,rfl,⟨l,as,⟨dx,h1⟩,_,_⟩,⟨kx,vx,px,⟨dy,o1⟩,o2,o3,_⟩,ok,hk3,k⟩:=h
  have lk:(sO v.kind e).length<=16000:=by
   unfold sO;split
   .exact j_ _
   .exact ok.1.2.1
  have lv:(valN v.kind e).length<=16000:=by
   unfold valN;split
   .exact j_ _
   .exact ok.2.1.2.1
  refine⟨_,ak (cJ (aX Eb (aG (pv 0) rfl) (iy (aj (a_ T.Ay) (aj (a_ T.qR) aq))) rfl)
    (au (aL (cB n_ (cB n_ (bL (aj (a_ T.vU) (aj aB aq))) (jy lD rfl T.xR boot_list (aj (aG (pv 1) rfl) aq))) (jy lD rfl T.xR boot_list (aj (aG (pv 1) rfl) aq))))) bF)
   (au (aL (cB n_ (jy lD rfl T.xR boot_list (aj (aG (pv 1) rfl) aq)) (jy lD rfl T.xR boot_list (aj (aG (pv 1) rfl) aq))))),?_⟩
  refine⟨_,rfl,x,_,dx,_,_,rfl,h1,T.aC.cl,T.bH,bQ,len2,fun t ht=>V7 (ks:=[0,2]) ao ⟨_,rfl,?_⟩⟩
  have e1:aF H (L2.upd H t (.tup [V.int 0,V.int 2])):=aF.upd ht
  by_cases c:(v.kind:Int)∈([0,2]:List Int)
  .rw[decide_eq_true c]
   have c':v.kind=0\/v.kind=2:=by simp at c;omega
   refine j4 ⟨len2,fun q1 hq1=>?_⟩
   have e2:=e1.trans (aF.upd (o:= .lst [V.int 3,V.int 2]) hq1)
   refine⟨_,rfl,y,_,dy,_,_,rfl,e2 _ _ o1,T.bO.cl,T.dG,eY,kx,_,rfl,.inr (eV.of (e2 _ _ o2)),fun q2 hq2=>?_⟩
   have e3:=e2.trans (aF.upd (o:= .lst ((sO v.kind e).map V.int)) hq2)
   refine⟨q1,q2,_,_,rfl,rfl,aF.upd hq2 _ _ ao,ao,cT (by simp;omega),fun q3 hq3=>?_⟩
   have e4:=e3.trans (aF.upd (o:= .lst ([V.int 3,V.int 2]++(sO v.kind e).map V.int)) hq3)
   refine⟨_,rfl,y,_,dy,_,_,rfl,e4 _ _ o1,T.bO.cl,T.d9,gF,vx,_,rfl,.inr (eV.of (e4 _ _ o3)),fun q4 hq4=>?_⟩
   have e5:=e4.trans (aF.upd (o:= .lst ((valN v.kind e).map V.int)) hq4)
   refine⟨q3,q4,_,_,rfl,rfl,aF.upd hq4 _ _ ao,ao,cT (by simp;omega),fun q5 hq5=>?_⟩
   refine k _ q5 (e5.trans (aF.upd hq5)) (aF.free e5 hq5) ?_
   rw[ao]
   have en:aZ (qD v.kind e)=[3,2]++sO v.kind e++valN v.kind e:=by
    unfold qD sO valN
    rw[if_pos c',if_neg (by omega),if_neg (by omega),aZ,jA,jA,jA]
    simp
   rw[en,fP,fP];rfl
  .rw[decide_eq_false c]
   have c':¬(v.kind=0\/v.kind=2):=by simp at c;omega
   refine lG ?_
   refine⟨_,rfl,y,_,dy,_,_,rfl,e1 _ _ o1,T.bO.cl,T.dG,eY,kx,_,rfl,.inr (eV.of (e1 _ _ o2)),fun q2 hq2=>?_⟩
   have e3:=e1.trans (aF.upd (o:= .lst ((sO v.kind e).map V.int)) hq2)
   refine⟨_,rfl,y,_,dy,_,_,rfl,e3 _ _ o1,T.bO.cl,T.d9,gF,vx,_,rfl,.inr (eV.of (e3 _ _ o3)),fun q4 hq4=>?_⟩
   have e5:=e3.trans (aF.upd (o:= .lst ((valN v.kind e).map V.int)) hq4)
   refine⟨q2,q4,_,_,rfl,rfl,aF.upd hq4 _ _ ao,ao,cT (by simp;omega),fun q5 hq5=>?_⟩
   refine k _ q5 (e5.trans (aF.upd hq5)) (aF.free e5 hq5) ?_
   rw[ao]
   have en:aZ (qD v.kind e)=sO v.kind e++valN v.kind e:=by
    unfold qD sO valN
    rw[if_neg c']
    by_cases h3:v.kind=3
    .rw[if_pos h3,if_neg (by omega),ok.2.2 (.inr h3)];rfl
    .rw[if_neg h3,if_pos (by omega)];simp
   rw[en,fP]
end
def lp1:Pos:=⟨332,31,332,56⟩
def lp2:Pos:=⟨164,29,164,70⟩
def lp3:Pos:=⟨382,43,382,79⟩
def lq1:Str:=(("by_place":Str)++".<locals>.")++"<lambda>"
def lq2:Str:=(("differences":Str)++".<locals>.")++"<lambda>"
def lq3:Str:=(("sorted_entries":Str)++".<locals>.")++"<lambda>"
structure Tb where
 c1:Addr
 P1:Addr
 c2:Addr
 P2:Addr
 c3:Addr
 P3:Addr
structure TabsOk(tb:Tb)(H:Hp):Prop where
 t1:TabAt H tb.P1 lp1 lq1
 t2:TabAt H tb.P2 lp2 lq2
 t3:TabAt H tb.P3 lp3 lq3
structure acZ(K:bw)(f c P:Addr):Prop where
 code:∀oc od fd osl,K.lookup f=some ⟨oc,od,.func fd,osl⟩->fd.code= .ref c
 hd:∀h:Heap,K.In h->PySem.W.CodeHd h c P
structure yS(K:bw)(mg:Str->Option Value)(base:Heap)(a:Ad)(tb:Tb):Prop where
 bm:BMain mg base
 l1:acZ K a.m5 tb.c1 tb.P1
 l2:acZ K a.iT tb.c2 tb.P2
 l3:acZ K a.fD tb.c3 tb.P3
 n12:tb.P1≠tb.P2
 n13:tb.P1≠tb.P3
 n23:tb.P2≠tb.P3
def nT:HO->Prop
 | .Ls _=>False
 |_=>True
def cQ(H H':Hp):Prop:=∀b u,H b=some u->nT u->H' b=some u
def jz(sh d:Addr)(H H':Hp):Prop:=∀b u,H b=some u->nT u->b≠sh->b≠d->H' b=some u
theorem cQ.of{H H':Hp}(h:aF H H'):cQ H H':=fun b u q _=>h b u q
theorem cQ.trans{H H1 H2:Hp}(h:cQ H H1)(g:cQ H1 H2):cQ H H2:=fun b u q n=>g b u (h b u q n) n
theorem cQ.refl{H:Hp}:cQ H H:=fun _ _ q _=>q
theorem cQ.upd{H H':Hp}{p:Addr}{o:HO}(h:cQ H H')(hp:H' p=none):cQ H (L2.upd H' p o):=h.trans (cQ.of (aF.upd hp))
theorem jz.of{sh d:Addr}{H H':Hp}(h:cQ H H'):jz sh d H H':=fun b u q n _ _=>h b u q n
theorem jz.ofS{sh d:Addr}{H H':Hp}(h:rM sh d H H'):jz sh d H H':=fun b u q n n1 n2=>h b u q n1 n2
theorem jz.trans{sh d:Addr}{H H1 H2:Hp}(h:jz sh d H H1)(g:jz sh d H1 H2):jz sh d H H2:=fun b u q n n1 n2=>g b u (h b u q n n1 n2) n n1 n2
theorem tZ.t{P:Addr}{H H':Hp}{pos:Pos}{qual:Str}(h:tZ P H H')(t:TabAt H P pos qual):cQ H H':=fun b u q n=>h b u q fun z=>by
 obtain⟨ps,e,_⟩:=t
 rw[z,e] at q;cases q;exact n
theorem TabAt.other{P P':Addr}{H H':Hp}{pos:Pos}{qual:Str}(h:tZ P H H')(n:P'≠P){pos':Pos}{agE:Str}(t':TabAt H P pos' agE)(t:TabAt H P' pos qual):TabAt H' P' pos qual:=by
 obtain⟨ps,h1,h2,h3⟩:=t
 refine⟨ps,h _ _ h1 n,h2,h3.elim .inl fun⟨c',z1,z2⟩=> .inr ⟨c',z1,h _ _ z2 fun z=>?_⟩⟩
 obtain⟨qs,e,_⟩:=t'
 rw[z,e] at z2;cases z2
theorem TabsOk.same{tb:Tb}{H H':Hp}(t:TabsOk tb H)(h:aF H H'):TabsOk tb H':=⟨t.t1.same h,t.t2.same h,t.t3.same h⟩
section
variable{a:Ad}{H H':Hp}{sh d:Addr}{s:bu}
theorem JH(S:cH a H sh d s)(e:rM sh d H H'){P:Addr}{pos:Pos}{qual:Str}(t:TabAt H P pos qual):TabAt H' P pos qual:=by
 obtain⟨ps,h1,h2,h3⟩:=t
 have go:∀{b:Addr} {u:HO},H b=some u->(∀C dx fs,u≠ .ins C dx fs)->(∀kvs,u≠ .dK kvs)->H' b=some u:=fun{b u} q n1 n2=>by
  have:=S.ne q ⟨fun C dx fs z=>absurd z (n1 C dx fs),n2⟩
  exact e b u q this.1 this.2
 exact⟨ps,go h1 (fun _ _ _ z=>by cases z) (fun _ z=>by cases z),h2,h3.elim .inl fun⟨c',z1,z2⟩=> .inr ⟨c',z1,go z2 (fun _ _ _ z=>by cases z) (fun _ z=>by cases z)⟩⟩
theorem TabsOk.Dj(S:cH a H sh d s)(e:rM sh d H H'){tb:Tb}(t:TabsOk tb H):TabsOk tb H':=⟨JH S e t.t1,JH S e t.t2,JH S e t.t3⟩
theorem bT.t{kind ord:Nat}{x:Addr}{e:aN}(h:bT a kind ord H x e)(s:cQ H H'):bT a kind ord H' x e:=by
 obtain⟨k,v,p,⟨dx,h1⟩,h2,h3,h4⟩:=h
 exact⟨k,v,p,⟨dx,s _ _ h1 trivial⟩,s _ _ h2 trivial,s _ _ h3 trivial,s _ _ h4 trivial⟩
theorem gZ.t{x:Addr}{v:bC}(h:gZ a H x v)(s:cQ H H'):gZ a H' x v:=by
 obtain⟨l,as,⟨dx,h1⟩,h2,h3⟩:=h
 exact⟨l,as,⟨dx,s _ _ h1 trivial⟩,s _ _ h2 trivial,Paired.iM h3 fun _ _ z=>z.t s⟩
theorem cH.t(S:cH a H sh d s)(e:cQ H H'):cH a H' sh d s:=by
 obtain⟨⟨dx,h1⟩,⟨kvs,h2,h3⟩,h4⟩:=S
 exact⟨⟨dx,e _ _ h1 trivial⟩,⟨kvs,e _ _ h2 trivial,Paired.iM h3 fun _ _ ⟨z1,y,z2,z3⟩=>⟨z1,y,z2,z3.t e⟩⟩,h4⟩
end
def agg(a:Ad):Coll.Refusal->Addr
 | .range=>a.gb
 | .absent=>a.eU
 | .kind=>a.j8
 | .full=>a.iB
structure Kp(a:Ad)(tb:Tb)(sh d:Addr)(s':bu)(H H':Hp):Prop where
 u:jz sh d H H'
 shelf:cH a H' sh d s'
 tabs:TabsOk tb H'
def K7(a:Ad)(tb:Tb)(sh d:Addr)(s:bu)(r:bu×mX)(H:Hp)(Q:VK)(E:XK):Prop:=
 (∀why,r.2= .refused why->∀H',Kp a tb sh d s H H'->E (.ref (agg a why)) none H')/\
 ((∀why,r.2≠ .refused why)->∀(H':Hp) (l:Addr),Kp a tb sh d r.1 H H'->H' l=some (.lst ((IK r.2).map V.int))->Q (.ref l) H')
structure Iw(a:Ad)(tb:Tb)(sh d wl rl:Addr)(s:bu)(ws:List Nat)(rows:List aQ)(H:Hp):Prop where
 S:cH a H sh d s
 O:pU s
 T:TabsOk tb H
 w:H wl=some (.lst (ws.map fun(n:Nat)=>V.int n))
 r:∃ras,H rl=some (.lst (ras.map V.ref))/\Paired (fun r v=>H r=some (.lst ((aZ v).map V.int))/\jh v) ras rows
 small:∀n∈ws,n<=4294967295
inductive af8(a:Ad)(tb:Tb)(ws:List Nat)(rows:List aQ)(c:bA)(vs:List V)(H:Hp)(Q:VK)(E:XK):Prop
 |mk (sh d wl rl:Addr) (s:bu) (lq:vs=[.ref sh,.ref wl,.ref rl]) (hh1:Iw a tb sh d wl rl s ws rows H) (nY:K7 a tb sh d s (bJ s c) H Q E)
def uR(a:Ad)(tb:Tb)(ws:List Nat)(rows:List aQ)(c:bA):Sp:=fun vs H Q E=>af8 a tb ws rows c vs H Q E
section
variable{a:Ad}{tb:Tb}{H H':Hp}{sh d wl rl:Addr}{s:bu}{ws:List Nat}{rows:List aQ}{Q:VK}{E:XK}
theorem Iw.same(A:Iw a tb sh d wl rl s ws rows H)(e:aF H H'):Iw a tb sh d wl rl s ws rows H':=
 ⟨A.S.same e,A.O,A.T.same e,e _ _ A.w,let⟨ras,h1,h2⟩:=A.r;⟨ras,e _ _ h1,Paired.iM h2 fun _ _ z=>⟨e _ _ z.1,z.2⟩⟩,A.small⟩
theorem Iw.kp(A:Iw a tb sh d wl rl s ws rows H)(e:aF H H'):Kp a tb sh d s H H':=⟨jz.of (cQ.of e),A.S.same e,A.T.same e⟩
theorem K7.no{why:Coll.Refusal}{r:bu×mX}(o:K7 a tb sh d s r H Q E)(e:r=uF s why)(k:Kp a tb sh d s H H'):E (.ref (agg a why)) none H':=by
 subst e
 exact o.1 why rfl H' k
theorem K7.yes{ans:mX}{s':bu}{r:bu×mX}(o:K7 a tb sh d s r H Q E)(e:r=(s',ans))(hn:∀why,ans≠ .refused why){l:Addr}(k:Kp a tb sh d s' H H')(hl:H' l=some (.lst ((IK ans).map V.int))):Q (.ref l) H':=by
 subst e
 exact o.2 hn H' l k hl
theorem U8{s:bu}{v:bC}:isFull s (bY v)↔(Coll.KEPT<=s.l.length\/Coll.NEXT<=s.next\/Coll.ROOM<s.room+bY v):=by
 unfold isFull
 constructor
 .rintro(h|h|h)
  .exact .inl h
  .exact .inr (.inl h)
  .exact .inr (.inr (by omega))
 .rintro(h|h|h)
  .exact .inl h
  .exact .inr (.inl h)
  .exact .inr (.inr (by omega))
theorem Rc{s:bu}{v:bC}(h:isFull s (bY v)):s.make v=uF s .full:=by
 unfold bu.make
 rw[if_pos (U8.mp h)]
theorem Rf{s:bu}{v:bC}(h:¬isFull s (bY v)):s.make v=(kept s v,.version s.next):=by
 unfold bu.make
 rw[if_neg (fun z=>h (U8.mpr z))];rfl
def zQ(a:Ad)(tb:Tb)(sh d:Addr)(s:bu)(v:bC)(H:Hp)(Q:VK)(E:XK):Prop:=
 (isFull s (bY v)->∀H',Kp a tb sh d s H H'->E (.ref a.iB) none H')/\(¬isFull s (bY v)->∀H',Kp a tb sh d (kept s v) H H'->Q (.int s.next) H')
theorem Kp.pre{s':bu}{H1:Hp}(e:cQ H H1)(k:Kp a tb sh d s' H1 H'):Kp a tb sh d s' H H':=⟨(jz.of e).trans k.u,k.shelf,k.tabs⟩
theorem Fw{v:bC}{r:bu×mX}(S:cH a H sh d s)(T:TabsOk tb H)(o:K7 a tb sh d s r H Q E)(e:r=s.make v):Xc a sh d s v H Q E:=
 ⟨fun z H' h=>o.no (why:= .full) (by rw[e,Rc z]) ⟨jz.of (cQ.of h),S.same h,T.same h⟩,fun z H' q h S' hq=>o.yes (ans:= .version s.next) (by rw[e,Rf z]) (fun _ y=>by cases y) ⟨jz.ofS h,S',T.Dj S h⟩ hq⟩
theorem sV{v:bC}{r:bu×mX}{H1:Hp}(S:cH a H sh d s)(T:TabsOk tb H)(o:K7 a tb sh d s r H Q E)(e:r=s.make v)(h:aF H H1):
  keeps a sh d s v H1 (fun x H2=>∀p,H2 p=none->Q (.ref p) (L2.upd H2 p (.lst [.int 0,x]))) E:=Vg (Fw S T o e) h
theorem Nu{v:bC}{r:bu×mX}(o:K7 a tb sh d s r H Q E)(e:r=s.make v):
  zQ a tb sh d s v H (fun x H2=>∀p,H2 p=none->Q (.ref p) (L2.upd H2 p (.lst [.int 0,x]))) E:=
 ⟨fun z H' k=>o.no (why:= .full) (by rw[e,Rc z]) k,fun z H' k p hp=>o.yes (ans:= .version s.next) (H':=L2.upd H' p (.lst [.int 0,.int s.next])) (by rw[e,Rf z]) (fun _ y=>by cases y) ⟨k.u.trans (jz.of (cQ.of (aF.upd hp))),k.shelf.same (aF.upd hp),k.tabs.same (aF.upd hp)⟩ ao⟩
theorem small_one{n:Nat}(h:n<=4294967295):fH [n]=true:=by
 unfold fH
 simp;omega
theorem tD{n m:Nat}(h:n<=4294967295)(g:m<=4294967295):fH [n,m]=true:=by
 unfold fH
 simp;omega
theorem Ky{n m k:Nat}(h:n<=4294967295)(g:m<=4294967295)(f:k<=4294967295):fH [n,m,k]=true:=by
 unfold fH
 simp;omega
end
section
variable{s:bu}{n:Nat}{ok:Nat->Bool}{f:bC->Option (List aN)}{g:bC->mX}{no:mX}{v u:bC}{l:List aN}
theorem qp(h:s.get n=none):s.from n ok f no=uF s .absent:=by unfold bu.from;rw[h]
theorem sG(h:s.get n=some v)(k:ok v.kind=false):s.from n ok f no=uF s .kind:=by
 unfold bu.from;rw[h]
 show(if ok v.kind=false then _ else _)=_
 rw[if_pos k]
theorem qu(h:s.get n=some v)(k:ok v.kind=true)(e:f v=some l):s.from n ok f no=s.make {v with l:=l}:=by
 unfold bu.from;rw[h]
 show(if ok v.kind=false then _ else match f v with|some l=>_|none=>_)=_
 rw[if_neg (by rw[k];simp),e]
theorem Lg(h:s.get n=some v)(k:ok v.kind=true)(e:f v=none):s.from n ok f no=(s,no):=by
 unfold bu.from;rw[h]
 show(if ok v.kind=false then _ else match f v with|some l=>_|none=>_)=_
 rw[if_neg (by rw[k];simp),e]
theorem yV(h:s.get n=none):s.ask n ok g=uF s .absent:=by unfold bu.ask;rw[h]
theorem Ur(h:s.get n=some v)(k:ok v.kind=false):s.ask n ok g=uF s .kind:=by
 unfold bu.ask;rw[h]
 show(if ok v.kind=false then _ else _)=_
 rw[if_pos k]
theorem uf(h:s.get n=some v)(k:ok v.kind=true):s.ask n ok g=(s,g v):=by
 unfold bu.ask;rw[h]
 show(if ok v.kind=false then _ else _)=_
 rw[if_neg (by rw[k];simp)]
end
theorem fO{s:bu}{c:bA}(h:Coll.asked c=false):bJ s c=uF s .range:=by
 unfold bJ;rw[if_pos h]
theorem eX{a b:Bool}(h:a=false):(a&&b)=false:=by rw[h];rfl
theorem cY{a b:Bool}(h:b=false):(a&&b)=false:=by rw[h,Bool.and_false]
theorem HJ.read{v:aQ}(h:HJ v):readable v:=⟨h.2.1,h.2.2,h.proper⟩
section
variable{w:World}{K:bw}{mg:Str->Option Value}{base:Heap}{a:Ad}{tb:Tb}
theorem Vu(T:Txt K mg a):cN w K mg base 3 a.p7 ["shelf","wholes","rows"] (fun vs H Q E=>∃k o,uR a tb [k,o] [] (.new k o) vs H Q E):=by
 obtain⟨fd,F⟩:=T.Gp.fn
 obtain⟨f1,G1,b1,k1⟩:=Nk (w:=w) (base:=base) T
 obtain⟨f2,G2,b2,k2⟩:=iw (w:=w) (base:=base) T
 obtain⟨f3,G3,b3,_⟩:=p_ (w:=w) (base:=base) T
 refine⟨fd,F.ok1 Kl (fun vs H Q E h=>?_) (fun cdv A outer s H vs Q E hr h=>?_),F.binds (by walk_at "b3"),F.kp⟩
 .obtain⟨k,o,sh,d,wl,rl,st,rfl,_⟩:=h
  rfl
 .obtain⟨k,o,sh,d,wl,rl,st,rfl,A0,out⟩:=h
  have hr1:cI 1 _:=hr.mono (by decide)
  have nd:=Kl.nd
  refine⟨_,ak (aK (i:=3) nd rfl (Or.inl rfl) (bf aU (pv 1) aB (fun _ _=>rfl))) (ak (aK (i:=4) nd rfl (Or.inl rfl) (bf aU (pv 1) aB (fun _ _=>rfl)))
   (ak (cJ (yp (vY (aA G1 hr1 rfl T.gR.glob k1 b1 .nil bG (aj (pv 3) (aj (pv 4) aq))))) (au (jg T.oM rfl)) bF)
   (au (aL (bL (aj (a_ T.iu) (aj (aA G2 hr rfl T.d_.glob k2 b2 .nil cA (aj (pv 0) (aj (j5 T.aC.Vj G3 hr rfl T.aC.glob b3 .nil bG (aj (pv 3) (aj (pv 4) (aj (bL aq) (aj aB aq))))) aq))) aq))))))),?_⟩
  refine⟨_,rfl,wl,_,0,_,rfl,rfl,bN.of A0.w,rfl,_,rfl,wl,_,1,_,rfl,rfl,bN.of A0.w,rfl,_,rfl,_,rfl,k,o,rfl,_,rfl,?_⟩
  rw[Q9]
  cases hk:qC k o with
  |false=>exact j4 (out.no (why:= .range) (fO hk) (A0.kp (fun _ _ z=>z)))
  |true=>
   have st1:bJ st (.new k o)=st.make ⟨k,o,[]⟩:=by
    unfold bJ
    rw[if_neg (by show ¬qC k o=false;rw[hk];simp)]
   refine lG ⟨_,rfl,_,rfl,_,rfl,len0,fun q hq=>?_⟩
   have e1:=aF.upd (o:= .lst []) hq
   refine fun y dy n1 n2 n3=>made n1 n2 rfl trivial fun H7 e7 ob=>⟨rfl,?_⟩
   have RX:=e1.trans e7
   have kq:=sV A0.S A0.T out st1 RX
   exact⟨sh,d,y,st,⟨k,o,[]⟩,rfl,A0.S.same RX,⟨q,[],ob,e7 _ _ ao,.nil⟩,fun z=>kq.1 z H7 (fun _ _ z=>z),fun nf H' sS S'=>⟨len2,kq.2 nf H' sS S'⟩⟩
theorem Vv(T:Txt K mg a):cN w K mg base 6 a.p8 ["shelf","wholes","rows"] (fun vs H Q E=>∃n k x,uR a tb [n] [k,x] (.put n k x) vs H Q E):=by
 obtain⟨fd,F⟩:=T.Gq.fn
 obtain⟨f1,G1,b1,k1⟩:=dZ (w:=w) (base:=base) T
 obtain⟨f2,G2,b2,k2⟩:=eO (w:=w) (base:=base) T
 obtain⟨f3,G3,b3,k3⟩:=yh (w:=w) (base:=base) T
 obtain⟨f4,G4,b4,k4⟩:=zu (w:=w) (base:=base) T
 refine⟨fd,F.ok1 Km (fun vs H Q E h=>?_) (fun cdv A outer s H vs Q E hr h=>?_),F.binds (by walk_at "b3"),F.kp⟩
 .obtain⟨n,k,x,sh,d,wl,rl,st,rfl,_⟩:=h
  rfl
 .obtain⟨n,k,x,sh,d,wl,rl,st,rfl,A0,out⟩:=h
  have hr2:cI 2 _:=hr.mono (by decide)
  have Pn:cI 4 _:=hr.mono (by decide)
  have nd:=Km.nd
  obtain⟨ras,hrl,hp⟩:=A0.r
  cases hp with
  | @cons r1 _ Tn _ p1 hp=>
  cases hp with
  | @cons r2 _ agJ _ p2 hp=>
  cases hp
  have hn:n<=4294967295:=A0.small n (by simp)
  refine⟨_,ak (aK (i:=3) nd rfl (Or.inl rfl) (aA G1 hr rfl T.cu.glob k1 b1 .nil cA (aj (bf aU (pv 2) aB (fun _ _=>rfl)) aq)))
   (ak (aK (i:=4) nd rfl (Or.inl rfl) (aA G1 hr rfl T.cu.glob k1 b1 .nil cA (aj (bf aU (pv 2) aB (fun _ _=>rfl)) aq)))
   (ak (aK (i:=5) nd rfl (Or.inl rfl) (aA G2 hr2 rfl T.dB.glob k2 b2 .nil cA (aj (pv 0) (aj (bf aU (pv 1) aB (fun _ _=>rfl)) (aj (iy (aj (a_ T.Ay) aq)) aq)))))
   (au (aL (aA G4 Pn rfl T.mC.glob k4 b4 .nil cA (aj (pv 0) (aj (pv 5) (aj (aA G3 hr rfl T.oV.glob k3 b3 .nil bG (aj (pv 3) (aj (pv 4) (aj (aG (pv 5) rfl) aq)))) aq)))))))),?_⟩
  refine⟨_,rfl,rl,_,0,_,rfl,rfl,bN.of hrl,rfl,r1,k,rfl,bN.of p1.1,p1.2.1,p1.2.2,fun bad H' e=>?_,fun PN H1 x1 e1 hx1=>?_⟩
  .exact out.no (why:= .range) (fO (by show(_&&(_&&_))=false;exact cY (eX bad))) (A0.kp e)
  .refine⟨_,rfl,rl,_,1,_,rfl,rfl,bN.of (e1 _ _ hrl),rfl,r2,x,rfl,bN.of (e1 _ _ p2.1),p2.2.1,p2.2.2,fun bad H' e=>?_,fun okx H2 x2 e2 hx2=>?_⟩
   .exact out.no (why:= .range) (fO (by show(_&&(_&&_))=false;exact cY (cY bad))) (A0.kp (e1.trans e))
   .have vJ:=e1.trans e2
    have A2:=A0.same vJ
    have vk:HJ k:=⟨PN,p1.2⟩
    have vx:HJ x:=⟨okx,p2.2⟩
    have st1:bJ st (.put n k x)=st.from n (fun(i:Nat)=>i==0) (fun(v:bC)=>some (Coll.putIn v.ord ⟨k,x⟩ v.l)) .nothing:=by
     unfold bJ
     rw[if_neg (by show ¬(fH [n]&&(iV k&&iV x))=false;rw[small_one hn,PN,okx];simp)]
    refine⟨_,rfl,_,rfl,wl,_,0,_,rfl,rfl,bN.of A2.w,rfl,len1,fun t ht=>?_⟩
    have e3:=vJ.trans (aF.upd (o:= .tup [V.int 0]) ht)
    have A3:=A0.same e3
    refine⟨sh,d,t,st,n,[0],rfl,A3.S,ao,fun z=>out.no (why:= .absent) (by rw[st1,qp z]) (A0.kp e3),fun v y hv hy=>⟨fun z=>out.no (why:= .kind) (by rw[st1];exact sG hv (by simp at z;simp;omega)) (A0.kp e3),fun z=>?_⟩⟩
    have kz:v.kind=0:=by simp at z;omega
    have V:=A0.O.get hv
    obtain⟨l,as,⟨dy,hy1⟩,_⟩:=id hy
    refine⟨_,rfl,_,rfl,_,rfl,_,rfl,_,rfl,y,_,dy,_,_,rfl,hy1,T.aC.cl,T.bB,bM,x1,x2,k,x,v.ord,rfl,hx1.same (e2.trans (aF.upd ht)),hx2.same (aF.upd ht),vk.read,fun H4 z4 e4 hz=>?_⟩
    have UJ:=e3.trans e4
    refine⟨sh,d,y,z4,st,v,⟨k,x⟩,rfl,by omega,V.ord,A0.S.same UJ,hy.same e4,hz v.kind (.inl kz),vk.good,V.bR,V.up (by omega),qz (A0.O.len hv),?_⟩
    have kl:=Fw A0.S A0.T out (v:={v with l:=Coll.putIn v.ord ⟨k,x⟩ v.l}) (by rw[st1];exact qu hv (by simp[kz]) rfl)
    exact⟨fun z H' h=>kl.1 z H' (UJ.trans h),fun z H' q h=>kl.2 z H' q (rM.ofS UJ h)⟩
theorem Vt(T:Txt K mg a):cN w K mg base 6 a.pZ ["shelf","wholes","rows"] (fun vs H Q E=>∃n k,uR a tb [n] [k] (.insertKey n k) vs H Q E):=by
 obtain⟨fd,F⟩:=T.Gn.fn
 obtain⟨f1,G1,b1,k1⟩:=dZ (w:=w) (base:=base) T
 obtain⟨f2,G2,b2,k2⟩:=eO (w:=w) (base:=base) T
 obtain⟨f3,G3,b3,k3⟩:=HS (w:=w) (base:=base) T
 obtain⟨f4,G4,b4,k4⟩:=zu (w:=w) (base:=base) T
 refine⟨fd,F.ok1 Kh (fun vs H Q E h=>?_) (fun cdv A outer s H vs Q E hr h=>?_),F.binds (by walk_at "b3"),F.kp⟩
 .obtain⟨n,k,sh,d,wl,rl,st,rfl,_⟩:=h
  rfl
 .obtain⟨n,k,sh,d,wl,rl,st,rfl,A0,out⟩:=h
  have hr2:cI 2 _:=hr.mono (by decide)
  have Pn:cI 4 _:=hr.mono (by decide)
  have nd:=Kh.nd
  obtain⟨ras,hrl,hp⟩:=A0.r
  cases hp with
  | @cons r1 _ Tn _ p1 hp=>
  cases hp
  have hn:n<=4294967295:=A0.small n (by simp)
  refine⟨_,ak (aK (i:=3) nd rfl (Or.inl rfl) (aA G1 hr rfl T.cu.glob k1 b1 .nil cA (aj (bf aU (pv 2) aB (fun _ _=>rfl)) aq)))
   (ak (aK (i:=4) nd rfl (Or.inl rfl) (aA G2 hr2 rfl T.dB.glob k2 b2 .nil cA (aj (pv 0) (aj (bf aU (pv 1) aB (fun _ _=>rfl)) (aj (iy (aj (a_ T.Et) aq)) aq)))))
   (au (aL (aA G4 Pn rfl T.mC.glob k4 b4 .nil cA (aj (pv 0) (aj (pv 4) (aj (aA G3 hr rfl T.uD.glob k3 b3 .nil bG (aj (pv 3) (aj (aG (pv 4) rfl) aq))) aq))))))),?_⟩
  refine⟨_,rfl,rl,_,0,_,rfl,rfl,bN.of hrl,rfl,r1,k,rfl,bN.of p1.1,p1.2.1,p1.2.2,fun bad H' e=>?_,fun PN H1 x1 e1 hx1=>?_⟩
  .exact out.no (why:= .range) (fO (by show(_&&_)=false;exact cY bad)) (A0.kp e)
  .have A2:=A0.same e1
   have vk:HJ k:=⟨PN,p1.2⟩
   have st1:bJ st (.insertKey n k)=st.from n (fun(i:Nat)=>i==1) (fun(v:bC)=>some (Coll.putIn v.ord (o9 k) v.l)) .nothing:=by
    unfold bJ
    rw[if_neg (by show ¬(fH [n]&&iV k)=false;rw[small_one hn,PN];simp)]
   refine⟨_,rfl,_,rfl,wl,_,0,_,rfl,rfl,bN.of A2.w,rfl,len1,fun t ht=>?_⟩
   have e3:=e1.trans (aF.upd (o:= .tup [V.int 1]) ht)
   have A3:=A0.same e3
   refine⟨sh,d,t,st,n,[1],rfl,A3.S,ao,fun z=>out.no (why:= .absent) (by rw[st1,qp z]) (A0.kp e3),fun v y hv hy=>⟨fun z=>out.no (why:= .kind) (by rw[st1];exact sG hv (by simp at z;simp;omega)) (A0.kp e3),fun z=>?_⟩⟩
   have kz:v.kind=1:=by simp at z;omega
   have V:=A0.O.get hv
   obtain⟨l,as,⟨dy,hy1⟩,_⟩:=id hy
   refine⟨_,rfl,_,rfl,_,rfl,_,rfl,y,_,dy,_,_,rfl,hy1,T.aC.cl,T.bB,bM,x1,k,v.ord,rfl,hx1.same (aF.upd ht),vk.read,fun H4 z4 e4 hz=>?_⟩
   have UJ:=e3.trans e4
   refine⟨sh,d,y,z4,st,v,o9 k,rfl,by omega,V.ord,A0.S.same UJ,hy.same e4,by rw[kz];exact hz,vk.good,V.bR,V.up (by omega),qz (A0.O.len hv),?_⟩
   have kl:=Fw A0.S A0.T out (v:={v with l:=Coll.putIn v.ord (o9 k) v.l}) (by rw[st1];exact qu hv (by simp[kz]) rfl)
   exact⟨fun z H' h=>kl.1 z H' (UJ.trans h),fun z H' q h=>kl.2 z H' q (rM.ofS UJ h)⟩
end
theorem K7.pre{a:Ad}{tb:Tb}{sh d:Addr}{s:bu}{r:bu×mX}{H H1:Hp}{Q:VK}{E:XK}(o:K7 a tb sh d s r H Q E)(e:cQ H H1):K7 a tb sh d s r H1 Q E:=
 ⟨fun why h H' k=>o.1 why h H' (k.pre e),fun h H' l k hl=>o.2 h H' l (k.pre e) hl⟩
section
variable{w:World}{K:bw}{mg:Str->Option Value}{base:Heap}{a:Ad}{tb:Tb}
def Ii(i m:Nat)(fs:List aN)(v:bC):Option (List aN):=if i+m<=v.l.length then some (v.l.take i++fs++v.l.drop (i+m)) else none
inductive aaO(a:Ad)(tb:Tb)(vs:List V)(H:Hp)(Q:VK)(E:XK):Prop
 |mk (sh d wl f:Addr) (s:bu) (ws:List Nat) (n i m:Nat) (fs:List aN) (lq:vs=[.ref sh,.ref wl,.int m,.ref f]) (hh1:cH a H sh d s) (nY:pU s) (hh3:TabsOk tb H) (wO:H wl=some (.lst (ws.map fun(n:Nat)=>V.int n))) (Eo:ws[0]? =some n) (Ph:ws[1]? =some i) (ZM:gK a 3 0 H f fs) (hh8:fs.length<=1) (hh9:K7 a tb sh d s (s.from n (fun(j:Nat)=>j==3) (Ii i m fs) (.refused .absent)) H Q E)
def ad0(a:Ad)(tb:Tb):Sp:=fun vs H Q E=>aaO a tb vs H Q E
theorem pA(T:Txt K mg a):cN w K mg base 4 a.i_ ["shelf","wholes","many","fresh"] (ad0 a tb):=by
 obtain⟨fd,F⟩:=T.gj.fn
 obtain⟨f1,G1,b1,k1⟩:=eO (w:=w) (base:=base) T
 obtain⟨f2,G2,b2,k2⟩:=yg (w:=w) (base:=base) T
 obtain⟨f3,G3,b3,k3⟩:=mq (w:=w) (base:=base) T
 refine⟨fd,F.ok1 uY (fun vs H Q E h=>?_) (fun cdv A outer s H vs Q E hr h=>?_),F.binds (by walk_at "b4"),F.kp⟩
 .obtain⟨sh,d,wl,f,st,ws,n,i,m,fs,rfl,_⟩:=h
  rfl
 .obtain⟨sh,d,wl,f,st,ws,n,i,m,fs,rfl,S,O,Tt,hw,h0,h1,hf,hfl,out⟩:=h
  have hr1:cI 1 _:=hr.mono (by decide)
  have hr2:cI 2 _:=hr.mono (by decide)
  have nd:=uY.nd
  have i0:O_ (ws.map fun(n:Nat)=>V.int n) (0:Int)=some (V.int n):=uZ (j:=0) (by rw[gw,h0];rfl)
  have i1:O_ (ws.map fun(n:Nat)=>V.int n) (1:Int)=some (V.int i):=uZ (j:=1) (by rw[gw,h1];rfl)
  have kp:∀{H':Hp},aF H H'->Kp a tb sh d st H H':=fun e=>⟨jz.of (cQ.of e),S.same e,Tt.same e⟩
  refine⟨_,ak (aK (i:=4) nd rfl (Or.inl rfl) (aA G1 hr2 rfl T.dB.glob k1 b1 .nil cA (aj (pv 0) (aj (bf aU (pv 1) aB (fun _ _=>rfl)) (aj (iy (aj (a_ T.Q5) aq)) aq)))))
   (ak (aK (i:=5) nd rfl (Or.inl rfl) (bf aU (pv 1) aB (fun _ _=>rfl)))
   (ak (aK (i:=6) nd rfl (Or.inl rfl) (aA G2 hr1 rfl T.oO.glob k2 b2 .nil cA (aj (pv 4) (aj (pv 5) (aj (pv 2) aq)))))
   (au (aL (bL (aj (a_ T.iu) (aj (aA G3 hr rfl T.gU.glob k3 b3 .nil cA (aj (pv 0) (aj (pv 4) (aj (pv 5) (aj (pv 6) (aj (pv 3) aq)))))) aq))))))),?_⟩
  refine⟨_,rfl,_,rfl,wl,_,0,_,rfl,rfl,bN.of hw,i0,len1,fun t ht=>?_⟩
  have e3:=aF.upd (o:= .tup [V.int 3]) ht
  refine⟨sh,d,t,st,n,[3],rfl,S.same e3,ao,fun z=>out.no (why:= .absent) (by rw[qp z]) (kp e3),fun v y hv hy=>⟨fun z=>out.no (why:= .kind) (sG hv (by simp at z;simp;omega)) (kp e3),fun z=>?_⟩⟩
  have kz:v.kind=3:=by simp at z;omega
  have Vk:=O.get hv
  have oz:v.ord=0:=Vk.row kz
  refine⟨_,rfl,wl,_,1,_,rfl,rfl,bN.of (e3 _ _ hw),i1,_,rfl,_,rfl,_,rfl,y,v,i,m,rfl,hy,fun z=>?_,fun z=>?_⟩
  .exact out.no (why:= .absent) (by rw[Lg hv (by simp[kz]) (by unfold Ii;rw[if_neg z])];rfl) (kp e3)
  .refine⟨_,rfl,_,rfl,_,rfl,_,rfl,_,rfl,sh,d,y,f,st,v,i,i+m,fs,rfl,S.same e3,hy,by rw[kz,oz];exact hf.same e3,hfl,by omega,z,qz (O.len hv),?_⟩
   have kq:=sV S Tt out (v:={v with l:=v.l.take i++fs++v.l.drop (i+m)}) (qu hv (by simp[kz]) (by unfold Ii;rw[if_pos z])) e3
   exact⟨kq.1,fun nf H' sS S'=>⟨len2,kq.2 nf H' sS S'⟩⟩
theorem Ng(T:Txt K mg a):cN w K mg base 6 a.jQ ["shelf","wholes","rows"] (fun vs H Q E=>∃n i x,uR a tb [n,i] [x] (.insert n i x) vs H Q E):=by
 obtain⟨fd,F⟩:=T.yO.fn
 obtain⟨f1,G1,b1,k1⟩:=dZ (w:=w) (base:=base) T
 obtain⟨f2,G2,b2,k2⟩:=zW (w:=w) (base:=base) T
 obtain⟨f3,G3,b3,k3⟩:=pA (w:=w) (base:=base) (tb:=tb) T
 refine⟨fd,F.ok1 Oj (fun vs H Q E h=>?_) (fun cdv A outer s H vs Q E hr h=>?_),F.binds (by walk_at "b3"),F.kp⟩
 .obtain⟨n,i,x,sh,d,wl,rl,st,rfl,_⟩:=h
  rfl
 .obtain⟨n,i,x,sh,d,wl,rl,st,rfl,A0,out⟩:=h
  have Pk:cI 3 _:=hr.mono (by decide)
  have Pn:cI 4 _:=hr.mono (by decide)
  obtain⟨ras,hrl,hp⟩:=A0.r
  cases hp with
  | @cons r1 _ Tn _ p1 hp=>
  cases hp
  have hn:n<=4294967295:=A0.small n (by simp)
  have hi:i<=4294967295:=A0.small i (by simp)
  refine⟨_,au (aL (aA G3 Pn rfl T.gj.glob k3 b3 .nil cA (aj (pv 0) (aj (pv 1) (aj aB (aj (bL (aj (aA G2 Pk rfl T.qy.glob k2 b2 .nil bG (aj (aA G1 hr rfl T.cu.glob k1 b1 .nil cA (aj (bf aU (pv 2) aB (fun _ _=>rfl)) aq)) aq)) aq)) aq)))))),?_⟩
  refine⟨_,rfl,_,rfl,_,rfl,rl,_,0,_,rfl,rfl,bN.of hrl,rfl,r1,x,rfl,bN.of p1.1,p1.2.1,p1.2.2,fun bad H' e=>?_,fun PN H1 x1 e1 hx1=>?_⟩
  .exact out.no (why:= .range) (fO (by show(_&&_)=false;exact cY bad)) (A0.kp e)
  .have st1:bJ st (.insert n i x)=st.from n (fun(j:Nat)=>j==3) (Ii i 0 [o9 x]) (.refused .absent):=by
    unfold bJ
    rw[if_neg (by show ¬(fH [n,i]&&iV x)=false;rw[tD hn hi,PN];simp)]
    show st.from n _ _ _=_
    congr 1
    funext v
    unfold Ii
    simp
   refine⟨x1,x,rfl,hx1,fun H2 z e2 hz=>⟨len1,fun g hg=>?_⟩⟩
   have e3:=(e1.trans e2).trans (aF.upd (o:= .lst [V.ref z]) hg)
   have A3:=A0.same e3
   refine⟨sh,d,wl,g,st,[n,i],n,i,0,[o9 x],rfl,A3.S,A3.O,A3.T,A3.w,rfl,rfl,⟨[z],ao,.cons (hz.same (aF.upd hg)) .nil⟩,cF _,?_⟩
   rw[<-st1]
   exact out.pre (cQ.of e3)
theorem M_(T:Txt K mg a):cN w K mg base 6 a.jN ["shelf","wholes","rows"] (fun vs H Q E=>∃n i x,uR a tb [n,i] [x] (.change n i x) vs H Q E):=by
 obtain⟨fd,F⟩:=T.yL.fn
 obtain⟨f1,G1,b1,k1⟩:=dZ (w:=w) (base:=base) T
 obtain⟨f2,G2,b2,k2⟩:=zW (w:=w) (base:=base) T
 obtain⟨f3,G3,b3,k3⟩:=pA (w:=w) (base:=base) (tb:=tb) T
 refine⟨fd,F.ok1 Oh (fun vs H Q E h=>?_) (fun cdv A outer s H vs Q E hr h=>?_),F.binds (by walk_at "b3"),F.kp⟩
 .obtain⟨n,i,x,sh,d,wl,rl,st,rfl,_⟩:=h
  rfl
 .obtain⟨n,i,x,sh,d,wl,rl,st,rfl,A0,out⟩:=h
  have Pk:cI 3 _:=hr.mono (by decide)
  have Pn:cI 4 _:=hr.mono (by decide)
  obtain⟨ras,hrl,hp⟩:=A0.r
  cases hp with
  | @cons r1 _ Tn _ p1 hp=>
  cases hp
  have hn:n<=4294967295:=A0.small n (by simp)
  have hi:i<=4294967295:=A0.small i (by simp)
  refine⟨_,au (aL (aA G3 Pn rfl T.gj.glob k3 b3 .nil cA (aj (pv 0) (aj (pv 1) (aj aB (aj (bL (aj (aA G2 Pk rfl T.qy.glob k2 b2 .nil bG (aj (aA G1 hr rfl T.cu.glob k1 b1 .nil cA (aj (bf aU (pv 2) aB (fun _ _=>rfl)) aq)) aq)) aq)) aq)))))),?_⟩
  refine⟨_,rfl,_,rfl,_,rfl,rl,_,0,_,rfl,rfl,bN.of hrl,rfl,r1,x,rfl,bN.of p1.1,p1.2.1,p1.2.2,fun bad H' e=>?_,fun PN H1 x1 e1 hx1=>?_⟩
  .exact out.no (why:= .range) (fO (by show(_&&_)=false;exact cY bad)) (A0.kp e)
  .have st1:bJ st (.change n i x)=st.from n (fun(j:Nat)=>j==3) (Ii i 1 [o9 x]) (.refused .absent):=by
    unfold bJ
    rw[if_neg (by show ¬(fH [n,i]&&iV x)=false;rw[tD hn hi,PN];simp)]
    show st.from n _ _ _=_
    congr 1
    funext v
    unfold Ii
    by_cases c:i<v.l.length
    .rw[if_pos c,if_pos (by omega),List.set_eq_take_append_cons_drop,if_pos c];simp
    .rw[if_neg c,if_neg (by omega)]
   refine⟨x1,x,rfl,hx1,fun H2 z e2 hz=>⟨len1,fun g hg=>?_⟩⟩
   have e3:=(e1.trans e2).trans (aF.upd (o:= .lst [V.ref z]) hg)
   have A3:=A0.same e3
   refine⟨sh,d,wl,g,st,[n,i],n,i,1,[o9 x],rfl,A3.S,A3.O,A3.T,A3.w,rfl,rfl,⟨[z],ao,.cons (hz.same (aF.upd hg)) .nil⟩,cF _,?_⟩
   rw[<-st1]
   exact out.pre (cQ.of e3)
theorem Nh(T:Txt K mg a):cN w K mg base 5 a.jR ["shelf","wholes","rows"] (fun vs H Q E=>∃n i m,uR a tb [n,i,m] [] (.remove n i m) vs H Q E):=by
 obtain⟨fd,F⟩:=T.yP.fn
 obtain⟨f3,G3,b3,k3⟩:=pA (w:=w) (base:=base) (tb:=tb) T
 refine⟨fd,F.ok1 Om (fun vs H Q E h=>?_) (fun cdv A outer s H vs Q E hr h=>?_),F.binds (by walk_at "b3"),F.kp⟩
 .obtain⟨n,i,m,sh,d,wl,rl,st,rfl,_⟩:=h
  rfl
 .obtain⟨n,i,m,sh,d,wl,rl,st,rfl,A0,out⟩:=h
  have hn:n<=4294967295:=A0.small n (by simp)
  have hi:i<=4294967295:=A0.small i (by simp)
  have hm:m<=4294967295:=A0.small m (by simp)
  refine⟨_,au (aL (aA G3 hr rfl T.gj.glob k3 b3 .nil cA (aj (pv 0) (aj (pv 1) (aj (bf aU (pv 1) aB (fun _ _=>rfl)) (aj (bL aq) aq)))))),?_⟩
  have st1:bJ st (.remove n i m)=st.from n (fun(j:Nat)=>j==3) (Ii i m []) (.refused .absent):=by
   unfold bJ
   rw[if_neg (by show ¬fH [n,i,m]=false;rw[Ky hn hi hm];simp)]
   show st.from n _ _ _=_
   congr 1
   funext v
   unfold Ii
   simp
  refine⟨_,rfl,_,rfl,_,rfl,wl,_,2,_,rfl,rfl,bN.of A0.w,rfl,len0,fun g hg=>?_⟩
  have e3:=aF.upd (o:= .lst []) hg
  have A3:=A0.same e3
  refine⟨sh,d,wl,g,st,[n,i,m],n,i,m,[],rfl,A3.S,A3.O,A3.T,A3.w,rfl,rfl,⟨[],ao,.nil⟩,by simp,?_⟩
  rw[<-st1]
  exact out.pre (cQ.of e3)
theorem Nf(T:Txt K mg a):cN w K mg base 3 a.jP ["shelf","wholes","rows"] (fun vs H Q E=>∃n,uR a tb [n] [] (.forget n) vs H Q E):=by
 obtain⟨fd,F⟩:=T.yN.fn
 obtain⟨f3,G3,b3,k3⟩:=HQ (w:=w) (base:=base) T
 refine⟨fd,F.ok1 Oi (fun vs H Q E h=>?_) (fun cdv A outer s H vs Q E hr h=>?_),F.binds (by walk_at "b3"),F.kp⟩
 .obtain⟨n,sh,d,wl,rl,st,rfl,_⟩:=h
  rfl
 .obtain⟨n,sh,d,wl,rl,st,rfl,A0,out⟩:=h
  have hn:n<=4294967295:=A0.small n (by simp)
  have st1:bJ st (.forget n)=match st.get n with
    |none=>uF st .absent
    |some _=>(forgot st n,.done):=by
   unfold bJ
   rw[if_neg (by show ¬fH [n]=false;rw[small_one hn];simp)]
   rfl
  refine⟨_,ak (cZ (aA G3 hr rfl T.oR.glob k3 b3 .nil cA (aj (pv 0) (aj (bf aU (pv 1) aB (fun _ _=>rfl)) aq)))) (au (aL (bL (aj (a_ T.iu) aq)))),?_⟩
  refine⟨_,rfl,_,rfl,wl,_,0,_,rfl,rfl,bN.of A0.w,rfl,sh,d,st,n,rfl,A0.S,A0.O,fun z=>out.no (why:= .absent) (by rw[st1,z]) (A0.kp fun _ _ z=>z),fun v hv H1 sS S1=>⟨len1,fun p hp=>?_⟩⟩
  refine out.yes (s':=forgot st n) (ans:= .done) (by rw[st1,hv]) (fun _ y=>by cases y) ⟨(jz.ofS sS).trans (jz.of (cQ.of (aF.upd hp))),S1.same (aF.upd hp),(A0.T.Dj A0.S sS).same (aF.upd hp)⟩ ?_
  rw[ao];rfl
theorem SQ(T:Txt K mg a):cN w K mg base 1 a.ni ["shelf","wholes","rows"] (fun vs H Q E=>uR a tb [] [] .room vs H Q E):=by
 obtain⟨fd,F⟩:=T.Dy.fn
 refine⟨fd,F.ok1 Tz (fun vs H Q E h=>?_) (fun cdv A outer s H vs Q E hr h=>?_),F.binds (by walk_at "b3"),F.kp⟩
 .obtain⟨sh,d,wl,rl,st,rfl,_⟩:=h
  rfl
 .obtain⟨sh,d,wl,rl,st,rfl,A0,out⟩:=h
  obtain⟨dx,h1⟩:=A0.S.ob
  obtain⟨kvs,h2,hp⟩:=A0.S.dict
  refine⟨_,au (aL (bL (aj (a_ T.iu) (aj aB (aj (aG (pv 0) rfl) (aj (bZ QF rfl T.iR jC (aj (aG (pv 0) rfl) aq)) (aj (aG (pv 0) rfl) aq))))))),?_⟩
  refine⟨_,rfl,sh,_,dx,_,_,rfl,h1,T.fW.cl,T.lJ,w6,_,rfl,sh,_,dx,_,_,rfl,h1,T.fW.cl,T.dY,jt,d,kvs,rfl,h2,_,rfl,sh,_,dx,_,_,rfl,h1,T.fW.cl,T.fK,kI,cT (by simp),fun p hp'=>?_⟩
  refine out.yes (ans:= .numbers [st.room,st.l.length,st.next]) rfl (fun _ y=>by cases y) (A0.kp (aF.upd hp')) ?_
  rw[ao,gC hp];rfl
theorem SM(T:Txt K mg a):cN w K mg base 2 a.m9 ["shelf","wholes","rows"] (fun vs H Q E=>∃n,uR a tb [n] [] (.kind n) vs H Q E):=by
 obtain⟨fd,F⟩:=T.Du.fn
 obtain⟨f1,G1,b1,k1⟩:=dX (w:=w) (base:=base) T
 refine⟨fd,F.ok1 Il (fun vs H Q E h=>?_) (fun cdv A outer s H vs Q E hr h=>?_),F.binds (by walk_at "b3"),F.kp⟩
 .obtain⟨n,sh,d,wl,rl,st,rfl,_⟩:=h
  rfl
 .obtain⟨n,sh,d,wl,rl,st,rfl,A0,out⟩:=h
  have hn:n<=4294967295:=A0.small n (by simp)
  have st1:bJ st (.kind n)=st.ask n Coll.any fun(v:bC)=> .numbers [v.kind,v.ord]:=by
   unfold bJ
   rw[if_neg (by show ¬fH [n]=false;rw[small_one hn];simp)]
  refine⟨_,ak (aK (i:=3) Il.nd rfl (Or.inl rfl) (aA G1 hr rfl T.cC.glob k1 b1 .nil cA (aj (pv 0) (aj (bf aU (pv 1) aB (fun _ _=>rfl)) aq))))
   (au (aL (bL (aj (a_ T.iu) (aj aB (aj (aG (pv 3) rfl) (aj (aG (pv 3) rfl) aq))))))),?_⟩
  refine⟨_,rfl,_,rfl,wl,_,0,_,rfl,rfl,bN.of A0.w,rfl,sh,d,st,n,rfl,A0.S,fun z=>out.no (why:= .absent) (by rw[st1,yV z]) (A0.kp fun _ _ z=>z),fun v y hv hy=>?_⟩
  obtain⟨l,as,⟨dy,hy1⟩,hy2,ZW⟩:=id hy
  refine⟨_,rfl,y,_,dy,_,_,rfl,hy1,T.aC.cl,T.bH,bQ,_,rfl,y,_,dy,_,_,rfl,hy1,T.aC.cl,T.bB,bM,cT (by simp),fun p hp=>?_⟩
  refine out.yes (ans:= .numbers [v.kind,v.ord]) (by rw[st1,uf hv rfl]) (fun _ y=>by cases y) (A0.kp (aF.upd hp)) ?_
  rw[ao];rfl
end
theorem afg{P:Program}{w:World}{K:bw}{mg:Str->Option Value}{base:Heap}{x qual:Str}{st:Stmt}{f c:Addr}{fd:FuncData}{N ps:List Str}{k:Nat}{sp:Sp}(F:Fun K x qual st f fd)
  (hc:∀oc od fd osl,K.lookup f=some ⟨oc,od,.func fd,osl⟩->fd.code= .ref c)(S:aM N ps (aH st))(len:∀vs H Q E,sp vs H Q E->vs.length=ps.length)
  (hbody:∀(A:Around) (outer:List Env) (s:Shared) (H:Hp) (vs:List V) (Q:VK) (E:XK),cI k (A.deeper (envOfC qual (aH st) s.heap.objs.size f (.ref c)))->sp vs H Q E->
   ∃t,Zo (Pg P w K mg base N qual (aH st) f (.ref c) A outer s H E) (wY st) t/\t {nx:=fun _ H'=>Q .non H',rt:=Q} (L2.start N vs) H):Fg P w K mg base (CX1 P w) (k+1) f fd ps sp:=by
 obtain⟨oc,od,kV,doc,pm,an,cdv,ct,osl,rfl,lk,hcd⟩:=F.ex
 have e:cdv= .ref c:=hc _ _ _ _ lk
 subst e
 exact aeh lk hcd S len fun A outer s H vs Q E hr hsp=>hbody A outer s H vs Q E hr hsp
theorem Gi{α:Type}{as bs:List Addr}{ent:Addr->α}{key:α->List Int}(h:t_ (as.map fun x=>key (ent x)) as bs):
  bs.Perm as/\(bs.map ent).Pairwise (fun x y=>HT.lexLt (key y) (key x)=false)/\∀c,(bs.map ent).filter (fun x=>key x==c)=(as.map ent).filter (fun x=>key x==c):=by
 obtain⟨ps,hp,hb,ho,hf⟩:=h
 have hz:(as.map fun x=>key (ent x)).zip as=as.map fun x=>(key (ent x),x):=by
  have:∀l:List Addr,(l.map fun x=>key (ent x)).zip l=l.map fun x=>(key (ent x),x):=fun l=>by
   induction l with
   |nil=>rfl
   |cons x r ih=>rw[cU,List.zip_cons_cons,ih,cU]
  exact this as
 rw[hz] at hp hf
 have hps:ps=bs.map fun x=>(key (ent x),x):=by
  rw[hb,BK]
  refine(List.map_id ps).symm.trans (Qt fun p hpm=>?_)
  obtain⟨x,_,e⟩:=uU.mp (hp.mem_iff.mp hpm)
  rw[<-e];rfl
 refine⟨?_,?_,fun c=>?_⟩
 .rw[hb]
  have:=hp.map Prod.snd
  rw[BK] at this
  exact this.trans (by rw[show(Prod.snd∘fun x=>(key (ent x),x))=id from rfl,List.map_id])
 .rw[hps,List.pairwise_map] at ho
  rw[List.pairwise_map]
  exact ho
 .have h1:=congrArg (fun l=>l.map fun p:List Int×Addr=>ent p.2) (hf c)
  rw[hps,List.filter_map,List.filter_map,BK,BK] at h1
  rw[List.filter_map,List.filter_map]
  exact h1
section
variable{a:Ad}{kind ord:Nat}{H:Hp}
theorem J5:∀{x y:List Int},x.map V.int=y.map V.int->x=y
 |[],[],_=>rfl
 |[],_::_,h=>by simp at h
 |_::_,[],h=>by simp at h
 |x::r,y::t,h=>by
  rw[cU,cU] at h
  injection h with h1 h2
  injection h1 with h1
  rw[h1,J5 h2]
theorem T8{t:Addr}{x y:List Int}(h1:oK H t x)(h2:oK H t y):x=y:=by
 have h1':H t=_:=h1
 rw[h2] at h1'
 injection h1' with h
 injection h with h
 exact(J5 h).symm
theorem Yj{fs gs:List (Str×V)}{x C D d1 d2:Addr}(h1:H x=some (.ins C d1 fs))(h2:H x=some (.ins D d2 gs)):fs=gs:=by
 rw[h1] at h2
 injection h2 with h
 injection h
theorem QL{x:Addr}{e f:aN}(hk:kind<=3)(h1:bT a kind ord H x e)(h2:bT a kind ord H x f)(oe:xr kind e)(of_:xr kind f):e=f:=by
 obtain⟨k,v,p,⟨d1,o1⟩,o2,o3,o4⟩:=h1
 obtain⟨k',v',p',⟨d2,r1⟩,r2,r3,r4⟩:=h2
 have fe:=Yj o1 r1
 have ek:k=k':=by
  have z:=congrArg (fun l=>l.lookup ("key":Str)) fe
  rw[eY,eY] at z
  injection z with z;injection z
 have ev:v=v':=by
  have z:=congrArg (fun l=>l.lookup ("value":Str)) fe
  rw[gF,gF] at z
  injection z with z;injection z
 subst ek ev
 have n1:=T8 o2 r2
 have n2:=T8 o3 r3
 have same:e.k=f.k/\e.x=f.x:=by
  unfold sO at n1
  unfold valN at n2
  by_cases h1:kind=1
  .rw[if_neg (by omega),if_neg (by omega),lQ] at n1
   exact⟨n1,by rw[oe.2.2 (.inl h1),of_.2.2 (.inl h1),n1]⟩
  .rw[if_neg h1,if_neg h1,lQ] at n2
   by_cases h3:kind=3
   .exact⟨by rw[<-oe.2.2 (.inr h3),<-of_.2.2 (.inr h3),n2],n2⟩
   .rw[if_neg h3,if_neg h3,lQ] at n1
    exact⟨n1,n2⟩
 cases e;cases f
 obtain⟨z1,z2⟩:=same
 cases z1;cases z2;rfl
open Classical in
noncomputable def lU (a:Ad) (kind ord:Nat) (H:Hp) (x:Addr):aN:=if h:∃e,bT a kind ord H x e/\xr kind e then h.choose else⟨.truth false,.truth false⟩
theorem BW{x:Addr}{e:aN}(hk:kind<=3)(h:bT a kind ord H x e)(o:xr kind e):lU a kind ord H x=e:=by
 have ex:∃e,bT a kind ord H x e/\xr kind e:=⟨e,h,o⟩
 unfold lU
 rw[dif_pos ex]
 exact QL hk ex.choose_spec.1 h ex.choose_spec.2 o
theorem Je(hk:kind<=3):∀{as:List Addr} {es:List aN},Paired (bT a kind ord H) as es->(∀e∈es,xr kind e)->as.map (lU a kind ord H)=es
 |_,_,.nil,_=>rfl
 |_,_,.cons h t,o=>by
  rw[cU,BW hk h (o _ fY),Je hk t fun e he=>o e (dU _ he)]
theorem Fx{P:Addr->aN->Prop}{ent:Addr->aN}:∀{bs:List Addr},(∀x∈bs,P x (ent x))->Paired P bs (bs.map ent)
 |[],_=> .nil
 |x::r,h=> .cons (h x fY) (Fx fun y hy=>h y (dU _ hy))
theorem NZ{o:Nat}{v:aQ}:place o v≠[]:=by
 unfold place
 obtain⟨r,h⟩:=rW false v
 obtain⟨r2,h2⟩:=rW (o==2) v
 split
 .rw[h];simp
 .rw[h2];simp
end
section
variable{w:World}{K:bw}{mg:Str->Option Value}{base:Heap}{a:Ad}{tb:Tb}
theorem TabsOk.x1{H H':Hp}(L:yS K mg base a tb)(t:TabsOk tb H)(h:tZ tb.P1 H H')(t':TabAt H' tb.P1 lp1 lq1):TabsOk tb H':=⟨t',TabAt.other h L.n12.symm t.t1 t.t2,TabAt.other h L.n13.symm t.t1 t.t3⟩
inductive Wk(a:Ad)(tb:Tb)(vs:List V)(H:Hp)(Q:VK):Prop
 |mk (l:Addr) (kind ord:Nat) (es:List aN) (lq:vs=[.ref l]) (hh1:kind<=2) (nY:gK a kind ord H l es) (hh3:(∀e∈es,xr kind e)) (wO:es.length<=2000000) (Eo:TabsOk tb H) (Ph:∀(H':Hp) (q:Addr) (out:List aN),cQ H H'->TabsOk tb H'->gK a kind ord H' q out->out.Perm es->sortedBy (pk ord) out->(∀c,rowAt (pk ord) c out=rowAt (pk ord) c es)->Q (.ref q) H')
def aan(a:Ad)(tb:Tb):Sp:=fun vs H Q _=>Wk a tb vs H Q
theorem Vq(T:Txt K mg a)(L:yS K mg base a tb):cN w K mg base 4 a.m5 ["entries"] (aan a tb):=by
 obtain⟨fd,F⟩:=T.wK.fn
 refine⟨fd,afg F L.l1.code V1 (fun vs H Q E h=>?_) (fun A outer s H vs Q E hr h=>?_),F.binds (by walk_at "b1"),F.kp⟩
 .obtain⟨l,kind,ord,es,rfl,_⟩:=h
  rfl
 .obtain⟨l,kind,ord,es,rfl,hk,⟨as,hl,hp⟩,ok,hn,Tt,k⟩:=h
  have pl:=gC hp
  refine⟨_,au (aL (NQ (P:=tb.P1) (p:="entry") (caps:=[]) (qual:=lq1) (clos:=[]) (tb:=Qj K (vd 0) "place") hr (pv 0) (Jp (c:=tb.c1) L.l1.hd rfl L.bm rfl rfl rfl) rfl T.BL (fun _ _ _ _=>rfl) (fun f c' s H=>aG (pv 0) rfl))),?_⟩
  have ee:=Je (by omega:kind<=3) hp ok
  refine⟨_,rfl,l,as,as.map (fun x=>pk ord (lU a kind ord H x)),[],rfl,bN.of hl,by simp,fun z hz=>?_,⟨rfl,rfl,rfl,rfl,rfl,by decide+kernel,fun x hx=>?_,fun x c hx=>by simp at hx,fun i x v hx _=>by simp at hx⟩,Tt.t1,fun i b ks H' hb hks sx=>?_,fun bs H' q sx tx hs hq=>?_⟩
  .obtain⟨x,_,rfl⟩:=uU.mp hz
   exact NZ
  .have z:=rN.mp (qG hx)
   exact absurd (fJ z).2 (by decide)
  .obtain⟨e,he,hAt⟩:=cD hp hb
   have oke:=ok e (fZ he)
   have ek:ks=pk ord e:=by
    rw[gw,hb] at hks
    have:=dJ hks
    rw[<-this]
    show pk ord (lU a kind ord H b)=_
    rw[BW (by omega) hAt oke]
   obtain⟨kx,vx,px,⟨dx,o1⟩,o2,o3,o4⟩:=hAt.t (tZ.t sx Tt.t1)
   unfold plN at o4
   rw[if_neg (by omega)] at o4
   refine⟨_,rfl,b,_,dx,_,_,rfl,o1,T.bO.cl,T.cR,eG,px,rfl,?_,fun _ _ z=>z⟩
   rw[ek];exact o4
  .obtain⟨h1,h2,h3⟩:=Gi (ent:=lU a kind ord H) (key:=pk ord) hs
   have sT:=tZ.t sx Tt.t1
   have sT':=sT.trans (cQ.of (aF.upd (o:= .lst (bs.map V.ref)) hq))
   refine k _ q (bs.map (lU a kind ord H)) sT' ((Tt.x1 L sx tx).same (aF.upd hq)) ⟨bs,ao,?_⟩ ?_ ?_ fun c=>?_
   .refine Fx fun x hx=>?_
    have hx':=h1.mem_iff.mp hx
    obtain⟨i,hi⟩:=List.mem_iff_getElem?.mp hx'
    obtain⟨e,he,hAt⟩:=cD hp hi
    rw[BW (by omega) hAt (ok e (fZ he))]
    exact hAt.t sT'
   .rw[<-ee];exact h1.map _
   .refine h2.imp fun{x y} z=>?_
    show cO (pk ord y) (pk ord x)≠ .lt
    rw[qW] at z
    exact eF.mp z
   .rw[<-ee];exact h3 c
end
theorem Ka(kind o:Nat)(e:aN):∀l:List aN,cW kind (Coll.addIn o e l)=vZ kind e+cW kind l
 |[]=>by simp[Coll.addIn,cW]
 |x::r=>by
  have ih:=Ka kind o e r
  rw[Coll.addIn]
  split
  .simp[cW]
  .unfold cW at ih ⊢
   rw[cU,qH,ih,cU,qH];omega
theorem Ih(kind o:Nat):∀(m l:List aN),cW kind (jH o l m)=cW kind l+cW kind m
 |[],l=>by simp[jH,cW]
 |e::m,l=>by
  show cW kind (jH o (Coll.addIn o e l) m)=_
  rw[Ih kind o m,Ka]
  simp[cW];omega
theorem aac{kind:Nat}{l m:List aN}(h:l.Perm m):cW kind l=cW kind m:=by
 unfold cW
 exact(h.map _).sum_nat
section
variable{w:World}{K:bw}{mg:Str->Option Value}{base:Heap}{a:Ad}{tb:Tb}
inductive aaH(a:Ad)(tb:Tb)(vs:List V)(H:Hp)(Q:VK):Prop
 |mk (l1 l2:Addr) (v u:bC) (how:Nat) (lq:vs=[.ref l1,.ref l2,.int how]) (hh1:v.kind<=1) (nY:v.kind=u.kind) (hh3:v.ord=u.ord) (wO:how<=3) (Eo:gK a v.kind v.ord H l1 v.l) (Ph:gK a v.kind v.ord H l2 u.l) (ZM:g_ v) (hh8:g_ u) (hh9:v.l.length<=1000000) (ZL:u.l.length<=1000000) (ady:TabsOk tb H) (aon:∀(H':Hp) (q:Addr),cQ H H'->TabsOk tb H'->gK a v.kind v.ord H' q (jL v u how)->(jL v u how).length<=2000000->Q (.ref q) H')
def adW(a:Ad)(tb:Tb):Sp:=fun vs H Q _=>aaH a tb vs H Q
theorem Qx(l m:List aN):(alone l m).length<=l.length:=List.length_filter_le _ _
theorem HR(T:Txt K mg a)(L:yS K mg base a tb):cN w K mg base 5 a.kY ["first","second","how"] (adW a tb):=by
 obtain⟨fd,F⟩:=T.oU.fn
 obtain⟨f1,G1,b1,k1⟩:=Xw (w:=w) (base:=base) T
 obtain⟨f2,G2,b2,k2⟩:=K6 (w:=w) (base:=base) T
 obtain⟨f3,G3,b3,k3⟩:=Vq (w:=w) T L
 refine⟨fd,F.ok1 xu (fun vs H Q E h=>?_) (fun cdv A outer s H vs Q E hr h=>?_),F.binds (by walk_at "b3"),F.kp⟩
 .obtain⟨l1,l2,v,u,how,rfl,_⟩:=h
  rfl
 .obtain⟨l1,l2,v,u,how,rfl,hk,hkk,hoo,ZP,hL1,hL2,Vk,Uk,hn1,hn2,Tt,k⟩:=h
  have hu:=J1 hr
  have hr1:cI 1 _:=hr.mono (by decide)
  have nd:=xu.nd
  obtain⟨as,h1,p1⟩:=id hL1
  obtain⟨bs,h2,p2⟩:=id hL2
  have pl:=gC p1
  have pl2:=gC p2
  have hum:∀e∈u.l,xr v.kind e:=fun e he=>by rw[hkk];exact Uk.ents e he
  refine⟨_,ak (aK (i:=3) nd rfl (Or.inr rfl) (aA G1 hr1 rfl T.zF.glob k1 b1 .nil bG (aj (pv 1) aq)))
   (ak (cJ (aX jf (pv 2) (a_ T.Cg) (bx _)) (au (aL (VF (tt:=tB (agT (Qj K (vd 5) "key") (vd 3))) (te:=vd 5) rfl nd (iQ (pv 0)) (yW (own:=[("entry",5)]) (by kernel_rfl)) (fun _ _ _ _ _=>gH (i:=5) nd rfl (Or.inl rfl))
    (fun _ _ _ _ _=>YF (N6 (afm hu (aG (pv 5) rfl) (pv 3)))) (fun _ _ _ _ _=>pv 5)))) bF)
   (ak (aK (i:=4) nd rfl (Or.inl rfl) (aA G2 hr1 rfl T.oH.glob k2 b2 .nil bG (aj (pv 0) (aj (pv 3) aq))))
   (ak (cJ (aX jf (pv 2) (a_ T.uJ) (bx _)) (au (aL (pv 4))) bF)
   (ak (cJ (aX jf (pv 2) (a_ T.tK) (bx _)) (au (aL (aA G3 hr rfl T.wK.glob k3 b3 .nil bG (aj (cB n_ (pv 4) (pv 1)) aq)))) bF)
   (au (aL (aA G3 hr rfl T.wK.glob k3 b3 .nil bG (aj (cB n_ (pv 4) (aA G2 hr1 rfl T.oH.glob k2 b2 .nil bG (aj (pv 1) (aj (aA G1 hr1 rfl T.zF.glob k1 b1 .nil bG (aj (pv 0) aq)) aq)))) aq)))))))),?_⟩
  refine⟨_,rfl,l2,v.kind,v.ord,u.l,rfl,by omega,hL2,hn2,fun H1 d e1 hkd=>?_⟩
  obtain⟨kvs,hkv,_,hall⟩:=id hkd
  refine⟨_,rfl,rfl,_,rfl,Iu (fun c=>?_) (fun c=>?_)⟩
  .have ch:how=1:=by omega
   refine⟨_,rfl,l1,rfl,⟨_,bN.of (e1 _ _ h1)⟩,fun D hD=>DY (K:=K) (a:=l1) (xs:=as.map V.ref) (fun i H2=>aF H1 H2/\∃cs,H2 D=some (.lst (cs.map V.ref))/\cs.length<=i/\Paired (bT a v.kind v.ord H) cs ((v.l.take i).filter fun e=>jK u.l e.k))
    ⟨aF.upd hD,[],ao,cF _,by rw[JR];exact .nil⟩ (fun i H2 _ ⟨e,_⟩=>bN.of (e _ _ (e1 _ _ h1))) ?_ ?_⟩
   .rintro i x H2 hi ⟨e,cs,hb,hbl,hbp⟩
    obtain⟨q,hq,rfl⟩:∃q,as[i]? =some q/\x=V.ref q:=by
     rw[gw] at hi
     cases z:as[i]? with
     |none=>rw[z] at hi;cases hi
     |some y=>rw[z] at hi;exact⟨y,rfl,(dJ hi).symm⟩
    obtain⟨en,hen,Yl⟩:=cD p1 hq
    obtain⟨kx,vx,px,⟨dx,o1⟩,o2,_⟩:=id Yl
    unfold sO at o2
    rw[if_neg (by omega)] at o2
    have o2':H2 kx=some (.tup ((ks en.k).map kV)):=by rw[Sd];exact e _ _ (e1 _ _ o2)
    have hil:=(gn.mp hen).1
    have ta:(v.l.take (i+1)).filter (fun e=>jK u.l e.k)=(v.l.take i).filter (fun e=>jK u.l e.k)++if jK u.l en.k=true then[en] else[]:=by
     rw[mY,hen,Uo]
     congr 1
     cases z:jK u.l en.k<;>simp[z]
    refine⟨rfl,_,rfl,q,_,dx,_,_,rfl,e _ _ (e1 _ _ o1),T.bO.cl,T.dG,eY,_,rfl,d,_,rfl,zJ.t (e _ _ hkv) o2',_,rfl,?_⟩
    rw[hall en.k]
    cases z:jK u.l en.k with
    |false=>
     refine lG ⟨e,cs,hb,by omega,?_⟩
     rw[ta,z]
     simpa using hbp
    |true=>
     refine j4 ⟨_,rfl,_,hb,fX (by rw[aW];omega),fun b u y=>?_,cs++[q],?_,by simp;omega,?_⟩
     .rw[aD (aJ y hD)];exact e b u y
     .rw[ao,fP];rfl
     .rw[ta,z]
      exact Paired.snoc hbp Yl
   .rintro H2 ⟨e,cs,hb,_,hbp⟩
    rw[aW,pl,lC] at hbp
    have vJ:=e1.trans e
    have ej:jL v u how=v.l.filter fun e=>jK u.l e.k:=by rw[ch];rfl
    refine k H2 D (cQ.of vJ) (Tt.same vJ) ⟨cs,hb,?_⟩ ?_
    .rw[ej];exact Paired.iM hbp fun _ _ z=>z.same vJ
    .rw[ej]
     have:=List.length_filter_le (fun e=>jK u.l e.k) v.l
     omega
  .refine⟨_,rfl,_,rfl,l1,d,v.kind,v.ord,v.l,u.l,rfl,by omega,hL1.same e1,hkd,hn1,fun H2 q e2 hq=>?_⟩
   have vJ:=e1.trans e2
   have al:=Qx v.l u.l
   refine⟨_,rfl,rfl,_,rfl,Iu (fun c2=>?_) (fun c2=>?_)⟩
   .have ch:how=2:=by omega
    have ej:jL v u how=alone v.l u.l:=by rw[ch];rfl
    refine⟨_,rfl,k H2 q (cQ.of vJ) (Tt.same vJ) ?_ ?_⟩
    .rw[ej];exact hq
    .rw[ej];omega
   .obtain⟨qs,hq1,hq2⟩:=id hq
    have ql:=gC hq2
    refine⟨_,rfl,rfl,_,rfl,Iu (fun c3=>?_) (fun c3=>?_)⟩
    .have ch:how=0:=by omega
     refine⟨_,rfl,_,rfl,q,l2,_,_,rfl,rfl,hq1,vJ _ _ h2,cT (by rw[aW,aW];omega),fun g hg=>?_⟩
     rw[<-fP]
     have e3:=vJ.trans (aF.upd (o:= .lst ((qs++bs).map V.ref)) hg)
     refine⟨g,v.kind,v.ord,alone v.l u.l++u.l,rfl,by omega,⟨qs++bs,ao,Paired.append (Paired.iM hq2 fun _ _ z=>z.same (aF.upd hg)) (Paired.iM p2 fun _ _ z=>z.same e3)⟩,fun e he=>?_,by rw[dN];omega,Tt.same e3,fun H4 q4 out s4 T4 ZR hpm hso hro=>?_⟩
     .rcases j9.mp he with z|z
      .exact Vk.ents e (yU.mp z).1
      .exact hum e z
     .have Uup:rising v.ord u.l:=by rw[hoo];exact Uk.up (by omega)
      have eo:=J_ Vk.ord Vk.bR Uk.bR (Vk.up hk) Uup hso hro
      have ej:jL v u how=out:=by
       rw[ch,eo]
       show(if v.kind=3 then v.l++u.l else if v.kind=2 then _ else Coll.puts v.ord v.l u.l)=_
       rw[if_neg (by omega),if_neg (by omega)]
      refine k H4 q4 ((cQ.of e3).trans s4) T4 (by rw[ej];exact ZR) ?_
      rw[ej,hpm.length_eq,dN];omega
    .have ch:how=3:=by omega
     refine⟨_,rfl,_,rfl,_,rfl,l1,v.kind,v.ord,v.l,rfl,by omega,hL1.same vJ,hn1,fun H3 d3 e3 aop=>?_⟩
     have Lf:=vJ.trans e3
     refine⟨l2,d3,v.kind,v.ord,u.l,v.l,rfl,by omega,hL2.same Lf,aop,hn2,fun H4 q4 e4 hq4=>?_⟩
     obtain⟨rs,aot,hr2'⟩:=id hq4
     have rl:=gC hr2'
     have UJ:=Lf.trans e4
     have al2:=Qx u.l v.l
     refine⟨q,q4,_,_,rfl,rfl,e4 _ _ (e3 _ _ hq1),aot,cT (by rw[aW,aW];omega),fun g hg=>?_⟩
     rw[<-fP]
     have e5:=UJ.trans (aF.upd (o:= .lst ((qs++rs).map V.ref)) hg)
     refine⟨g,v.kind,v.ord,alone v.l u.l++alone u.l v.l,rfl,by omega,⟨qs++rs,ao,Paired.append (Paired.iM hq2 fun _ _ z=>z.same ((e3.trans e4).trans (aF.upd hg))) (Paired.iM hr2' fun _ _ z=>z.same (aF.upd hg))⟩,fun e he=>?_,by rw[dN];omega,Tt.same e5,fun H6 q6 out s6 T6 hl6 hpm hso hro=>?_⟩
     .rcases j9.mp he with z|z
      .exact Vk.ents e (yU.mp z).1
      .exact hum e (yU.mp z).1
     .have Uup:rising v.ord u.l:=by rw[hoo];exact Uk.up (by omega)
      have eo:=J_ Vk.ord (Ca Vk.bR) (Ca Uk.bR) (z7 (Vk.up hk)) (z7 Uup) hso (fun c=>by rw[Uq];exact hro c)
      have ej:jL v u how=out:=by rw[ch,eo];rfl
      refine k H6 q6 ((cQ.of e5).trans s6) T6 (by rw[ej];exact hl6) ?_
      rw[ej,hpm.length_eq,dN];omega
inductive aaJ(a:Ad)(tb:Tb)(ok:bC->bC->Nat->Prop)(n:Bool)(vs:List V)(H:Hp)(Q:VK)(E:XK):Prop
 |mk (sh d x y:Addr) (s:bu) (v u:bC) (how:Nat) (lq:vs=(if n=true then[.ref sh,.ref x,.ref y,.int how] else[.ref sh,.ref x,.ref y])) (hh1:ok v u how) (nY:v.kind=u.kind) (hh3:v.ord=u.ord) (wO:how<=3) (Eo:cH a H sh d s) (Ph:gZ a H x v) (ZM:gZ a H y u) (hh8:g_ v) (hh9:g_ u) (ZL:v.l.length<=1000000) (ady:u.l.length<=1000000) (aon:TabsOk tb H) (ao':zQ a tb sh d s {v with l:=jL v u how} H Q E)
def YS(a:Ad)(tb:Tb)(ok:bC->bC->Nat->Prop)(n:Bool):Sp:=fun vs H Q E=>aaJ a tb ok n vs H Q E
theorem zU(T:Txt K mg a)(L:yS K mg base a tb):cN w K mg base 6 a.f9 ["shelf","first","second","how"] (YS a tb (fun v _ _=>v.kind<=1) true):=by
 obtain⟨fd,F⟩:=T.jq.fn
 obtain⟨f1,G1,b1,k1⟩:=HR (w:=w) T L
 obtain⟨f2,G2,b2,k2⟩:=zV (w:=w) (base:=base) T
 obtain⟨f3,G3,b3,k3⟩:=iw (w:=w) (base:=base) T
 obtain⟨f4,G4,b4,_⟩:=p_ (w:=w) (base:=base) T
 refine⟨fd,F.ok1 rD (fun vs H Q E h=>?_) (fun cdv A outer s H vs Q E hr h=>?_),F.binds (by walk_at "b4"),F.kp⟩
 .obtain⟨sh,d,x,y,st,v,u,how,rfl,_⟩:=h
  rfl
 .obtain⟨sh,d,x,y,st,v,u,how,rfl,hk,hkk,hoo,ZP,S,hv,hu,Vk,Uk,hn1,hn2,Tt,kE,kQ⟩:=h
  have hr1:cI 1 _:=hr.mono (by decide)
  have hr2:cI 2 _:=hr.mono (by decide)
  have nd:=rD.nd
  obtain⟨l,as,⟨dx,h1⟩,hl,hp⟩:=id hv
  obtain⟨m,bs,⟨dy,g1⟩,hm,hq⟩:=id hu
  refine⟨_,ak (aK (i:=4) nd rfl (Or.inl rfl) (aA G1 hr rfl T.oU.glob k1 b1 .nil bG (aj (aG (pv 1) rfl) (aj (aG (pv 2) rfl) (aj (pv 3) aq)))))
   (au (aL (aA G3 hr2 rfl T.d_.glob k3 b3 .nil cA (aj (pv 0) (aj (j5 T.aC.Vj G4 hr2 rfl T.aC.glob b4 .nil bG (aj (aG (pv 1) rfl) (aj (aG (pv 1) rfl) (aj (pv 4) (aj (cB dj aB (aA G2 hr1 rfl T.oX.glob k2 b2 .nil bG (aj (pv 4) aq))) aq))))) aq))))),?_⟩
  refine⟨_,rfl,x,_,dx,_,_,rfl,h1,T.aC.cl,T.aP,aV,_,rfl,y,_,dy,_,_,rfl,g1,T.aC.cl,T.aP,aV,_,rfl,l,m,v,u,how,rfl,hk,hkk,hoo,ZP,⟨as,hl,hp⟩,?_,Vk,Uk,hn1,hn2,Tt,fun H1 q s1 T1 hq1 hln=>?_⟩
  .rw[hkk,hoo];exact⟨bs,hm,hq⟩
  .refine⟨_,rfl,_,rfl,x,_,dx,_,_,rfl,s1 _ _ h1 trivial,T.aC.cl,T.bH,bQ,_,rfl,x,_,dx,_,_,rfl,s1 _ _ h1 trivial,T.aC.cl,T.bB,bM,_,rfl,_,rfl,q,v.kind,v.ord,jL v u how,rfl,hq1,hln,fun H2 e2=>⟨_,_,rfl,rfl,?_⟩⟩
   refine fun z dz n1 n2 n3=>made n1 n2 rfl trivial fun H7 e7 ob=>⟨rfl,?_⟩
   obtain⟨js,hj1,hj2⟩:=hq1.same (e2.trans e7)
   have e17:=e2.trans e7
   have sT:=s1.trans (cQ.of e17)
   have er:(1:Int)+(cW v.kind (jL v u how):Int)=(bY {v with l:=jL v u how}:Int):=by
    rw[lM]
    show _=((1+cW v.kind (jL v u how):Nat):Int)
    omega
   refine⟨sh,d,z,st,{v with l:=jL v u how},rfl,S.t sT,⟨q,js,by rw[<-er];exact ob,hj1,hj2⟩,fun full=>kE full H7 ⟨jz.of sT,S.t sT,T1.same e17⟩,fun nf H8 s8 S8=>kQ nf H8 ⟨(jz.of sT).trans (jz.ofS s8),S8,(T1.same e17).Dj (S.t sT) s8⟩⟩
theorem Cy(T:Txt K mg a):cN w K mg base 3 a.iI ["shelf","first","second"] (YS a tb (fun v _ how=>2<=v.kind/\how=0) false):=by
 obtain⟨fd,F⟩:=T.j7.fn
 obtain⟨f1,G1,b1,k1⟩:=Jl (w:=w) (base:=base) T
 obtain⟨f2,G2,b2,k2⟩:=qX (w:=w) (base:=base) T
 obtain⟨f3,G3,b3,k3⟩:=iw (w:=w) (base:=base) T
 obtain⟨f4,G4,b4,_⟩:=p_ (w:=w) (base:=base) T
 refine⟨fd,F.ok1 uz (fun vs H Q E h=>?_) (fun cdv A outer s H vs Q E hr h=>?_),F.binds (by walk_at "b3"),F.kp⟩
 .obtain⟨sh,d,x,y,st,v,u,how,rfl,_⟩:=h
  rfl
 .obtain⟨sh,d,x,y,st,v,u,how,rfl,⟨hk,h0⟩,hkk,hoo,ZP,S,hv,hu,Vk,Uk,hn1,hn2,Tt,kE,kQ⟩:=h
  subst h0
  have hr1:cI 1 _:=hr.mono (by decide)
  have nd:=uz.nd
  obtain⟨l,as,⟨dx,h1⟩,hl,hp⟩:=id hv
  obtain⟨m,bs,⟨dy,g1⟩,hm,hq⟩:=id hu
  have pl:=gC hp
  have pl2:=gC hq
  refine⟨_,ak (aK (i:=3) nd rfl (Or.inl rfl) (cB Jo (cB dj (aG (pv 1) rfl) (aG (pv 2) rfl)) aB))
   (ak (cZ (aA G2 hr1 rfl T.jV.glob k2 b2 .nil cA (aj (pv 0) (aj (pv 3) aq))))
   (ak (cJ (aX jf (aG (pv 1) rfl) (a_ T.qR) (bx _)) (au (aK (i:=4) nd rfl (Or.inl rfl) (aA G1 hr rfl T.pR.glob k1 b1 .nil bG (aj (aG (pv 1) rfl) (aj (aG (pv 2) rfl) aq))))) (au (aK (i:=4) nd rfl (Or.inl rfl) (cB n_ (aG (pv 1) rfl) (aG (pv 2) rfl)))))
   (au (aL (aA G3 hr rfl T.d_.glob k3 b3 .nil cA (aj (pv 0) (aj (j5 T.aC.Vj G4 hr rfl T.aC.glob b4 .nil bG (aj (aG (pv 1) rfl) (aj (aG (pv 1) rfl) (aj (pv 4) (aj (pv 3) aq))))) aq))))))),?_⟩
  have er:(bY v:Int)+(bY u:Int)-1=(bY {v with l:=jL v u 0}:Int):=by
   rw[lM,lM,lM,<-hkk]
   show _=((1+cW v.kind (if v.kind=3 then v.l++u.l else if v.kind=2 then jH v.ord v.l u.l else Coll.puts v.ord v.l u.l):Nat):Int)
   by_cases h3:v.kind=3
   .rw[if_pos h3,rA];omega
   .rw[if_neg h3,if_pos (by have:=Vk.kind;omega),Ih];omega
  refine⟨_,rfl,x,_,dx,_,_,rfl,h1,T.aC.cl,T.dh,gG,_,rfl,y,_,dy,_,_,rfl,g1,T.aC.cl,T.dh,gG,_,_,rfl,rfl,_,_,rfl,rfl,?_⟩
  refine⟨_,rfl,_,rfl,sh,d,st,_,rfl,S,fun full=>kE (er▸full) H ⟨jz.of cQ.refl,S,Tt⟩,fun nf=>?_⟩
  have nf':¬isFull st (bY {v with l:=jL v u 0}):=fun z=>nf (er▸z)
  have last:∀(H1:Hp) (q:Addr) (js:List Addr),aF H H1->H1 q=some (.lst (js.map V.ref))->Paired (bT a v.kind v.ord H1) js (jL v u 0)->∀z dz,H1 z=none->H1 dz=none->
    Ao a.fC 4 (fun _=>True) QW (.ref z::([V.int v.kind,V.int v.ord,V.ref q,V.int ((bY v:Int)+(bY u:Int)-1)]++[])) (L2.upd (L2.upd H1 dz (.own z)) z (.ins a.fC dz [])) (fun r H2=>r= .non/\acn a [.ref sh,.ref z] H2 Q E) E0:=fun H1 q js e1 hq1 hp1 z dz n1 n2=>
   made n1 n2 rfl trivial fun H7 e7 ob=>⟨rfl,by
    have RX:=e1.trans e7
    exact⟨sh,d,z,st,{v with l:=jL v u 0},rfl,S.same RX,⟨q,js,by rw[<-er];exact ob,e7 _ _ hq1,Paired.iM hp1 fun _ _ y=>y.same e7⟩,fun full=>absurd full nf',fun nf H8 s8 S8=>kQ nf H8 ⟨(jz.of (cQ.of RX)).trans (jz.ofS s8),S8,(Tt.same RX).Dj (S.same RX) s8⟩⟩⟩
  refine⟨_,rfl,x,_,dx,_,_,rfl,h1,T.aC.cl,T.bH,bQ,rfl,_,rfl,Iu (fun c=>?_) (fun c=>?_)⟩
  .have ck:v.kind=2:=by omega
   have ej:jL v u 0=jH v.ord v.l u.l:=by
    show(if v.kind=3 then v.l++u.l else if v.kind=2 then jH v.ord v.l u.l else Coll.puts v.ord v.l u.l)=_
    rw[if_neg (by omega),if_pos ck]
   refine⟨_,rfl,x,_,dx,_,_,rfl,h1,T.aC.cl,T.aP,aV,_,rfl,y,_,dy,_,_,rfl,g1,T.aC.cl,T.aP,aV,l,m,v.kind,v.ord,v.l,u.l,rfl,by omega,Vk.ord,⟨as,hl,hp⟩,by rw[hkk,hoo];exact⟨bs,hm,hq⟩,Vk.bR,Uk.bR,Vk.weak ck,by rw[hoo];exact Uk.weak (by omega),⟨hn1,hn2⟩,fun H1 q e1 ⟨js,hj1,hj2⟩=>?_⟩
   refine⟨_,rfl,_,rfl,x,_,dx,_,_,rfl,e1 _ _ h1,T.aC.cl,T.bH,bQ,_,rfl,x,_,dx,_,_,rfl,e1 _ _ h1,T.aC.cl,T.bB,bM,_,rfl,_,rfl,fun z dz n1 n2 n3=>?_⟩
   exact last H1 q js e1 hj1 (by rw[ej];exact hj2) z dz n1 n2
  .have ck:v.kind=3:=by have:=Vk.kind;omega
   have ej:jL v u 0=v.l++u.l:=by
    show(if v.kind=3 then v.l++u.l else _)=_
    rw[if_pos ck]
   refine⟨_,rfl,x,_,dx,_,_,rfl,h1,T.aC.cl,T.aP,aV,_,rfl,y,_,dy,_,_,rfl,g1,T.aC.cl,T.aP,aV,l,m,_,_,rfl,rfl,hl,hm,cT (by rw[aW,aW];omega),fun g hg=>?_⟩
   rw[<-fP]
   have e1:=aF.upd (o:= .lst ((as++bs).map V.ref)) hg
   refine⟨_,rfl,_,rfl,x,_,dx,_,_,rfl,e1 _ _ h1,T.aC.cl,T.bH,bQ,_,rfl,x,_,dx,_,_,rfl,e1 _ _ h1,T.aC.cl,T.bB,bM,_,rfl,_,rfl,fun z dz n1 n2 n3=>?_⟩
   refine last _ g (as++bs) e1 ao ?_ z dz n1 n2
   rw[ej]
   refine Paired.append (Paired.iM hp fun _ _ y=>y.same e1) (Paired.iM hq fun _ _ y=>?_)
   rw[hkk,hoo];exact y.same e1
inductive Pa(a:Ad)(tb:Tb)(vs:List V)(H:Hp)(Q:VK)(E:XK):Prop
 |mk (sh d x y:Addr) (s:bu) (v u:bC) (how:Nat) (lq:vs=[.ref sh,.ref x,.ref y,.int how]) (hh1:how<=3) (nY:cH a H sh d s) (hh3:gZ a H x v) (wO:gZ a H y u) (Eo:g_ v) (Ph:g_ u) (ZM:v.l.length<=1000000) (hh8:u.l.length<=1000000) (hh9:TabsOk tb H) (ZL:((v.kind≠u.kind\/v.ord≠u.ord\/(how≠0/\2<=v.kind))->∀H',aF H H'->E (.ref a.j8) none H')) (ady:(¬(v.kind≠u.kind\/v.ord≠u.ord\/(how≠0/\2<=v.kind))->zQ a tb sh d s {v with l:=jL v u how} H Q E))
def TY(a:Ad)(tb:Tb):Sp:=fun vs H Q E=>Pa a tb vs H Q E
theorem zQ.pre{sh d:Addr}{s:bu}{v:bC}{H H1:Hp}{Q:VK}{E:XK}(k:zQ a tb sh d s v H Q E)(e:cQ H H1):zQ a tb sh d s v H1 Q E:=⟨fun z H' y=>k.1 z H' (y.pre e),fun z H' y=>k.2 z H' (y.pre e)⟩
theorem Nm(T:Txt K mg a)(L:yS K mg base a tb):cN w K mg base 7 a.pJ ["shelf","first","second","how"] (TY a tb):=by
 obtain⟨fd,F⟩:=T.tW.fn
 obtain⟨f1,G1,b1,k1⟩:=zU (w:=w) T L
 obtain⟨f2,G2,b2,k2⟩:=Cy (w:=w) (base:=base) (tb:=tb) T
 refine⟨fd,F.ok1 Ou (fun vs H Q E h=>?_) (fun cdv A outer s H vs Q E hr h=>?_),F.binds (by walk_at "b4"),F.kp⟩
 .obtain⟨sh,d,x,y,st,v,u,how,rfl,_⟩:=h
  rfl
 .obtain⟨sh,d,x,y,st,v,u,how,rfl,ZP,S,hv,hu,Vk,Uk,hn1,hn2,Tt,kE,kQ⟩:=h
  have Pk:cI 3 _:=hr.mono (by decide)
  obtain⟨l,as,⟨dx,h1⟩,hl,hp⟩:=id hv
  obtain⟨m,bs,⟨dy,g1⟩,hm,hq⟩:=id hu
  refine⟨_,ak (cJ (PW.pt (Ig (aX HY (aG (pv 1) rfl) (aG (pv 2) rfl) (bx _)) (Fy (aX HY (aG (pv 1) rfl) (aG (pv 2) rfl) (bx _))))) (au (jg T.vK rfl)) bF)
   (ak (cJ (aX zX (aG (pv 1) rfl) (iy (aj (a_ T.qR) (aj (a_ T.Q5) aq))) rfl) (au (aL (aA G1 hr rfl T.jq.glob k1 b1 .nil cA (aj (pv 0) (aj (pv 1) (aj (pv 2) (aj (pv 3) aq))))))) bF)
   (ak (cJ (aX HY (pv 3) (a_ T.tK) (bx _)) (au (jg T.vK rfl)) bF)
   (au (aL (aA G2 Pk rfl T.j7.glob k2 b2 .nil cA (aj (pv 0) (aj (pv 1) (aj (pv 2) aq)))))))),?_⟩
  refine⟨_,rfl,x,_,dx,_,_,rfl,h1,T.aC.cl,T.bH,bQ,_,rfl,y,_,dy,_,_,rfl,g1,T.aC.cl,T.bH,bQ,rfl,_,rfl,R6 (fun c=>?_) (fun c=>?_)⟩
  .exact j4 (kE (.inl (by omega)) H fun _ _ z=>z)
  .have ck:v.kind=u.kind:=by omega
   refine⟨_,rfl,x,_,dx,_,_,rfl,h1,T.aC.cl,T.bB,bM,_,rfl,y,_,dy,_,_,rfl,g1,T.aC.cl,T.bB,bM,rfl,_,rfl,R6 (fun c2=>?_) (fun c2=>?_)⟩
   .exact kE (.inr (.inl (by omega))) H fun _ _ z=>z
   .have co:v.ord=u.ord:=by omega
    refine⟨_,rfl,x,_,dx,_,_,rfl,h1,T.aC.cl,T.bH,bQ,len2,fun t ht=>?_⟩
    have e1:=aF.upd (o:= .tup [V.int 2,V.int 3]) ht
    refine⟨t,_,rfl,.inr (eV.of ao),rfl,zf [2,3],_,rfl,?_⟩
    show if(!inV (.int (v.kind:Int)) ([2,3].map V.int))=true then _ else _
    rw[Cd]
    by_cases e:(v.kind:Int)∈([2,3]:List Int)
    .have k2':2<=v.kind:=by simp at e;omega
     rw[decide_eq_true e]
     refine lG ⟨_,rfl,rfl,_,rfl,R6 (fun c3=>?_) (fun c3=>?_)⟩
     .exact kE (.inr (.inr ⟨by omega,k2'⟩)) _ e1
     .have ch:how=0:=by omega
      refine⟨_,rfl,_,rfl,_,rfl,sh,d,x,y,st,v,u,how,rfl,⟨k2',ch⟩,ck,co,ZP,S.same e1,hv.same e1,hu.same e1,Vk,Uk,hn1,hn2,Tt.same e1,zQ.pre (kQ ?_) (cQ.of e1)⟩
      rintro(z|z|z)
      .exact z ck
      .exact z co
      .exact z.1 ch
    .have k2':v.kind<=1:=by have:=Vk.kind;simp at e;omega
     rw[decide_eq_false e]
     refine j4 ⟨_,rfl,_,rfl,_,rfl,_,rfl,sh,d,x,y,st,v,u,how,rfl,k2',ck,co,ZP,S.same e1,hv.same e1,hu.same e1,Vk,Uk,hn1,hn2,Tt.same e1,zQ.pre (kQ ?_) (cQ.of e1)⟩
     rintro(z|z|z)
     .exact z ck
     .exact z co
     .omega
theorem SJ(T:Txt K mg a)(L:yS K mg base a tb):cN w K mg base 8 a.m8 ["shelf","wholes","rows"] (fun vs H Q E=>∃n m how,uR a tb [n,m,how] [] (.join n m how) vs H Q E):=by
 obtain⟨fd,F⟩:=T.Dt.fn
 obtain⟨f1,G1,b1,k1⟩:=dX (w:=w) (base:=base) T
 obtain⟨f2,G2,b2,k2⟩:=Nm (w:=w) T L
 refine⟨fd,F.ok1 u_ (fun vs H Q E h=>?_) (fun cdv A outer s H vs Q E hr h=>?_),F.binds (by walk_at "b3"),F.kp⟩
 .obtain⟨n,m,how,sh,d,wl,rl,st,rfl,_⟩:=h
  rfl
 .obtain⟨n,m,how,sh,d,wl,rl,st,rfl,A0,out⟩:=h
  have hr1:cI 1 _:=hr.mono (by decide)
  have hn:n<=4294967295:=A0.small n (by simp)
  have hm:m<=4294967295:=A0.small m (by simp)
  refine⟨_,ak (aK (i:=3) u_.nd rfl (Or.inl rfl) (bf aU (pv 1) aB (fun _ _=>rfl)))
   (ak (cJ (aX CJ (pv 3) (a_ T.xX) (bx _)) (au (jg T.oM rfl)) bF)
   (ak (aK (i:=4) u_.nd rfl (Or.inl rfl) (aA G1 hr1 rfl T.cC.glob k1 b1 .nil cA (aj (pv 0) (aj (bf aU (pv 1) aB (fun _ _=>rfl)) aq))))
   (ak (aK (i:=5) u_.nd rfl (Or.inl rfl) (aA G1 hr1 rfl T.cC.glob k1 b1 .nil cA (aj (pv 0) (aj (bf aU (pv 1) aB (fun _ _=>rfl)) aq))))
   (au (aL (bL (aj (a_ T.iu) (aj (aA G2 hr rfl T.tW.glob k2 b2 .nil cA (aj (pv 0) (aj (pv 4) (aj (pv 5) (aj (pv 3) aq))))) aq)))))))),?_⟩
  refine⟨_,rfl,wl,_,2,_,rfl,rfl,bN.of A0.w,rfl,_,rfl,_,_,rfl,rfl,_,rfl,Gy (fun c=>?_) (fun c=>?_)⟩
  .have c':(3:Int)<how:=c
   exact out.no (why:= .range) (fO (by show(_&&decide (how<=3))=false;exact cY (decide_eq_false (by omega)))) (A0.kp fun _ _ z=>z)
  .have c':¬(3:Int)<how:=c
   have hh:how<=3:=by omega
   have st1:bJ st (.join n m how)=st.two n m fun(v u:bC)=>if v.kind≠u.kind\/v.ord≠u.ord\/(how≠0/\2<=v.kind) then uF st .kind else st.make {v with l:=jL v u how}:=by
    unfold bJ
    rw[if_neg (by show ¬(fH [n,m]&&decide (how<=3))=false;rw[tD hn hm,decide_eq_true hh];simp)]
   refine⟨_,rfl,_,rfl,wl,_,0,_,rfl,rfl,bN.of A0.w,rfl,sh,d,st,n,rfl,A0.S,fun z=>out.no (why:= .absent) (by rw[st1];unfold zM;rw[z]) (A0.kp fun _ _ z=>z),fun v y hv hy=>?_⟩
   refine⟨_,rfl,_,rfl,wl,_,1,_,rfl,rfl,bN.of A0.w,rfl,sh,d,st,m,rfl,A0.S,fun z=>out.no (why:= .absent) (by rw[st1];unfold zM;rw[hv,z]) (A0.kp fun _ _ z=>z),fun u z hu hz=>?_⟩
   have st2:bJ st (.join n m how)=if v.kind≠u.kind\/v.ord≠u.ord\/(how≠0/\2<=v.kind) then uF st .kind else st.make {v with l:=jL v u how}:=by
    rw[st1];unfold zM;rw[hv,hu]
   refine⟨_,rfl,_,rfl,_,rfl,_,rfl,sh,d,y,z,st,v,u,how,rfl,hh,A0.S,hy,hz,A0.O.get hv,A0.O.get hu,qz (A0.O.len hv),qz (A0.O.len hu),A0.T,fun bad H' e=>out.no (why:= .kind) (by rw[st2,if_pos bad]) (A0.kp e),fun good=>?_⟩
   have kq:=Nu out (v:={v with l:=jL v u how}) (by rw[st2,if_neg good])
   exact⟨kq.1,fun nf H' kk=>⟨len2,kq.2 nf H' kk⟩⟩
end
theorem adv{K:bw}{a b:Addr}{xs ys:List V}{n:Nat}{g:TG}{tb:TS}{D:Ends}{σ:L2.St}{H:Hp}(hx:xs.length=n)(hy:ys.length=n)(Pv:Nat->L2.St->Hp->Prop)(h0:Pv 0 σ H)(hl:∀i σ H,i<=n->Pv i σ H->bN K H a xs/\bN K H b ys)
  (hs:∀i x y (T:Addr) σ H,xs[i]? =some x->ys[i]? =some y->H T=none->Pv i σ H->g (.ref T) σ (L2.upd H T (.tup [x,y])) fun σ2 H2=>tb {D with nx:=Pv (i+1),ct:=Pv (i+1),bk:=D.nx} σ2 H2)(hd:∀σ H,Pv n σ H->D.nx σ H):
  ∃W:Nat->Nat->L2.St->Hp->Prop,(∃m,W 0 m σ H)/\∀i m σ H,W i m σ H->
   ((Itz K a b).stop i H/\D.nx σ H)\/((Itz K a b).go i H/\∃N:L2.St->Hp->Prop,(∀σ' H',N σ' H'->∃m',m'<m/\W (i+1) m' σ' H')/\∀x H',(Itz K a b).yld i H x H'->g x σ H' fun σ2 H2=>tb {D with nx:=N,ct:=N,bk:=D.nx} σ2 H2):=by
 refine⟨fun i m σ H=>m=n-i/\i<=n/\Pv i σ H,⟨n,by simp,j_ _,h0⟩,?_⟩
 rintro i m σ H ⟨rfl,hi,p⟩
 obtain⟨q1,q2⟩:=hl i σ H hi p
 by_cases hlt:i<n
 .have h1:i<xs.length:=by omega
  have h2:i<ys.length:=by omega
  refine .inr ⟨⟨xs,ys,xs[i],ys[i],q1,q2,by simp[h1],by simp[h2]⟩,Pv (i+1),fun σ' H' p'=>⟨n-(i+1),by omega,rfl,hlt,p'⟩,fun x H' y=>?_⟩
  obtain⟨T,x1,y1,e,hT,eH,y1',y2'⟩:=y
  subst e eH
  exact hs i x1 y1 T σ H (y1' xs q1) (y2' ys q2) hT p
 .have e:i=n:=by omega
  subst e
  exact .inl ⟨⟨xs,ys,q1,q2,.inl (by omega)⟩,hd σ H p⟩
theorem Xx{X:Cx}(hu:X.A.units+64<cLine):Gw X (compareOp .NotEq) (fun x y H Q=>∃(p q:Addr) (ns ms:List Int),x= .ref p/\y= .ref q/\eV X.K H p (ns.map V.int)/\eV X.K H q (ms.map V.int)/\Q (.bl (!decide (ns=ms))) H):=by
 have b:=afl (X:=X) hu
 intro pins s σ H x y v u Q I rx ry h
 obtain⟨p,q,ns,ms,e1,e2,h1,h2,k⟩:=h
 subst e1 e2
 refine b pins s σ H _ _ v u Q I rx ry ⟨.tuple (ns.map PyData.int),.tuple (ms.map PyData.int),.tup h1 (Mq ns),.tup h2 (Mq ms),Am ns,Am ms,?_⟩
 rw[PyData.eqv,R0];exact k
theorem KQ(f:aN->aQ):∀l:List aN,jA (l.map f)=l.flatMap fun e=>aZ (f e)
 |[]=>by rw[GK,jA];rfl
 |e::r=>by rw[cU,jA,KQ f r,Qu]
mutual
theorem Hz:∀v:aQ,(aZ v).length<=2*iK v
 | .truth b=>by rw[aZ,iK];simp
 | .num n d=>by
  rw[aZ,iK]
  have p1:1<=JT n.natAbs:=by
   unfold JT
   exact Nat.length_toDigits_pos
  have p2:1<=JT d:=by
   unfold JT
   exact Nat.length_toDigits_pos
  simp;omega
 | .text t=>by
  rw[aZ,iK]
  unfold CollNeutral.bytesN CollNeutral.rowN
  simp;omega
 | .list l=>by
  rw[aZ,iK]
  have:=Ra l
  simp;omega
theorem Ra:∀l:List aQ,(jA l).length<=2*Coll.sizes l
 |[]=>by rw[jA];simp
 |v::r=>by
  rw[jA,Coll.sizes]
  have h1:=Hz v
  have h2:=Ra r
  simp;omega
end
theorem Z2(kind:Nat)(e:aN):(aZ (qD kind e)).length<=2*vZ kind e:=by
 have h1:=Hz e.k
 have h2:=Hz e.x
 unfold qD vZ
 split
 .rw[aZ,jA,jA,jA];simp;omega
 .omega
theorem MN(kind:Nat):∀l:List aN,(l.flatMap fun e=>aZ (qD kind e)).length<=2*cW kind l
 |[]=>by simp
 |e::r=>by
  have h1:=Z2 kind e
  have h2:=MN kind r
  rw[Qu,dN]
  unfold cW at h2 ⊢
  rw[cU,qH]
  omega
theorem QT(v:bC):aZ (Coll.formOf v)=[3,3,1,(v.kind:Int),1,1,(v.ord:Int),1,3,(v.l.length:Int)]++v.l.flatMap fun e=>aZ (qD v.kind e):=by
 unfold Coll.formOf
 rw[aZ,jA,jA,jA,jA,aZ,aZ,aZ,KQ]
 simp
section
variable{w:World}{K:bw}{mg:Str->Option Value}{base:Heap}{a:Ad}{tb:Tb}
inductive acM(a:Ad)(vs:List V)(H:Hp)(Q:VK):Prop
 |mk (x:Addr) (v:bC) (lq:vs=[.ref x]) (hh1:gZ a H x v) (nY:g_ v) (hh3:bY v<=1000000) (wO:∀(H':Hp) (l:Addr),aF H H'->H l=none->H' l=some (.lst ((aZ (Coll.formOf v)).map V.int))->Q (.ref l) H')
def afC(a:Ad):Sp:=fun vs H Q _=>acM a vs H Q
theorem K4(T:Txt K mg a):cN w K mg base 2 a.nM ["version"] (afC a):=by
 obtain⟨fd,F⟩:=T.rH.fn
 obtain⟨f1,G1,b1,k1⟩:=zq (w:=w) (base:=base) T
 refine⟨fd,F.ok1 Be (fun vs H Q E h=>?_) (fun cdv A outer s H vs Q E hr h=>?_),F.binds (by walk_at "b1"),F.kp⟩
 .obtain⟨x,v,rfl,_⟩:=h
  rfl
 .obtain⟨x,v,rfl,hv,Vk,hroom,k⟩:=h
  have nd:=Be.nd
  obtain⟨l,as,⟨dx,h1⟩,hl,hp⟩:=id hv
  have pl:=gC hp
  refine⟨_,ak (aK (i:=1) nd rfl (Or.inl rfl) (bL (aj (a_ T.vU) (aj aB (aj (a_ T.nZ) (aj (aG (pv 0) rfl) (aj aB (aj (a_ T.nZ) (aj (aG (pv 0) rfl) (aj aB (aj (a_ T.vU) (aj (bZ bI rfl T.iR jC (aj (aG (pv 0) rfl) aq)) aq))))))))))))
   (ak (qZ own1 rfl (iQ (aG (pv 0) rfl)) (gH (i:=2) nd rfl (Or.inl rfl))
    (au (cZ (pM jJ Bu Bv qx (pv 1) (aj (aA G1 hr rfl T.mz.glob k1 b1 .nil bG (aj (pv 0) (aj (pv 2) aq))) aq)))))
   (au (aL (pv 1)))),?_⟩
  refine⟨_,rfl,x,_,dx,_,_,rfl,h1,T.aC.cl,T.bH,bQ,_,rfl,x,_,dx,_,_,rfl,h1,T.aC.cl,T.bB,bM,_,rfl,x,_,dx,_,_,rfl,h1,T.aC.cl,T.aP,aV,l,_,rfl,.inl (bN.of hl),cT (by simp),fun lt hlt=>?_⟩
  have e1:aF H _:=aF.upd hlt (o:= .lst [V.int 3,V.int 3,V.int 1,V.int v.kind,V.int 1,V.int 1,V.int v.ord,V.int 1,V.int 3,V.int ((as.map V.ref).length:Nat)])
  have nlt:∀{b:Addr} {u:HO},H b=some u->b≠lt:=fun hb=>aJ hb hlt
  have fl:=MN v.kind v.l
  have rm:=lM v
  refine⟨_,rfl,x,_,dx,_,_,rfl,e1 _ _ h1,T.aC.cl,T.aP,aV,l,rfl,⟨_,bN.of (e1 _ _ hl)⟩,kZ (K:=K) (a:=l) (xs:=as.map V.ref) (fun i σ H'=>∃v2:Option V,σ=[some (.ref x),some (.ref lt),v2]/\aF H H'/\H' lt=some (.lst (([3,3,1,(v.kind:Int),1,1,(v.ord:Int),1,3,(v.l.length:Int)]++(v.l.take i).flatMap fun e=>aZ (qD v.kind e)).map V.int)))
   ⟨none,rfl,e1,?_⟩ (fun i σ H' _ ⟨_,_,e,_⟩=>bN.of (e _ _ hl)) ?_ ?_⟩
  .rw[ao,aW,pl];simp
  .rintro i z σ H' hi ⟨v2,rfl,e2,hlt2⟩
   obtain⟨q,hq,rfl⟩:∃q,as[i]? =some q/\z=V.ref q:=by
    rw[gw] at hi
    cases e:as[i]? with
    |none=>rw[e] at hi;cases hi
    |some z=>rw[e] at hi;exact⟨z,rfl,(dJ hi).symm⟩
   obtain⟨e,he,hAt⟩:=cD hp hq
   have pl2:=Ny (fun e=>aZ (qD v.kind e)) he
   refine⟨_,rfl,.inl ⟨rfl,_,bN.of hlt2⟩,_,rfl,_,rfl,x,q,v,e,rfl,hv.same e2,hAt.same e2,Vk.ents e (fZ he),Vk.kind,fun H2 l2 e3 hn2 hl2=>?_⟩
   refine⟨lt,l2,_,_,rfl,rfl,e3 _ _ hlt2,hl2,cT (by rw[aW,aW,dN];simp only[pD,BJ];omega),?_⟩
   refine⟨some (.ref q),rfl,fun b u z=>?_,?_⟩
   .rw[aD (nlt z)];exact e3 _ _ (e2 _ _ z)
   .rw[ao,pl2.2,<-fP,ud]
  .rintro σ H' ⟨v2,rfl,e2,hlt2⟩
   rw[aW,pl,lC,<-QT] at hlt2
   exact⟨_,rfl,k H' lt e2 hlt hlt2⟩
theorem Sy(T:Txt K mg a):cN w K mg base 3 a.m7 ["shelf","wholes","rows"] (fun vs H Q E=>∃n,uR a tb [n] [] (.form n) vs H Q E):=by
 obtain⟨fd,F⟩:=T.Ds.fn
 obtain⟨f1,G1,b1,k1⟩:=dX (w:=w) (base:=base) T
 obtain⟨f2,G2,b2,k2⟩:=K4 (w:=w) (base:=base) T
 refine⟨fd,F.ok1 Tw (fun vs H Q E h=>?_) (fun cdv A outer s H vs Q E hr h=>?_),F.binds (by walk_at "b3"),F.kp⟩
 .obtain⟨n,sh,d,wl,rl,st,rfl,_⟩:=h
  rfl
 .obtain⟨n,sh,d,wl,rl,st,rfl,A0,out⟩:=h
  have hr1:cI 1 _:=hr.mono (by decide)
  have hn:n<=4294967295:=A0.small n (by simp)
  have st1:bJ st (.form n)=st.ask n Coll.any fun(v:bC)=> .value (Coll.formOf v):=by
   unfold bJ
   rw[if_neg (by show ¬fH [n]=false;rw[small_one hn];simp)]
  refine⟨_,au (aL (cB n_ (bL (aj (a_ T.iu) aq)) (aA G2 hr rfl T.rH.glob k2 b2 .nil bG (aj (aA G1 hr1 rfl T.cC.glob k1 b1 .nil cA (aj (pv 0) (aj (bf aU (pv 1) aB (fun _ _=>rfl)) aq))) aq)))),?_⟩
  refine⟨len1,fun g hg=>?_⟩
  have e1:=aF.upd (o:= .lst [V.int 0]) hg
  have A1:=A0.same e1
  refine⟨_,rfl,_,rfl,wl,_,0,_,rfl,rfl,bN.of A1.w,rfl,sh,d,st,n,rfl,A1.S,fun z=>out.no (why:= .absent) (by rw[st1,yV z]) (A0.kp e1),fun v y hv hy=>?_⟩
  have rv:=A0.O.YJ hv
  have rs:=A0.O.room
  have Vk:=A0.O.get hv
  refine⟨y,v,rfl,hy,Vk,by omega,fun H2 l2 e2 hn2 hl2=>?_⟩
  have fl:=MN v.kind v.l
  have rm:=lM v
  refine⟨g,l2,_,_,rfl,rfl,e2 _ _ ao,hl2,cT ?_,fun g3 hg3=>?_⟩
  .rw[aW,QT,dN];simp only[pD,BJ];omega
  .refine out.yes (ans:= .value (Coll.formOf v)) (by rw[st1,uf hv rfl]) (fun _ y=>by cases y) (A0.kp ((e1.trans e2).trans (aF.upd hg3))) ?_
   rw[ao];rfl
theorem aah{e f:aN}:Coll.sameE e f=true↔e.k=f.k/\e.x=f.x:=by
 unfold Coll.sameE
 rw[lB,same_iff,same_iff]
theorem aai{kind:Nat}{e f:aN}(he:xr kind e)(hf:xr kind f)(hk:kind<=3):(valN kind e=valN kind f/\sO kind e=sO kind f)↔Coll.sameE e f=true:=by
 rw[aah]
 unfold valN sO
 by_cases h1:kind=1
 .rw[if_pos h1,if_pos h1,if_neg (by omega),if_neg (by omega),lQ]
  constructor
  .rintro⟨_,z⟩
   exact⟨z,by rw[he.2.2 (.inl h1),hf.2.2 (.inl h1),z]⟩
  .rintro⟨z,_⟩
   exact⟨rfl,z⟩
 .rw[if_neg h1,if_neg h1,lQ]
  by_cases h3:kind=3
  .rw[if_pos h3,if_pos h3]
   constructor
   .rintro⟨z,_⟩
    refine⟨?_,z⟩
    rw[<-he.2.2 (.inr h3),<-hf.2.2 (.inr h3),z]
   .rintro⟨_,z⟩
    exact⟨z,rfl⟩
  .rw[if_neg h3,if_neg h3,lQ]
   exact⟨fun⟨x,y⟩=>⟨y,x⟩,fun⟨x,y⟩=>⟨y,x⟩⟩
def Od(es fs:List aN):Bool:=decide (es.length=fs.length)&&(es.zip fs).all fun x=>Coll.sameE x.1 x.2
inductive aaP(a:Ad)(vs:List V)(H:Hp)(Q:VK):Prop
 |mk (l1 l2:Addr) (kind ord:Nat) (es fs:List aN) (lq:vs=[.ref l1,.ref l2]) (hh1:kind<=3) (nY:gK a kind ord H l1 es) (hh3:gK a kind ord H l2 fs) (wO:(∀e∈es,xr kind e)) (Eo:(∀e∈fs,xr kind e)) (Ph:∀H',aF H H'->Q (.bl (Od es fs)) H')
def ad1(a:Ad):Sp:=fun vs H Q _=>aaP a vs H Q
theorem S6(T:Txt K mg a):cN w K mg base 1 a.iH ["first","second"] (ad1 a):=by
 obtain⟨fd,F⟩:=T.j6.fn
 refine⟨fd,F.ok1 uy (fun vs H Q E h=>?_) (fun cdv A outer s H vs Q E hr h=>?_),F.binds (by walk_at "b2"),F.kp⟩
 .obtain⟨l1,l2,kind,ord,es,fs,rfl,_⟩:=h
  rfl
 .obtain⟨l1,l2,kind,ord,es,fs,rfl,hk3,⟨as,h1,p1⟩,⟨bs,h2,p2⟩,oe,of_,k⟩:=h
  have nd:=uy.nd
  have q1:=gC p1
  have q2:=gC p2
  refine⟨_,ak (cJ (aX HY (bZ bI rfl T.iR jC (aj (pv 0) aq)) (bZ bI rfl T.iR jC (aj (pv 1) aq)) (bx _)) (au (aL NB)) bF)
   (ak (qZ own1 rfl (afp rfl T.aa1 (aj (pv 0) (aj (pv 1) aq))) (afo rfl (VG (gH (i:=2) nd rfl (Or.inl rfl)) (VG (gH (i:=3) nd rfl (Or.inl rfl)) adL)))
    (au (cJ (PW.pt (Ig (aX (Xx hr.units) (aG (pv 2) rfl) (aG (pv 3) rfl) (bx _)) (Fy (aX (Xx hr.units) (aG (pv 2) rfl) (aG (pv 3) rfl) (bx _))))) (au (aL NB)) bF)))
   (au (aL NB))),?_⟩
  refine⟨_,rfl,l1,_,rfl,.inl (bN.of h1),_,rfl,l2,_,rfl,.inl (bN.of h2),rfl,_,rfl,R6 (fun c=>?_) (fun c=>?_)⟩
  .rw[aW,aW,q1,q2] at c
   have e:Od es fs=false:=by unfold Od;rw[decide_eq_false (by omega)];rfl
   have q:=k H (fun _ _ z=>z)
   rw[e] at q;exact q
  .rw[aW,aW,q1,q2] at c
   have c':es.length=fs.length:=by omega
   have e0:Od es fs=(es.zip fs).all fun x=>Coll.sameE x.1 x.2:=by unfold Od;rw[decide_eq_true c'];rfl
   refine⟨_,rfl,_,rfl,l1,l2,_,_,rfl,bN.of h1,bN.of h2,adv (n:=es.length) (by rw[aW,q1]) (by rw[aW,q2,c']) (fun i σ H'=>∃v2 v3:Option V,σ=[some (.ref l1),some (.ref l2),v2,v3]/\aF H H'/\((es.zip fs).take i).all (fun x=>Coll.sameE x.1 x.2)=true)
    ⟨none,none,rfl,fun _ _ z=>z,rfl⟩ (fun i σ H' _ ⟨_,_,_,e,_⟩=>⟨bN.of (e _ _ h1),bN.of (e _ _ h2)⟩) ?_ ?_⟩
   .rintro i x y Tt σ H' hx hy hT ⟨v2,v3,rfl,e2,hall⟩
    obtain⟨p,hp,rfl⟩:∃q,as[i]? =some q/\x=V.ref q:=by
     rw[gw] at hx
     cases e:as[i]? with
     |none=>rw[e] at hx;cases hx
     |some z=>rw[e] at hx;exact⟨z,rfl,(dJ hx).symm⟩
    obtain⟨q,hq,rfl⟩:∃q,bs[i]? =some q/\y=V.ref q:=by
     rw[gw] at hy
     cases e:bs[i]? with
     |none=>rw[e] at hy;cases hy
     |some z=>rw[e] at hy;exact⟨z,rfl,(dJ hy).symm⟩
    obtain⟨e,he,hAt⟩:=cD p1 hp
    obtain⟨f,hf,hBt⟩:=cD p2 hq
    have hz:(es.zip fs)[i]? =some (e,f):=by rw[List.getElem?_zip_eq_some];exact⟨he,hf⟩
    have e3:=e2.trans (aF.upd (o:= .tup [V.ref p,V.ref q]) hT)
    obtain⟨kx,vx,px,⟨dx,o1⟩,o2,o3,_⟩:=hAt.same e3
    obtain⟨ky,vy,py,⟨dy,r1⟩,r2,r3,_⟩:=hBt.same e3
    have sn:=aai (oe e (fZ he)) (of_ f (fZ hf)) hk3
    have bad:Coll.sameE e f=false->Q (.bl false) (L2.upd H' Tt (.tup [V.ref p,V.ref q])):=fun z=>by
     have q:=k _ e3
     rw[e0] at q
     have e4:((es.zip fs).all fun x=>Coll.sameE x.1 x.2)=false:=by
      rw[<-uV,wU]
      intro y
      have:=y (e,f) (fZ hz)
      rw[z] at this;cases this
     rw[e4] at q;exact q
    refine⟨Tt,_,rfl,eV.of ao,rfl,_,_,rfl,_,_,rfl,rfl,?_⟩
    refine⟨_,rfl,p,_,dx,_,_,rfl,o1,T.bO.cl,T.d9,gF,_,rfl,q,_,dy,_,_,rfl,r1,T.bO.cl,T.d9,gF,vx,vy,_,_,rfl,rfl,eV.of o3,eV.of r3,_,rfl,?_⟩
    by_cases d1:valN kind e=valN kind f
    .rw[decide_eq_true d1]
     refine lG ?_
     refine⟨_,rfl,p,_,dx,_,_,rfl,o1,T.bO.cl,T.dG,eY,_,rfl,q,_,dy,_,_,rfl,r1,T.bO.cl,T.dG,eY,kx,ky,_,_,rfl,rfl,eV.of o2,eV.of r2,_,rfl,?_⟩
     by_cases d2:sO kind e=sO kind f
     .rw[decide_eq_true d2]
      refine lG ⟨_,_,rfl,e3,?_⟩
      rw[mY,hz,List.all_append,hall]
      have:=sn.mp ⟨d1,d2⟩
      simp[this]
     .rw[decide_eq_false d2]
      refine j4 (bad ?_)
      rw[<-uV]
      exact fun z=>d2 (sn.mpr z).2
    .rw[decide_eq_false d1]
     refine j4 (j4 (bad ?_))
     rw[<-uV]
     exact fun z=>d1 (sn.mpr z).1
   .rintro σ H' ⟨v2,v3,rfl,e2,hall⟩
    have q:=k H' e2
    have zl:(es.zip fs).length=es.length:=by rw[List.length_zip];omega
    rw[e0] at q
    rw[List.take_of_length_le (by omega)] at hall
    rw[hall] at q
    exact q
def Ij(v u:bC):Bool:=decide (v.kind=u.kind)&&(decide (v.ord=u.ord)&&Od v.l u.l)
inductive acW(a:Ad)(vs:List V)(H:Hp)(Q:VK):Prop
 |mk (x y:Addr) (v u:bC) (lq:vs=[.ref x,.ref y]) (hh1:gZ a H x v) (nY:gZ a H y u) (hh3:g_ v) (wO:g_ u) (Eo:∀H',aF H H'->Q (.bl (Ij v u)) H')
def afK(a:Ad):Sp:=fun vs H Q _=>acW a vs H Q
theorem Vp(T:Txt K mg a):cN w K mg base 2 a.vM ["first","second"] (afK a):=by
 obtain⟨fd,F⟩:=T.Aq.fn
 obtain⟨f1,G1,b1,k1⟩:=S6 (w:=w) (base:=base) T
 refine⟨fd,F.ok1 V0 (fun vs H Q E h=>?_) (fun cdv A outer s H vs Q E hr h=>?_),F.binds (by walk_at "b2"),F.kp⟩
 .obtain⟨x,y,v,u,rfl,_⟩:=h
  rfl
 .obtain⟨x,y,v,u,rfl,hv,hu,Vk,Uk,k⟩:=h
  obtain⟨l,as,⟨dx,h1⟩,hl,hp⟩:=id hv
  obtain⟨m,bs,⟨dy,g1⟩,hm,hq⟩:=id hu
  refine⟨_,ak (cJ (PW.pt (Ig (aX HY (aG (pv 0) rfl) (aG (pv 1) rfl) (bx _)) (Fy (aX HY (aG (pv 0) rfl) (aG (pv 1) rfl) (bx _))))) (au (aL NB)) bF)
   (au (aL (aA G1 hr rfl T.j6.glob k1 b1 .nil bG (aj (aG (pv 0) rfl) (aj (aG (pv 1) rfl) aq))))),?_⟩
  refine⟨_,rfl,x,_,dx,_,_,rfl,h1,T.aC.cl,T.bH,bQ,_,rfl,y,_,dy,_,_,rfl,g1,T.aC.cl,T.bH,bQ,rfl,_,rfl,R6 (fun c=>?_) (fun c=>?_)⟩
  .have q:=k H (fun _ _ z=>z)
   have e:Ij v u=false:=by unfold Ij;rw[decide_eq_false (by omega)];rfl
   rw[e] at q;exact j4 q
  .refine⟨_,rfl,x,_,dx,_,_,rfl,h1,T.aC.cl,T.bB,bM,_,rfl,y,_,dy,_,_,rfl,g1,T.aC.cl,T.bB,bM,rfl,_,rfl,R6 (fun c2=>?_) (fun c2=>?_)⟩
   .have q:=k H (fun _ _ z=>z)
    have e:Ij v u=false:=by unfold Ij;rw[decide_eq_false (show ¬v.ord=u.ord by omega),GF,Bool.and_false]
    rw[e] at q;exact q
   .have ck:v.kind=u.kind:=by omega
    have co:v.ord=u.ord:=by omega
    refine⟨_,rfl,x,_,dx,_,_,rfl,h1,T.aC.cl,T.aP,aV,_,rfl,y,_,dy,_,_,rfl,g1,T.aC.cl,T.aP,aV,l,m,v.kind,v.ord,v.l,u.l,rfl,Vk.kind,⟨as,hl,hp⟩,?_,Vk.ents,?_,fun H' e=>?_⟩
    .rw[ck,co];exact⟨bs,hm,hq⟩
    .rw[ck];exact Uk.ents
    .have q:=k H' e
     unfold Ij at q
     rw[decide_eq_true ck,decide_eq_true co] at q
     exact q
theorem SX(T:Txt K mg a):cN w K mg base 3 a.nj ["shelf","wholes","rows"] (fun vs H Q E=>∃n m,uR a tb [n,m] [] (.same n m) vs H Q E):=by
 obtain⟨fd,F⟩:=T.Dz.fn
 obtain⟨f1,G1,b1,k1⟩:=dX (w:=w) (base:=base) T
 obtain⟨f2,G2,b2,k2⟩:=Vp (w:=w) (base:=base) T
 refine⟨fd,F.ok1 Ak (fun vs H Q E h=>?_) (fun cdv A outer s H vs Q E hr h=>?_),F.binds (by walk_at "b3"),F.kp⟩
 .obtain⟨n,m,sh,d,wl,rl,st,rfl,_⟩:=h
  rfl
 .obtain⟨n,m,sh,d,wl,rl,st,rfl,A0,out⟩:=h
  have hr1:cI 1 _:=hr.mono (by decide)
  have hn:n<=4294967295:=A0.small n (by simp)
  have hm:m<=4294967295:=A0.small m (by simp)
  have st1:bJ st (.same n m)=st.two n m fun(v u:bC)=>(st,.number (if v.kind=u.kind/\v.ord=u.ord/\v.l.length=u.l.length/\((v.l.zip u.l).all fun(x:aN×aN)=>Coll.sameE x.1 x.2)=true then 1 else 0)):=by
   unfold bJ
   rw[if_neg (by show ¬fH [n,m]=false;rw[tD hn hm];simp)]
  refine⟨_,ak (aK (i:=3) Ak.nd rfl (Or.inl rfl) (aA G1 hr1 rfl T.cC.glob k1 b1 .nil cA (aj (pv 0) (aj (bf aU (pv 1) aB (fun _ _=>rfl)) aq))))
   (ak (aK (i:=4) Ak.nd rfl (Or.inl rfl) (aA G1 hr1 rfl T.cC.glob k1 b1 .nil cA (aj (pv 0) (aj (bf aU (pv 1) aB (fun _ _=>rfl)) aq))))
   (au (aL (bL (aj (a_ T.iu) (aj (VD (vY (aA G2 hr rfl T.Aq.glob k2 b2 .nil bG (aj (pv 3) (aj (pv 4) aq)))) aB aB) aq)))))),?_⟩
  refine⟨_,rfl,_,rfl,wl,_,0,_,rfl,rfl,bN.of A0.w,rfl,sh,d,st,n,rfl,A0.S,fun z=>out.no (why:= .absent) (by rw[st1];unfold zM;rw[z]) (A0.kp fun _ _ z=>z),fun v y hv hy=>?_⟩
  refine⟨_,rfl,_,rfl,wl,_,1,_,rfl,rfl,bN.of A0.w,rfl,sh,d,st,m,rfl,A0.S,fun z=>out.no (why:= .absent) (by rw[st1];unfold zM;rw[hv,z]) (A0.kp fun _ _ z=>z),fun u z hu hz=>?_⟩
  refine⟨_,rfl,_,rfl,y,z,v,u,rfl,hy,hz,A0.O.get hv,A0.O.get hu,fun H' e=>⟨_,rfl,?_⟩⟩
  have fin:∀b:Bool,Ij v u=b->bJ st (.same n m)=(st,.number (if b=true then 1 else 0)):=fun b hb=>by
   rw[st1]
   unfold zM
   rw[hv,hu]
   show(st,mX.number _)=_
   congr 2
   subst hb
   unfold Ij Od
   simp only[lB,decide_eq_true_eq]
  cases hb:Ij v u with
  |true=>
   refine j4 ⟨len2,fun p hp=>out.yes (ans:= .number 1) (fin true hb) (fun _ y=>by cases y) (A0.kp (e.trans (aF.upd hp))) ?_⟩
   rw[ao];rfl
  |false=>
   refine lG ⟨len2,fun p hp=>out.yes (ans:= .number 0) (fin false hb) (fun _ y=>by cases y) (A0.kp (e.trans (aF.upd hp))) ?_⟩
   rw[ao];rfl
theorem M9(T:Txt K mg a):cN w K mg base 6 a.jM ["shelf","wholes","rows"] (fun vs H Q E=>∃o x y,uR a tb [o] [x,y] (.before o x y) vs H Q E):=by
 obtain⟨fd,F⟩:=T.yK.fn
 obtain⟨f1,G1,b1,k1⟩:=dZ (w:=w) (base:=base) T
 obtain⟨f2,G2,b2,k2⟩:=Cw (w:=w) (base:=base) T
 obtain⟨f3,G3,b3,k3⟩:=n8 (w:=w) (base:=base) T
 refine⟨fd,F.ok1 Dl (fun vs H Q E h=>?_) (fun cdv A outer s H vs Q E hr h=>?_),F.binds (by walk_at "b3"),F.kp⟩
 .obtain⟨o,x,y,sh,d,wl,rl,st,rfl,_⟩:=h
  rfl
 .obtain⟨o,x,y,sh,d,wl,rl,st,rfl,A0,out⟩:=h
  have hr1:cI 1 _:=hr.mono (by decide)
  have Pn:cI 4 _:=hr.mono (by decide)
  have nd:=Dl.nd
  obtain⟨ras,hrl,hp⟩:=A0.r
  cases hp with
  | @cons r1 _ Tn _ p1 hp=>
  cases hp with
  | @cons r2 _ agJ _ p2 hp=>
  cases hp
  refine⟨_,ak (cZ (aA G2 hr1 rfl T.pO.glob k2 b2 .nil cA (aj (bf aU (pv 1) aB (fun _ _=>rfl)) aq)))
   (ak (aK (i:=3) nd rfl (Or.inl rfl) (aA G3 Pn rfl T.jj.glob k3 b3 .nil bG (aj (aG (aA G1 hr rfl T.cu.glob k1 b1 .nil cA (aj (bf aU (pv 2) aB (fun _ _=>rfl)) aq)) rfl) (aj (bf aU (pv 1) aB (fun _ _=>rfl)) aq))))
   (ak (aK (i:=4) nd rfl (Or.inl rfl) (aA G3 Pn rfl T.jj.glob k3 b3 .nil bG (aj (aG (aA G1 hr rfl T.cu.glob k1 b1 .nil cA (aj (bf aU (pv 2) aB (fun _ _=>rfl)) aq)) rfl) (aj (bf aU (pv 1) aB (fun _ _=>rfl)) aq))))
   (ak (cJ (aX (abT hr.units) (pv 3) (pv 4) (bx _)) (au (aL (bL (aj (a_ T.iu) (aj (a_ T.Ce) aq))))) bF)
   (au (aL (bL (aj (a_ T.iu) (aj (VD (aX (Tc hr.O6) (pv 3) (pv 4) (bx _)) (a_ T.Fp) (a_ T.Fq)) aq)))))))),?_⟩
  refine⟨_,rfl,wl,_,0,_,rfl,rfl,bN.of A0.w,rfl,o,rfl,fun z=>?_,fun ho=>?_⟩
  .exact out.no (why:= .range) (fO (by show(decide (o<=2)&&_)=false;exact eX (decide_eq_false z))) (A0.kp fun _ _ z=>z)
  .refine⟨_,rfl,rl,_,0,_,rfl,rfl,bN.of hrl,rfl,r1,x,rfl,bN.of p1.1,p1.2.1,p1.2.2,fun bad H' e=>?_,fun okx H1 x1 e1 hx1=>?_⟩
   .exact out.no (why:= .range) (fO (by show(_&&(_&&_))=false;exact cY (eX bad))) (A0.kp e)
   .have vx:HJ x:=⟨okx,p1.2⟩
    obtain⟨nx,⟨dx1,hx2⟩,hx3⟩:=hx1
    refine⟨x1,_,dx1,_,_,rfl,hx2,T.d8.cl,T.b_,dg,_,rfl,wl,_,0,_,rfl,rfl,bN.of (e1 _ _ A0.w),rfl,nx,x,o,rfl,.inr (eV.of hx3),vx.2.1,vx.2.2,vx.proper,fun H2 t2 e2 ht2=>?_⟩
    have vJ:=e1.trans e2
    refine⟨_,rfl,rl,_,1,_,rfl,rfl,bN.of (vJ _ _ hrl),rfl,r2,y,rfl,bN.of (vJ _ _ p2.1),p2.2.1,p2.2.2,fun bad H' e=>?_,fun oky H3 y1 e3 hy1=>?_⟩
    .exact out.no (why:= .range) (fO (by show(_&&(_&&_))=false;exact cY (cY bad))) (A0.kp (vJ.trans e))
    .have vy:HJ y:=⟨oky,p2.2⟩
     obtain⟨ny,⟨dy1,hy2⟩,ZW⟩:=hy1
     have Lf:=vJ.trans e3
     refine⟨y1,_,dy1,_,_,rfl,hy2,T.d8.cl,T.b_,dg,_,rfl,wl,_,0,_,rfl,rfl,bN.of (Lf _ _ A0.w),rfl,ny,y,o,rfl,.inr (eV.of ZW),vy.2.1,vy.2.2,vy.proper,fun H4 t4 e4 ZV=>?_⟩
     have UJ:=Lf.trans e4
     have adB:oK H4 t2 (place o x):=e4 _ _ (e3 _ _ ht2)
     have st1:∀z,(match Coll.order o x y with| .lt=>0| .eq=>1| .gt=>2)=z->bJ st (.before o x y)=(st,.number z):=fun z hz=>by
      unfold bJ
      rw[if_neg (by show ¬(decide (o<=2)&&(iV x&&iV y))=false;rw[decide_eq_true ho,okx,oky];simp),<-hz]
      rfl
     have op:=bV ho vx.good.2 vy.good.2
     refine⟨_,rfl,_,rfl,t2,t4,_,_,rfl,rfl,eV.of adB,eV.of ZV,_,rfl,Gy (fun c=>?_) (fun c=>?_)⟩
     .refine⟨len2,fun p hp=>out.yes (ans:= .number 1) (st1 1 ?_) (fun _ y=>by cases y) (A0.kp (UJ.trans (aF.upd hp))) ?_⟩
      .rw[op,c,jw]
      .rw[ao];rfl
     .refine⟨_,rfl,_,rfl,t2,t4,_,_,rfl,rfl,eV.of adB,eV.of ZV,_,rfl,?_⟩
      rw[qW]
      cases hl:cO (place o x) (place o y) with
      |eq=>exact absurd (n6.mp hl) c
      |lt=>
       refine j4 ⟨len2,fun p hp=>out.yes (ans:= .number 0) (st1 0 ?_) (fun _ y=>by cases y) (A0.kp (UJ.trans (aF.upd hp))) ?_⟩
       .rw[op,hl]
       .rw[ao];rfl
      |gt=>
       refine lG ⟨len2,fun p hp=>out.yes (ans:= .number 2) (st1 2 ?_) (fun _ y=>by cases y) (A0.kp (UJ.trans (aF.upd hp))) ?_⟩
       .rw[op,hl]
       .rw[ao];rfl
end
theorem W_{o:Nat}(ho:o<=2){es:List aN}(hg:My es){vs:List aQ}(nd:vs.Nodup)(ex:∀v∈vs,∃e∈es,e.x=v)(cov:∀e∈es,e.x∈vs)
  (hs:vs.Pairwise fun x y=>cO (place o y) (place o x)≠ .lt):(vs.flatMap fun v=>es.filter fun e=>decide (ks e.x=ks v))=es.foldr (rQ o) []:=by
 have mem:∀{v:aQ} {e:aN},e∈(es.filter fun e=>decide (ks e.x=ks v))↔e∈es/\e.x=v:=fun{v e}=>by
  rw[yU]
  exact and_congr_right fun _=>by rw[decide_eq_true_eq,Cm]
 have gv:∀v∈vs,good v:=fun v hv=>by
  obtain⟨e,he,rfl⟩:=ex v hv
  exact hg e he
 refine V4 ho hg ?_ fun c=>?_
 .unfold sortedBy
  rw[List.pairwise_flatMap]
  refine⟨fun v hv=>?_,hs.imp fun{x y} z e he f hf=>?_⟩
  .refine List.pairwise_of_forall_mem_list fun e he f hf=>?_
   show cO (place o f.x) (place o e.x)≠ .lt
   rw[(mem.mp he).2,(mem.mp hf).2,jw]
   simp
  .show cO (place o f.x) (place o e.x)≠ .lt
   rw[(mem.mp he).2,(mem.mp hf).2]
   exact z
 .unfold rowAt
  have go:∀l:List aQ,l.Nodup->(∀v∈l,good v)->((l.flatMap fun v=>es.filter fun e=>decide (ks e.x=ks v)).filter fun e=>px o e==c)=es.filter fun e=>l.any (fun v=>decide (ks e.x=ks v))&&(px o e==c):=fun l=>by
   induction l with
   |nil=>intro _ _;simp
   |cons v r ih=>
    intro nd gl
    rw[Qu,Uo,ih (Qp.mp nd).2 fun u hu=>gl u (dU _ hu),List.filter_filter]
    by_cases hc:place o v=c
    .have r0:(es.filter fun e=>r.any (fun v=>decide (ks e.x=ks v))&&(px o e==c))=[]:=by
      rw[X5]
      intro e he z
      rw[lB,Up] at z
      obtain⟨⟨u,hu,q1⟩,q2⟩:=z
      have q3:e.x=u:=Cm.mp (by simpa using q1)
      have q4:place o e.x=c:=by simpa [px] using q2
      have:u=v:=by
       rw[<-q3]
       have gu:=hg e he
       have gv2:=gl v fY
       exact(Jq ho gu.1 gv2.1 gu.2 gv2.2).mp (by rw[q4,hc])
      exact(Qp.mp nd).1 (this▸hu)
     rw[r0,vI]
     refine List.filter_congr fun e he=>?_
     rw[GP]
     by_cases h1:(decide (ks e.x=ks v))=true
     .rw[h1];simp
     .by_cases h2:(px o e==c)=true
      .exfalso
       have q4:place o e.x=c:=by simpa [px] using h2
       have gu:=hg e he
       have gv2:=gl v fY
       have:=(Jq ho gu.1 gv2.1 gu.2 gv2.2).mp (by rw[q4,hc])
       exact h1 (by rw[this];simp)
      .rw[uV] at h1 h2;rw[h1,h2];simp
    .have r0:(es.filter fun a=>(px o a==c)&&(decide (ks a.x=ks v)))=[]:=by
      rw[X5]
      intro e he z
      rw[lB] at z
      have q3:e.x=v:=Cm.mp (by simpa using z.2)
      have q4:place o e.x=c:=by simpa [px] using z.1
      exact hc (by rw[<-q3];exact q4)
     rw[r0,List.nil_append]
     refine List.filter_congr fun e he=>?_
     rw[GP]
     by_cases h2:(px o e==c)=true
     .have q4:place o e.x=c:=by simpa [px] using h2
      have h1:(decide (ks e.x=ks v))=false:=by
       rw[decide_eq_false_iff_not]
       intro z
       exact hc (by rw[<-Cm.mp z];exact q4)
      rw[h1];simp
     .rw[uV] at h2;rw[h2];simp
  rw[go vs nd gv]
  refine List.filter_congr fun e he=>?_
  have:(vs.any fun v=>decide (ks e.x=ks v))=true:=Up.mpr ⟨e.x,cov e he,by simp⟩
  rw[this];simp
theorem U3{as:List Addr}{ent:Addr->aN}{k:List Key}:(as.filter fun x=>decide (ks (ent x).x=k)).map ent=(as.map ent).filter fun e=>decide (ks e.x=k):=by
 rw[List.filter_map];rfl
structure Grp(a:Ad)(ord:Nat)(H0 H:Hp)(as:List Addr)(kx:Addr->List Key)(d:Addr)(i:Nat)(kvs:List (List Key×V)):Prop where
 same:aF H0 H
 dict:H d=some (.dT kvs)
 dn:H0 d=none
 len:kvs.length<=i
 none_:∀k,iJ kvs k=none->∀x∈as.take i,kx x≠k
 some_:∀k v,iJ kvs k=some v->(∃x∈as.take i,kx x=k)/\∃g,v= .ref g/\g≠d/\H0 g=none/\H g=some (.lst (((as.take i).filter fun x=>decide (kx x=k)).map V.ref))
 inj:∀k k' g,iJ kvs k=some (.ref g)->iJ kvs k'=some (.ref g)->k=k'
theorem B_{as:List Addr}{i:Nat}{q:Addr}{kx:Addr->List Key}{k:List Key}(hq:as[i]? =some q):((as.take (i+1)).filter fun x=>decide (kx x=k))=((as.take i).filter fun x=>decide (kx x=k))++(if kx q=k then[q] else[]):=by
 rw[mY,hq,Uo]
 congr 1
 show List.filter _ [q]=_
 by_cases h:kx q=k
 .rw[if_pos h,wV,if_pos (by simp[h])];rfl
 .rw[if_neg h,wV,if_neg (by simp[h])];rfl
theorem Ex{as:List Addr}{i:Nat}{q x:Addr}(hq:as[i]? =some q)(h:x∈as.take (i+1)):x∈as.take i\/x=q:=by
 rw[mY,hq] at h
 rcases j9.mp h with h|h
 .exact .inl h
 .exact .inr (by simpa using h)
theorem Cv{as:List Addr}{i:Nat}{q x:Addr}(hq:as[i]? =some q)(h:x∈as.take i\/x=q):x∈as.take (i+1):=by
 rw[mY,hq]
 rcases h with h|h
 .exact Bw _ h
 .exact iD _ (by simp[h])
theorem Grp.old{a:Ad}{ord:Nat}{H0 H:Hp}{as:List Addr}{kx:Addr->List Key}{d:Addr}{i:Nat}{kvs:List (List Key×V)}{q g z:Addr}(G:Grp a ord H0 H as kx d i kvs)(hq:as[i]? =some q)(hz:H z=none)(hv:iJ kvs (kx q)=some (.ref g)):
  Grp a ord H0 (L2.upd (L2.upd H z (.lst [])) g (.lst ((((as.take i).filter fun x=>decide (kx x=kx q)).map V.ref)++[.ref q]))) as kx d (i+1) kvs:=by
 obtain⟨hm,g',e,gd,g0,gl⟩:=G.some_ _ _ hv
 cases e
 have zg:z≠g:=fun y=>by rw[y,gl] at hz;cases hz
 have zd:z≠d:=fun y=>by rw[y,G.dict] at hz;cases hz
 refine⟨fun b u h=>?_,?_,G.dn,Nat.le_succ_of_le G.len,fun k hk x hx=>?_,fun k v hk=>?_,G.inj⟩
 .rw[aD (aJ h g0),aD (aJ (G.same b u h) hz)];exact G.same b u h
 .rw[aD gd.symm,aD zd.symm];exact G.dict
 .rcases Ex hq hx with hx|rfl
  .exact G.none_ k hk x hx
  .intro y
   rw[<-y,hv] at hk;cases hk
 .obtain⟨⟨x,hx,hxk⟩,g2,rfl,q1,q2,q3⟩:=G.some_ k v hk
  refine⟨⟨x,Cv hq (.inl hx),hxk⟩,g2,rfl,q1,q2,?_⟩
  rw[B_ hq]
  by_cases hg:g2=g
  .subst hg
   have:=G.inj _ _ _ hk hv
   subst this
   rw[ao,if_pos rfl,fP];rfl
  .have hne:kx q≠k:=fun y=>hg (by rw[<-y,hv] at hk;cases hk;rfl)
   rw[aD hg,aD (aJ q3 hz),if_neg hne,vI]
   exact q3
theorem Grp.new{a:Ad}{ord:Nat}{H0 H:Hp}{as:List Addr}{kx:Addr->List Key}{d:Addr}{i:Nat}{kvs:List (List Key×V)}{q z:Addr}(G:Grp a ord H0 H as kx d i kvs)(hq:as[i]? =some q)(hz:H z=none)(hv:iJ kvs (kx q)=none):
  Grp a ord H0 (L2.upd (L2.upd (L2.upd H z (.lst [])) d (.dT (putK kvs (kx q) (.ref z)))) z (.lst [.ref q])) as kx d (i+1) (putK kvs (kx q) (.ref z)):=by
 have zd:z≠d:=fun y=>by rw[y,G.dict] at hz;cases hz
 have z0:H0 z=none:=aF.free G.same hz
 refine⟨fun b u h=>?_,?_,G.dn,?_,fun k hk x hx=>?_,fun k v hk=>?_,fun k k' g h1 h2=>?_⟩
 .rw[aD (aJ h z0),aD (aJ h G.dn),aD (aJ h z0)];exact G.same b u h
 .rw[aD zd.symm,ao]
 .have:=qw kvs (kx q) (V.ref z)
  have:=G.len
  omega
 .rw[DP] at hk
  by_cases hkk:k=kx q
  .rw[if_pos hkk] at hk;cases hk
  .rw[if_neg hkk] at hk
   rcases Ex hq hx with hx|rfl
   .exact G.none_ k hk x hx
   .exact fun y=>hkk y.symm
 .rw[DP] at hk
  by_cases hkk:k=kx q
  .rw[if_pos hkk] at hk
   cases hk
   refine⟨⟨q,Cv hq (.inr rfl),hkk.symm⟩,z,rfl,zd,z0,?_⟩
   rw[ao,B_ hq,if_pos hkk.symm]
   have:((as.take i).filter fun x=>decide (kx x=k))=[]:=by
    rw[X5]
    intro x hx y
    exact G.none_ (kx q) hv x hx (by rw[<-hkk];simpa using y)
   rw[this];rfl
  .rw[if_neg hkk] at hk
   obtain⟨⟨x,hx,hxk⟩,g2,rfl,q1,q2,q3⟩:=G.some_ k v hk
   refine⟨⟨x,Cv hq (.inl hx),hxk⟩,g2,rfl,q1,q2,?_⟩
   rw[aD (aJ q3 hz),aD q1,aD (aJ q3 hz),B_ hq,if_neg (fun y=>hkk y.symm),vI]
   exact q3
 .rw[DP] at h1 h2
  by_cases c1:k=kx q<;>by_cases c2:k'=kx q
  .rw[c1,c2]
  .rw[if_pos c1] at h1
   rw[if_neg c2] at h2
   cases h1
   obtain⟨_,g2,e,_,_,q3⟩:=G.some_ k' _ h2
   cases e
   rw[q3] at hz;cases hz
  .rw[if_neg c1] at h1
   rw[if_pos c2] at h2
   cases h2
   obtain⟨_,g2,e,_,_,q3⟩:=G.some_ k _ h1
   cases e
   rw[q3] at hz;cases hz
  .rw[if_neg c1] at h1
   rw[if_neg c2] at h2
   exact G.inj _ _ _ h1 h2
end Kv
namespace PySem.AutoSeq1
open PySem
set_option maxRecDepth 8000 in
theorem WX (l:Addr) (items:Array Value) (n:Nat) (b:Addr) (items2:Array Value) (n2:Nat) (dd:Option Addr) (sl:Array (Option Value)) (hs0:¬(!items.isEmpty&&XX (items.size+items2.size))=true) (hs1:items.size<=dM) (hs2:items.size+items2.size<=dM+1):
  Meets (Builtin.«list.extend» ⟨[.ref l,.ref b],[]⟩) (fun _ R s=>s.heap.get? l=some {cls:= .type "list",dict:=none,data:= .seq items n,slots:= #[]}/\s.heap.get? b=some {cls:= .type "tuple",dict:=dd,data:= .seq items2 n2,slots:=sl}/\R (.ok (.ret Value.none)) {s with heap:=s.heap.update l (kh fun x=>x++items2),toks:=s.toks}):=
 .of_wp fun prog w A R s h=>by
  obtain⟨hp,g,d,tk,os⟩:=s;obtain⟨hl,hb,h⟩:=h;have f1:=idx_int;have f2:=sub_tuple_tuple;have f3:=sub_list_list;have f4:=sub_tuple_list;have f5:=sub_list_tuple;
  have hz':(items++items2).size<=dM+1:=by rw[Array.size_append];exact hs2
  wp_walk using(wpAny_updateSeq hl rfl (hz:=hs1) (_hz':=hz')),wpAny_loadPart' hl,wpAny_loadPart' hb;exact⟨_,rfl,h⟩
end PySem.AutoSeq1
namespace L2
open PySem PySem.Spec PyProof.Rows
def ab7:V->List V->Hp->VK->Prop:=fun x vs H Q=>∃l b xs zs,x= .ref l/\vs=[.ref b]/\H l=some (.lst xs)/\H b=some (.tup zs)/\xs.length+zs.length<=dM/\Q .non (upd H l (.lst (xs++zs)))
theorem Xn{X:Cx}:MtM X "list.extend" ab7:=by
 intro pins s σ H x vs v us Q I rx rv h
 obtain⟨l,b,xs,zs,rfl,rfl,hH,hB,hz,q⟩:=h
 cases rx
 obtain⟨u,rfl,ru⟩:=rv.one
 cases ru
 obtain⟨z,its,n,r,hl,e⟩:=I.Xh hH
 obtain⟨z2,its2,r2,⟨oc,od,odt,osl⟩,e2,hc,n2,hd⟩:=I.hok b _ hB
 have hc':oc= .type "tuple":=hc
 have hd':odt= .seq its2.toArray n2:=hd
 subst hc' hd'
 have hl2:=r2.length
 have hsz:its.toArray.size+its2.toArray.size<=dM:=by rw[iG,iG];omega
 have abx:¬(!its.toArray.isEmpty&&XX (its.toArray.size+its2.toArray.size))=true:=by
  rw[Vo hsz,Bool.and_false]
  exact iY
 refine call_meets F.slot_list_extend ⟨_,e,rfl⟩ F.entry_list_extend (F.args_list_extend_2 _ _)
  (AutoSeq1.WX l its.toArray n b its2.toArray n2 od osl abx (by rw[iG];omega) (by omega)) ⟨e,e2,?_⟩
 refine⟨.non,_,I.adE (its':=its++its2) hH e (by simp) (r.append r2) ?_,rfl,q⟩
 rw[dN]
 omega
end L2
namespace Kv
open Coll
open CollNeutral (valueN valuesN)
theorem Hr{α β:Type}{f g:α->Option β}:∀{l:List α},(∀x∈l,f x=g x)->l.filterMap f=l.filterMap g
 |[],_=>rfl
 |x::r,h=>by
  rw[JL,JL,h x fY,Hr fun y hy=>h y (dU _ hy)]
def cls(l m:List Entry)(e:Entry):Option (Nat×Entry):=match findKey l e.k,findKey m e.k with
 |some a,some b=>if same a.x b.x=true then none else some (2,e)
 |some _,none=>some (0,e)
 |_,_=>some (1,e)
def xW(m:List Entry)(e:Entry):Option (Nat×Entry):=match findKey m e.k with
 |none=>some (0,e)
 |some b=>if same e.x b.x=true then none else some (2,e)
theorem Le{l m:List Entry}{e:Entry}{p:Nat×Entry}(h:cls l m e=some p):p.2=e:=by
 unfold cls at h
 split at h
 .split at h
  .cases h
  .cases h;rfl
 .cases h;rfl
 .cases h;rfl
theorem QM{o:Nat}(ho:o<=2):∀{l:List Entry},bR l->rising o l->∀e∈l,findKey l e.k=some e
 |x::l,hl,hr,e,he=>by
  unfold findKey
  rcases bU.mp he with z|z
  .subst z
   rw[List.find?_cons_of_pos (by rw[same_iff])]
  .have:=z6 ho hl hr e z
   rw[List.find?_cons_of_neg (by rw[uV,oF];exact fun q=>this q.symm)]
   exact QM ho hl.tail (jX.mp hr).2 e z
theorem find_none{l:List Entry}{k:Value}:findKey l k=none↔hasKey l k=false:=by
 unfold findKey hasKey
 rw[List.find?_eq_none,<-uV,Up]
 constructor
 .rintro h ⟨x,h1,h2⟩
  exact h x h1 h2
 .intro h x h1 h2
  exact h ⟨x,h1,h2⟩
theorem abj{l:List Entry}{k:Value}{e:Entry}(h:findKey l k=some e):e∈l/\e.k=k:=by
 unfold findKey at h
 exact⟨List.mem_of_find?_eq_some h,same_iff.mp (List.find?_some (p:=fun(e:Entry)=>same e.k k) h)⟩
theorem Wz(l m:List Entry):alone l (alone m l)=l:=by
 refine X4.mpr fun e he=>?_
 rw[GR,<-uV,sI]
 rintro⟨x,hx,hk⟩
 have h1:=(yU.mp hx).2
 rw[GR,<-uV,sI] at h1
 exact h1 ⟨e,he,hk.symm⟩
theorem Uy{o:Nat}(ho:o<=2){l m:List Entry}(hl:bR l)(rl:rising o l):l.filterMap (xW m)++(alone m l).map (fun e=>(1,e))=(l++alone m l).filterMap (cls l m):=by
 rw[List.filterMap_append]
 congr 1
 .refine Hr fun e he=>?_
  unfold cls xW
  rw[QM ho hl rl e he]
  cases findKey m e.k<;>rfl
 .rw[<-List.filterMap_eq_map]
  refine Hr fun e he=>?_
  have h1:=(yU.mp he).2
  rw[GR,<-find_none] at h1
  show some (1,e)=_
  unfold cls
  rw[h1]
theorem Mu(o:Nat)(l m:List Entry)(c:List Int)(L:List Entry):(L.filterMap (cls l m)).filter (fun p=>pk o p.2==c)=(rowAt (pk o) c L).filterMap (cls l m):=by
 induction L with
 |nil=>rfl
 |cons e r ih=>
  rw[fu,JL]
  cases h:cls l m e with
  |none=>
   rw[ih]
   split
   .rw[JL,h]
   .rfl
  |some p=>
   have hp:=Le h
   rw[wV,ih,hp]
   by_cases z:pk o e=c
   .rw[if_pos z,if_pos (by simp[z]),JL,h]
   .rw[if_neg z,if_neg (by simp[z])]
theorem WM{o:Nat}(ho:o<=2){l m:List Entry}(hl:bR l)(hm:bR m)(rl:rising o l)(rm:rising o m){out:List (Nat×Entry)}(hs:out.Pairwise (le1 fun p=>pk o p.2))
  (hr:∀c,out.filter (fun p=>pk o p.2==c)=(l.filterMap (xW m)++(alone m l).map (fun e=>(1,e))).filter (fun p=>pk o p.2==c)):out=(puts o l (alone m l)).filterMap (cls l m):=by
 have p:=Js ho hl (Ca hm) rl (z7 (m:=l) rm)
 refine Nr (fun p=>pk o p.2) hs ?_ fun c=>?_
 .rw[List.pairwise_filterMap]
  refine(tM ho p.1 p.2.1).imp fun{x y} h b hb b' hb'=>?_
  have e1:=Le hb
  have e2:=Le hb'
  show cO (pk o b'.2) (pk o b.2)≠ .lt
  rw[e1,e2];exact h
 .rw[hr c,Uy ho hl rl,Mu,Mu,p.2.2 c,Wz]
theorem Zz(v u:Ver):differ v u=((puts v.ord v.l (alone u.l v.l)).filterMap (cls v.l u.l)).map fun p=> .list [.num p.1 1,p.2.k]:=by
 unfold differ
 rw[List.map_filterMap]
 refine Hr fun e _=>?_
 unfold cls
 split
 .rename_i a b h1 h2
  rw[h1,h2]
  dsimp only
  split<;>rfl
 .rename_i a h1 h2
  rw[h1,h2];rfl
 .rename_i h1 h2
  cases q1:findKey v.l e.k with
  |none=>rfl
  |some a=>
   cases q2:findKey u.l e.k with
   |none=>exact absurd q2 (h2 a q1)
   |some b=>exact absurd q2 (h1 a b q1)
end Kv
namespace Kv
open PySem PySem.Spec PyProof.Rows L2
abbrev abh(w:Int)(e:Addr):List (Str×V):=fV "entry" (.ref e) (fV "where" (.int w) [])
theorem BX{w:Int}{e:Addr}:(abh w e).lookup ("where":Str)=some (.int w):=by rw[aO,if_neg (by decide+kernel),aO,if_pos rfl]
theorem wZ{w:Int}{e:Addr}:(abh w e).lookup ("entry":Str)=some (.ref e):=by rw[aO,if_pos rfl]
def abn:List V->List (Str×V)
 |[x,y]=>fV "entry" y (fV "where" x [])
 |_=>[]
inductive acG(a:Ad)(kind ord:Nat)(H:Hp)(x:Addr)(p:Nat×aN):Prop
 |mk (en:_) (lq:Ob H x a.eE (abh p.1 en)) (hh1:bT a kind ord H en p.2)
def o8(a:Ad)(kind ord:Nat)(H:Hp)(x:Addr)(p:Nat×aN):Prop:=acG a kind ord H x p
def uT(lf:Addr)(H H':Hp):Prop:=∀b u,H b=some u->b≠lf->H' b=some u
section
variable{a:Ad}{kind ord:Nat}{H H':Hp}
theorem bT.kb{x lf:Addr}{e:aN}(h:bT a kind ord H x e)(k:uT lf H H')(hl:∀u,H lf=some u->∃xs,u= .lst xs):bT a kind ord H' x e:=by
 have go:∀{b:Addr} {u:HO},H b=some u->(∀xs,u≠ .lst xs)->H' b=some u:=fun{b u} q n=>k b u q fun z=>by
  obtain⟨xs,e⟩:=hl u (z▸q)
  exact n xs e
 obtain⟨k,v,p,⟨dx,h1⟩,h2,h3,h4⟩:=h
 exact⟨k,v,p,⟨dx,go h1 fun _ z=>by cases z⟩,go h2 fun _ z=>(by cases z),go h3 fun _ z=>(by cases z),go h4 fun _ z=>(by cases z)⟩
theorem o8.kb{x lf:Addr}{p:Nat×aN}(h:o8 a kind ord H x p)(k:uT lf H H')(hl:∀u,H lf=some u->∃xs,u= .lst xs):o8 a kind ord H' x p:=by
 obtain⟨en,⟨dx,h1⟩,h2⟩:=h
 refine⟨en,⟨dx,k _ _ h1 fun z=>?_⟩,h2.kb k hl⟩
 obtain⟨xs,e⟩:=hl _ (z▸h1)
 cases e
theorem o8.t{x:Addr}{p:Nat×aN}(h:o8 a kind ord H x p)(s:cQ H H'):o8 a kind ord H' x p:=by
 obtain⟨en,⟨dx,h1⟩,h2⟩:=h
 exact⟨en,⟨dx,s _ _ h1 trivial⟩,h2.t s⟩
theorem aa_{x:Addr}{p q:Nat×aN}(hk:kind<=3)(h1:o8 a kind ord H x p)(h2:o8 a kind ord H x q)(oe:xr kind p.2)(of_:xr kind q.2):p=q:=by
 obtain⟨en,⟨d1,o1⟩,o2⟩:=h1
 obtain⟨en',⟨d2,r1⟩,r2⟩:=h2
 have fe:=Yj o1 r1
 have ew:p.1=q.1:=by
  have z:=congrArg (fun l=>l.lookup ("where":Str)) fe
  rw[BX,BX] at z
  injection z with z;injection z with z;omega
 have ee:en=en':=by
  have z:=congrArg (fun l=>l.lookup ("entry":Str)) fe
  rw[wZ,wZ] at z
  injection z with z;injection z
 subst ee
 have e2:=QL hk o2 r2 oe of_
 obtain⟨p1,p2⟩:=p
 obtain⟨q1,q2⟩:=q
 cases ew;cases e2;rfl
open Classical in
noncomputable def Mj (a:Ad) (kind ord:Nat) (H:Hp) (x:Addr):Nat×aN:=if h:∃p,o8 a kind ord H x p/\xr kind p.2 then h.choose else(0,⟨.truth false,.truth false⟩)
theorem Ml{x:Addr}{p:Nat×aN}(hk:kind<=3)(h:o8 a kind ord H x p)(o:xr kind p.2):Mj a kind ord H x=p:=by
 have ex:∃p,o8 a kind ord H x p/\xr kind p.2:=⟨p,h,o⟩
 unfold Mj
 rw[dif_pos ex]
 exact aa_ hk ex.choose_spec.1 h ex.choose_spec.2 o
theorem QJ(hk:kind<=3):∀{as:List Addr} {es:List (Nat×aN)},Paired (o8 a kind ord H) as es->(∀p∈es,xr kind p.2)->as.map (Mj a kind ord H)=es
 |_,_,.nil,_=>rfl
 |_,_,.cons h t,o=>by
  rw[cU,Ml hk h (o _ fY),QJ hk t fun e he=>o e (dU _ he)]
theorem Nv{P:Addr->Nat×aN->Prop}{ent:Addr->Nat×aN}:∀{bs:List Addr},(∀x∈bs,P x (ent x))->Paired P bs (bs.map ent)
 |[],_=> .nil
 |x::r,h=> .cons (h x fY) (Nv fun y hy=>h y (dU _ hy))
def aaT(kind:Nat)(H:Hp)(d:Addr)(es:List aN):Prop:=∃kvs,H d=some (.dT kvs)/\kvs.length<=es.length/\∀k:aQ,(jK es k=false->iJ kvs (ks k)=none)/\∀e∈es,e.k=k->∃t,iJ kvs (ks k)=some (.ref t)/\oK H t (valN kind e)
end
section
variable{w:World}{K:bw}{mg:Str->Option Value}{base:Heap}{a:Ad}{tb:Tb}
theorem Px(T:Txt K mg a):cN w K mg base 1 a.qP ["self","where","entry"] (Ao a.eE 2 (fun _=>True) abn):=by
 obtain⟨fd,F⟩:=T.dO.fn
 refine⟨fd,F.ok1 Gh (fun vs H Q E h=>?_) (fun cdv A outer s H vs Q E hr h=>?_),F.binds (by walk_at "b3"),F.kp⟩
 .obtain⟨p,dx,xs,rfl,hl,_⟩:=h
  simp[hl]
 .obtain⟨p,dx,xs,rfl,hl,_,hp,k⟩:=h
  match xs,hl with
  |[x,y],_=>
   refine⟨_,ak (lK (pv 0) (pv 1) rfl) (au (lK (pv 0) (pv 2) rfl)),?_⟩
   refine⟨_,rfl,_,rfl,p,_,dx,_,rfl,hp,T.dO.cl,T.lH,(by show 0<1000;decide),_,rfl,_,rfl,p,_,dx,_,rfl,ao,T.dO.cl,T.jd,(by show 1<1000;decide),?_⟩
   exact k _ ao fun b o e hb=>by rw[aD hb,aD hb];exact e
inductive acY(a:Ad)(vs:List V)(H:Hp)(Q:VK):Prop
 |mk (l:Addr) (kind ord:Nat) (es:List aN) (lq:vs=[.ref l]) (hh1:kind≠3) (nY:ord<=2) (hh3:gK a kind ord H l es) (wO:bR es) (Eo:rising ord es) (Ph:es.length<=1000000) (ZM:∀(H':Hp) (d:Addr),aF H H'->aaT kind H' d es->Q (.ref d) H')
def afM(a:Ad):Sp:=fun vs H Q _=>acY a vs H Q
theorem Jm(T:Txt K mg a):cN w K mg base 1 a.mj ["entries"] (afM a):=by
 obtain⟨fd,F⟩:=T.mF.fn
 refine⟨fd,F.ok1 zE (fun vs H Q E h=>?_) (fun cdv A outer s H vs Q E hr h=>?_),F.binds (by walk_at "b1"),F.kp⟩
 .obtain⟨l,kind,ord,es,rfl,_⟩:=h
  rfl
 .obtain⟨l,kind,ord,es,rfl,hk3,ho,⟨as,hl,hp⟩,gl,rl,hn,k⟩:=h
  have nd:=zE.nd
  have hu:=J1 hr
  have pl:=gC hp
  refine⟨_,ak (aK (i:=1) nd rfl (Or.inl rfl) NK) (ak (qZ own1 rfl (iQ (pv 0)) (gH (i:=2) nd rfl (Or.inl rfl)) (au (Ti hu (pv 1) (aG (pv 2) rfl) (aG (pv 2) rfl) rfl))) (au (aL (pv 1)))),?_⟩
  intro d hd
  refine⟨_,rfl,l,rfl,⟨_,bN.of (aF.upd hd _ _ hl)⟩,kZ (K:=K) (a:=l) (xs:=as.map V.ref) (fun i σ H'=>∃v2:Option V,σ=[some (.ref l),some (.ref d),v2]/\aF H H'/\aaT kind H' d (es.take i))
   ⟨none,rfl,aF.upd hd,[],ao,j_ _,fun k=>by rw[JR];exact⟨fun _=>rfl,fun e he=>by simp at he⟩⟩ (fun i σ H' _ ⟨_,_,e,_⟩=>bN.of (e _ _ hl)) ?_ ?_⟩
  .rintro i x σ H' hi ⟨v2,rfl,e,kvs,hkv,hlk,hall⟩
   obtain⟨q,hq,rfl⟩:∃q,as[i]? =some q/\x=V.ref q:=by
    rw[gw] at hi
    cases z:as[i]? with
    |none=>rw[z] at hi;cases hi
    |some y=>rw[z] at hi;exact⟨y,rfl,(dJ hi).symm⟩
   obtain⟨en,hen,kx,vx,px,⟨dx,o1⟩,o2,o3,_⟩:=cD hp hq
   unfold sO at o2
   rw[if_neg hk3] at o2
   have o2':H' kx=some (.tup ((ks en.k).map kV)):=by rw[Sd];exact e _ _ o2
   refine⟨_,rfl,q,_,dx,_,_,rfl,e _ _ o1,T.bO.cl,T.d9,gF,_,rfl,_,rfl,q,_,dx,_,_,rfl,e _ _ o1,T.bO.cl,T.dG,eY,d,_,rfl,RC.t hkv o2' (fX (by rw[lR] at hlk;omega)),?_⟩
   have ne:∀{b:Addr} {xs:List V},H' b=some (.tup xs)->b≠d:=fun hb=>vX hb hkv (by intro z;cases z)
   refine⟨some (.ref q),rfl,fun b u z=>?_,_,ao,?_,fun k=>?_⟩
   .rw[aD (aJ z hd)];exact e b u z
   .have:=qw kvs (ks en.k) (V.ref vx)
    rw[lR] at hlk ⊢
    have:=(gn.mp hen).1
    omega
   .rw[DP,mY,hen]
    refine⟨fun hno=>?_,fun f hf hfk=>?_⟩
    .unfold jK at hno
     rw[List.any_append,Bool.or_eq_false_iff] at hno
     have h2:Coll.same en.k k=false:=by simpa using hno.2
     rw[if_neg (fun z=>oF.mp h2 (Cm.mp z).symm)]
     exact(hall k).1 hno.1
    .rcases j9.mp hf with z|z
     .have hne:f.k≠en.k:=by
       intro y
       obtain⟨j,hj1,hj2⟩:=jD z
       have hf':f∈es:=fZ hj2
       have:=Uj.mp rl j i (gn.mp hj2).1 (gn.mp hen).1 hj1
       have e1:=(gn.mp hj2).2
       have e2:=(gn.mp hen).2
       rw[e1,e2,y,bV ho (gl en (fZ hen)).2 (gl en (fZ hen)).2,jw] at this
       cases this
      obtain⟨t,ht1,ht2⟩:=(hall k).2 f z hfk
      rw[if_neg (fun y=>hne (hfk.trans (Cm.mp y)))]
      exact⟨t,ht1,by rw[oK,aD (ne ht2)];exact ht2⟩
     .have ef:f=en:=by simpa using z
      subst ef
      rw[if_pos (by rw[hfk])]
      exact⟨vx,rfl,by rw[oK,aD (ne (e _ _ o3))];exact e _ _ o3⟩
  .rintro σ H' ⟨v2,rfl,e,hk⟩
   rw[aW,pl,lC] at hk
   exact⟨_,rfl,k H' d e hk⟩
end
open Classical in
noncomputable def valAt (H:Hp) (t:Addr):aQ:=if h:∃v,oK H t (aZ v) then h.choose else .truth false
theorem Wc{H:Hp}{t:Addr}{v:aQ}(h:oK H t (aZ v)):valAt H t=v:=by
 have ex:∃v,oK H t (aZ v):=⟨v,h⟩
 unfold valAt
 rw[dif_pos ex]
 exact lQ.mp (T8 ex.choose_spec h)
theorem Kz{o:Nat}{e:aN}:∀{l:List aN},(rQ o e l).Perm (e::l)
 |[]=> .refl _
 |x::r=>by
  unfold rQ
  split
  .exact((Kz (l:=r)).cons x).trans (.swap ..)
  .exact .refl _
theorem JC{o:Nat}:∀{l:List aN},(l.foldr (rQ o) []).Perm l
 |[]=> .refl _
 |x::r=>by
  rw[List.foldr_cons]
  exact Kz.trans ((JC (l:=r)).cons x)
theorem ZF{α β:Type}{l:List α}{f:α->List β}{j:Nat}:((l.take j).flatMap f).length<=(l.flatMap f).length:=by
 have:l.flatMap f=(l.take j).flatMap f++(l.drop j).flatMap f:=by rw[<-LC,LK]
 rw[this,dN];omega
theorem QS{α β:Type}{l:List α}{f:α->List β}{j:Nat}{x:α}(h:l[j]? =some x):(l.take (j+1)).flatMap f=(l.take j).flatMap f++f x:=by
 rw[mY,h,LC];simp
section
variable{w:World}{K:bw}{mg:Str->Option Value}{base:Heap}{a:Ad}{tb:Tb}
inductive Zh(a:Ad)(tb:Tb)(vs:List V)(H:Hp)(Q:VK):Prop
 |mk (l:Addr) (ord o:Nat) (es:List aN) (lq:vs=[.ref l,.int o]) (hh1:o<=2) (nY:gK a 3 ord H l es) (hh3:(∀e∈es,xr 3 e)) (wO:es.length<=1000000) (Eo:TabsOk tb H) (Ph:∀(H':Hp) (q:Addr),cQ H H'->TabsOk tb H'->gK a 3 ord H' q (es.foldr (rQ o) [])->Q (.ref q) H')
def acu(a:Ad)(tb:Tb):Sp:=fun vs H Q _=>Zh a tb vs H Q
theorem TabsOk.x3{H H':Hp}(L:yS K mg base a tb)(t:TabsOk tb H)(h:tZ tb.P3 H H')(t':TabAt H' tb.P3 lp3 lq3):TabsOk tb H':=⟨TabAt.other h L.n13 t.t3 t.t1,TabAt.other h L.n23 t.t3 t.t2,t'⟩
theorem HW(T:Txt K mg a)(L:yS K mg base a tb):cN w K mg base 8 a.fD ["entries","order"] (acu a tb):=by
 obtain⟨fd,F⟩:=T.oY.fn
 obtain⟨f1,G1,b1,k1⟩:=n8 (w:=w) (base:=base) T
 refine⟨fd,afg F L.l3.code xx (fun vs H Q E h=>?_) (fun A outer s H vs Q E hr h=>?_),F.binds (by walk_at "b2"),F.kp⟩
 .obtain⟨l,ord,o,es,rfl,_⟩:=h
  rfl
 .obtain⟨l,ord,o,es,rfl,ho,⟨as,hl,hp⟩,ok,hn,Tt,k⟩:=h
  have nd:=xx.nd
  have hu:=J1 hr
  have pl:=gC hp
  refine⟨_,ak (aK (i:=2) nd rfl (Or.inl rfl) NK)
   (ak (qZ own1 rfl (iQ (pv 0)) (gH (i:=3) nd rfl (Or.inl rfl)) (au (cZ (pM jJ vG vH jx
    (aaa hu (pv 2) (aG (pv 3) rfl) (bL aq) ⟨rfl,rfl,rfl,rfl⟩) (aj (pv 3) aq)))))
   (ak (aK (i:=4) nd rfl (Or.inl rfl) (bL aq))
   (ak (qZ own1 rfl (iQ (NQ (P:=tb.P3) (p:="value") (caps:=["order"]) (qual:=lq3) (clos:=[("order",s.heap.objs.size+1)]) (tb:=Rw (YT K) [] E0 (xH (vd 0) (xH (vd 1) O4))) hr
     (jy (RP hr.hd) rfl T.xR boot_list (aj (pv 2) aq)) (Jp (c:=tb.c3) L.l3.hd rfl L.bm rfl rfl rfl) rfl T.BL (fun _ _ _ _=>rfl)
     (fun f c' s H=>aA G1 (hr.in1.in1.deeper _) rfl T.jj.glob k1 b1 .nil bG (aj (pv 0) (aj (pv 1) aq)))))
    (gH (i:=5) nd rfl (Or.inl rfl)) (au (cZ (pM jJ Bu Bv qx (pv 4) (aj (Te hu (pv 2) (pv 5) (fun _ _=>rfl)) aq)))))
   (au (aL (pv 4)))))),?_⟩
  intro d hd
  have ee:=Je (cF 3) hp ok
  have nT':∀{b:Addr} {u:HO},H b=some u->b≠d:=fun hb=>aJ hb hd
  refine⟨_,rfl,l,rfl,⟨_,bN.of (aF.upd hd _ _ hl)⟩,kZ (K:=K) (a:=l) (xs:=as.map V.ref) (fun i σ H'=>∃(v3:Option V) (kvs:List (List Key×V)),σ=[some (.ref l),some (.int o),some (.ref d),v3,none,none]/\Grp a ord H H' as (fun x=>ks (lU a 3 ord H x).x) d i kvs)
   ⟨none,[],rfl,aF.upd hd,ao,hd,j_ _,fun k _ x hx=>by simp at hx,fun k v hk=>by simp[iJ] at hk,fun k k' g hk=>by simp[iJ] at hk⟩ (fun i σ H' _ ⟨_,_,_,G⟩=>bN.of (G.same _ _ hl)) ?_ ?_⟩
  .rintro i x σ H' hi ⟨v3,kvs,rfl,G⟩
   obtain⟨q,hq,rfl⟩:∃q,as[i]? =some q/\x=V.ref q:=by
    rw[gw] at hi
    cases z:as[i]? with
    |none=>rw[z] at hi;cases hi
    |some y=>rw[z] at hi;exact⟨y,rfl,(dJ hi).symm⟩
   have hil:=(gn.mp hq).1
   obtain⟨en,hen,Yl⟩:=cD hp hq
   have eq1:=BW (cF 3) Yl (ok en (fZ hen))
   obtain⟨kx,vx,px,⟨dx,o1⟩,_,o3,_⟩:=Yl
   unfold valN at o3
   rw[if_neg (by decide)] at o3
   have o3':H' vx=some (.tup ((ks (lU a 3 ord H q).x).map kV)):=by rw[eq1,Sd];exact G.same _ _ o3
   have gle:=G.len
   refine⟨_,rfl,d,rfl,.inr ⟨kvs,.inl G.dict⟩,_,rfl,q,_,dx,_,_,rfl,G.same _ _ o1,T.bO.cl,T.d9,gF,len0,fun z hz=>?_⟩
   have zd:z≠d:=fun y=>by rw[y,G.dict] at hz;cases hz
   refine⟨kvs,ks (lU a 3 ord H q).x,vx,?_,rfl,?_,fX (by omega),fun v hv=>?_,fun hv=>?_⟩
   .rw[aD zd.symm];exact G.dict
   .rw[aD (aJ o3' hz)];exact o3'
   .obtain⟨_,g,rfl,gd,g0,gl⟩:=G.some_ _ _ hv
    have gz:g≠z:=aJ gl hz
    refine⟨.inl ⟨rfl,_,bN.of (by rw[aD gz];exact gl)⟩,_,rfl,g,_,_,rfl,rfl,by rw[aD gz];exact gl,?_,_,kvs,rfl,G.old hq hz hv⟩
    rw[aW]
    have h1:=List.length_filter_le (fun x=>decide (ks (lU a 3 ord H x).x=ks (lU a 3 ord H q).x)) (as.take i)
    rw[lR] at h1
    exact fX (by omega)
   .refine⟨.inl ⟨rfl,_,bN.of (by rw[aD zd,ao])⟩,_,rfl,z,_,_,rfl,rfl,by rw[aD zd,ao],fX (by simp),_,_,rfl,G.new hq hz hv⟩
  .rintro σ H1 ⟨v3,kvs,rfl,G⟩
   rw[aW] at G
   have tk:as.take as.length=as:=lC
   refine⟨len0,fun r hr1=>?_⟩
   have r0:H r=none:=aF.free G.same hr1
   have rd:r≠d:=fun y=>by rw[y,G.dict] at hr1;cases hr1
   have Yh:=aF.upd (o:= .lst []) hr1
   refine⟨_,rfl,d,kvs,rfl,Yh _ _ G.dict,fun tl ts htl hN hts=>?_⟩
   have e13:=Yh.trans (aF.upd (o:= .lst (ts.map V.ref)) htl)
   have Lf:=G.same.trans e13
   have lr:tl≠r:=fun y=>by rw[y,ao] at htl;cases htl
   have tv:∀(t:Addr) (kv:List Key×V),kv∈kvs->(L2.upd H1 r (.lst [])) t=some (.tup (kv.1.map kV))->∃v,oK (L2.upd H1 r (.lst [])) t (aZ v)/\kv.1=ks v/\∃e∈es,e.x=v:=fun t kv hkv ht=>by
    cases hv:iJ kvs kv.1 with
    |none=>
     exfalso
     have:(kvs.any fun p=>decide (p.1=kv.1))=true:=Up.mpr ⟨kv,hkv,by simp⟩
     rw[wN,hv] at this;cases this
    |some u=>
     obtain⟨⟨x,hx,hxk⟩,_⟩:=G.some_ _ _ hv
     rw[tk] at hx
     refine⟨(lU a 3 ord H x).x,?_,hxk.symm,lU a 3 ord H x,by rw[<-ee];exact List.mem_map_of_mem hx,rfl⟩
     show _=some (HO.tup ((aZ (lU a 3 ord H x).x).map V.int))
     rw[<-Sd,hxk];exact ht
   have ao5:∀{ts':List Addr} {kv':List (List Key×V)},Paired (fun t kv=>(L2.upd H1 r (.lst [])) t=some (.tup (kv.1.map kV))) ts' kv'->(∀kv∈kv',kv∈kvs)->(ts'.map (valAt (L2.upd H1 r (.lst [])))).map ks=kv'.map (·.1)/\∀t∈ts',∃v,oK (L2.upd H1 r (.lst [])) t (aZ v)/\valAt (L2.upd H1 r (.lst [])) t=v/\∃e∈es,e.x=v:=fun{ts' kv'} hq hs=>by
    induction hq with
    |nil=>exact⟨rfl,fun t ht=>by simp at ht⟩
    | @cons t kv r1 r2 h t2 ih=>
     obtain⟨v,q1,q2,q3⟩:=tv _ _ (hs _ fY) h
     obtain⟨i1,i2⟩:=ih fun kv hkv=>hs kv (dU _ hkv)
     refine⟨?_,fun t ht=>?_⟩
     .rw[cU,cU,cU,i1,Wc q1,q2]
     .rcases bU.mp ht with rfl|ht
      .exact⟨v,q1,Wc q1,q3⟩
      .exact i2 t ht
   obtain⟨a1,a2⟩:=ao5 hts fun _ z=>z
   have vnd:(ts.map (valAt (L2.upd H1 r (.lst [])))).Nodup:=by
    rw[<-a1] at hN
    exact(List.pairwise_map.mp hN).imp fun h e=>h (by rw[e])
   have T3:=Tt.same Lf
   refine⟨tl,ts,ts.map (fun t=>place o (valAt (L2.upd H1 r (.lst [])) t)),[some (.int o)],rfl,bN.of ao,by simp,fun z hz=>?_,⟨rfl,rfl,rfl,rfl,rfl,by decide+kernel,fun x hx=>?_,fun x c hx=>?_,fun i x v hx hv=>?_⟩,T3.t3,fun i b kk H' hb hks sx=>?_,fun bs H' q sx tx hs hq=>?_⟩
   .obtain⟨t,_,rfl⟩:=uU.mp hz
    exact NZ
   .have z:=qG hx
    rcases bU.mp z with z|z
    .exact absurd (fJ z).2 (by decide)
    .rcases bU.mp z with z|z
     .rw[(fJ z).1];exact⟨_,rfl⟩
     .exact absurd (fJ (rN.mp z)).2 (by decide)
   .have z:=fJ (rN.mp (qG hx))
    rw[z.1,z.2];rfl
   .cases i with
    |zero=>
     cases hx;cases hv
     exact⟨rfl,⟨_,rfl⟩,1,rfl,rfl,Or.inr (Or.inl rfl),fun z=>nomatch (show some NameKind.cell=some NameKind.local from z)⟩
    |succ i=>simp at hx
   .obtain⟨v,q1,q2,e,he,q3⟩:=a2 b (fZ hb)
    have hk:kk=place o v:=by
     rw[gw,hb] at hks
     rw[<-q2];exact(dJ hks).symm
    have ov:HJ v:=by rw[<-q3];exact(ok e he).2.1
    have sT:=tZ.t sx T3.t3
    have hb':H' b=some (.tup ((aZ v).map V.int)):=sT _ _ (aF.upd htl _ _ q1) trivial
    rw[hk]
    exact⟨_,rfl,_,rfl,b,v,o,rfl,.inr (eV.of hb'),ov.2.1,ov.2.2,ov.proper,fun H2 t e2 ht=>⟨t,rfl,ht,e2⟩⟩
   .obtain⟨h1,h2,_⟩:=Gi (ent:=valAt (L2.upd H1 r (.lst []))) (key:=place o) hs
    have sT:=tZ.t sx T3.t3
    have sTq:=sT.trans (cQ.of (aF.upd (o:= .lst (bs.map V.ref)) hq))
    have e0q:=(cQ.of Lf).trans sTq
    have Tq:=(T3.x3 L sx tx).same (aF.upd (o:= .lst (bs.map V.ref)) hq)
    have whole:((bs.map (valAt (L2.upd H1 r (.lst [])))).flatMap fun v=>es.filter fun e=>decide (ks e.x=ks v))=es.foldr (rQ o) []:=by
     refine W_ ho (fun e he=>(ok e he).2.1.good) ((h1.map _).nodup_iff.mpr vnd) (fun v hv=>?_) (fun e he=>?_) (h2.imp fun{x y} z=>?_)
     .obtain⟨t,ht,rfl⟩:=uU.mp hv
      obtain⟨v,_,q2,q3⟩:=a2 t (h1.mem_iff.mp ht)
      rw[q2];exact q3
     .rw[<-ee] at he
      obtain⟨x,hx,rfl⟩:=uU.mp he
      cases hv:iJ kvs (ks (lU a 3 ord H x).x) with
      |none=>exact absurd rfl (G.none_ _ hv x (by rw[tk];exact hx))
      |some u=>
       have:(kvs.any fun p=>decide (p.1=ks (lU a 3 ord H x).x))=true:=by rw[wN,hv];rfl
       obtain⟨p,hp1,hp2⟩:=Up.mp this
       have hm:ks (lU a 3 ord H x).x∈(ts.map (valAt (L2.upd H1 r (.lst [])))).map ks:=by
        rw[a1,<-of_decide_eq_true hp2];exact List.mem_map_of_mem hp1
       obtain⟨v,hv1,hv2⟩:=uU.mp hm
       rw[<-Cm.mp hv2]
       exact(h1.map _).mem_iff.mpr hv1
     .rw[qW] at z
      exact eF.mp z
    have wa:((bs.flatMap fun t=>as.filter fun x=>decide (ks (lU a 3 ord H x).x=ks (valAt (L2.upd H1 r (.lst [])) t))).map (lU a 3 ord H))=es.foldr (rQ o) []:=by
     rw[List.map_flatMap,<-whole,List.flatMap_map]
     congr 1
     funext t
     rw[U3,ee]
    have wl:(bs.flatMap fun t=>as.filter fun x=>decide (ks (lU a 3 ord H x).x=ks (valAt (L2.upd H1 r (.lst [])) t))).length=es.length:=by
     have:=congrArg List.length wa
     rw[aW,JC.length_eq] at this
     exact this
    have hrl:(L2.upd (L2.upd H1 r (.lst [])) tl (.lst (ts.map V.ref))) r=some (.lst []):=by rw[aD lr.symm,ao]
    have bq:∀{b:Addr} {u:HO},H1 b=some u->nT u->b≠r->(L2.upd H' q (.lst (bs.map V.ref))) b=some u:=fun{b u} hb n nb=>sTq _ _ (e13 _ _ hb) n
    have qr:q≠r:=fun y=>by
     have:=sT _ _ hrl trivial
     rw[<-y,hq] at this;cases this
    refine⟨q,rfl,⟨_,bN.of ao⟩,kZ (K:=K) (a:=q) (xs:=bs.map V.ref) (fun j σ H3=>∃v5:Option V,σ=[some (.ref l),some (.int o),some (.ref d),v3,some (.ref r),v5]/\uT r (L2.upd H' q (.lst (bs.map V.ref))) H3/\
      H3 r=some (.lst (((bs.take j).flatMap fun t=>as.filter fun x=>decide (ks (lU a 3 ord H x).x=ks (valAt (L2.upd H1 r (.lst [])) t))).map V.ref)))
     ⟨none,rfl,fun _ _ z _=>z,sTq _ _ hrl trivial⟩ (fun j σ H3 _ ⟨_,_,kb,_⟩=>bN.of (kb _ _ ao qr)) ?_ ?_⟩
    .rintro j x σ H3 hj ⟨v5,rfl,kb,Pk⟩
     obtain⟨t,ht,rfl⟩:∃t,bs[j]? =some t/\x=V.ref t:=by
      rw[gw] at hj
      cases z:bs[j]? with
      |none=>rw[z] at hj;cases hj
      |some y=>rw[z] at hj;exact⟨y,rfl,(dJ hj).symm⟩
     obtain⟨v,q1,q2,e,he,q3⟩:=a2 t (h1.mem_iff.mp (fZ ht))
     have tr:t≠r:=fun y=>by rw[y] at q1;rw[oK,ao] at q1;cases q1
     have q1':H1 t=some (.tup ((aZ v).map V.int)):=by
      have:=q1
      rw[oK,aD tr] at this;exact this
     have hd3:H3 d=some (.dT kvs):=kb _ _ (bq G.dict trivial rd.symm) rd.symm
     have ht3:H3 t=some (.tup ((ks v).map kV)):=by rw[Sd];exact kb _ _ (bq q1' trivial tr) tr
     obtain⟨x,hx,hxe⟩:∃x∈as,lU a 3 ord H x=e:=by
      rw[<-ee] at he
      exact uU.mp he
     cases hv:iJ kvs (ks v) with
     |none=>exact absurd (by rw[hxe,q3]) (G.none_ _ hv x (by rw[tk];exact hx))
     |some u=>
      obtain⟨_,g,rfl,gd,g0,gl⟩:=G.some_ _ _ hv
      rw[tk] at gl
      have gr:g≠r:=aJ gl hr1
      have hg3:H3 g=some (.lst ((as.filter fun x=>decide (ks (lU a 3 ord H x).x=ks v)).map V.ref)):=kb _ _ (bq gl trivial gr) gr
      refine⟨_,rfl,.inl ⟨rfl,_,bN.of Pk⟩,_,rfl,_,rfl,d,_,rfl,by rw[<-hv];exact zJ.t hd3 ht3,r,g,_,_,rfl,rfl,Pk,hg3,?_,some (.ref t),rfl,fun b u z nb=>?_,?_⟩
      .rw[aW,aW]
       have h3:=ZF (l:=bs) (j:=j+1) (f:=fun t=>as.filter fun x=>decide (ks (lU a 3 ord H x).x=ks (valAt (L2.upd H1 r (.lst [])) t)))
       rw[QS ht,dN,q2,wl] at h3
       exact cT (by omega)
      .rw[aD nb];exact kb b u z nb
      .rw[ao,QS ht,fP,q2]
    .rintro σ H3 ⟨v5,rfl,kb,Pk⟩
     rw[aW,lC] at Pk
     have s03:cQ H H3:=fun b u z n=>kb _ _ (e0q b u z n) (aJ z r0)
     have afd:∀u,(L2.upd H' q (.lst (bs.map V.ref))) r=some u->∃xs,u= .lst xs:=fun u z=>by
      rw[sTq _ _ hrl trivial] at z;cases z;exact⟨_,rfl⟩
     have tk3:∀{P:Addr} {pos:Pos} {qual:Str},TabAt (L2.upd H' q (.lst (bs.map V.ref))) P pos qual->TabAt H3 P pos qual:=fun{P pos qual} ⟨ps,z1,z2,z3⟩=>by
      have go:∀{b:Addr} {u:HO},(L2.upd H' q (.lst (bs.map V.ref))) b=some u->(∀xs,u≠ .lst xs)->H3 b=some u:=fun{b u} q n=>kb b u q fun z=>by
       obtain⟨xs,e⟩:=afd u (z▸q)
       exact n xs e
      exact⟨ps,go z1 (fun _ z=>by cases z),z2,z3.elim .inl fun⟨c',y1,y2⟩=> .inr ⟨c',y1,go y2 fun _ z=>by cases z⟩⟩
     refine⟨_,rfl,k H3 r s03 ⟨tk3 Tq.t1,tk3 Tq.t2,tk3 Tq.t3⟩ ⟨_,Pk,?_⟩⟩
     rw[<-wa]
     refine Fx fun x hx=>?_
     obtain⟨t,_,hxt⟩:=List.mem_flatMap.mp hx
     obtain⟨i,hi⟩:=List.mem_iff_getElem?.mp (yU.mp hxt).1
     obtain⟨e,he,hAt⟩:=cD hp hi
     rw[BW (cF 3) hAt (ok e (fZ he))]
     exact hAt.t s03
inductive Pb(a:Ad)(tb:Tb)(vs:List V)(H:Hp)(Q:VK)(E:XK):Prop
 |mk (sh d x:Addr) (st:bu) (v:bC) (o:Nat) (lq:vs=[.ref sh,.ref x,.int o]) (hh1:o<=2) (nY:v.kind=3) (hh3:cH a H sh d st) (wO:gZ a H x v) (Eo:g_ v) (Ph:v.l.length<=1000000) (ZM:TabsOk tb H) (hh8:zQ a tb sh d st {v with l:=v.l.foldr (rQ o) []} H Q E)
def T5(a:Ad)(tb:Tb):Sp:=fun vs H Q E=>Pb a tb vs H Q E
theorem Np(T:Txt K mg a)(L:yS K mg base a tb):cN w K mg base 9 a.pK ["shelf","version","order"] (T5 a tb):=by
 obtain⟨fd,F⟩:=T.tX.fn
 obtain⟨f1,G1,b1,k1⟩:=HW (w:=w) T L
 obtain⟨f2,G2,b2,k2⟩:=qX (w:=w) (base:=base) T
 obtain⟨f3,G3,b3,k3⟩:=iw (w:=w) (base:=base) T
 obtain⟨f4,G4,b4,_⟩:=p_ (w:=w) (base:=base) T
 refine⟨fd,F.ok1 Dq (fun vs H Q E h=>?_) (fun cdv A outer s H vs Q E hr h=>?_),F.binds (by walk_at "b3"),F.kp⟩
 .obtain⟨sh,d,x,st,v,o,rfl,_⟩:=h
  rfl
 .obtain⟨sh,d,x,st,v,o,rfl,ho,hk,S,hv,Vk,hn,Tt,kE,kQ⟩:=h
  have hr1:cI 1 _:=hr.mono (by decide)
  have hr2:cI 2 _:=hr.mono (by decide)
  have nd:=Dq.nd
  obtain⟨l,as,⟨dx,h1⟩,hl,hp⟩:=id hv
  have er:(bY {v with l:=v.l.foldr (rQ o) []}:Int)=(bY v:Int):=by
   rw[lM,lM]
   show((1+cW v.kind (v.l.foldr (rQ o) []):Nat):Int)=_
   rw[aac JC]
  refine⟨_,ak (cZ (aA G2 hr1 rfl T.jV.glob k2 b2 .nil cA (aj (pv 0) (aj (aG (pv 1) rfl) aq))))
   (ak (aK (i:=3) nd rfl (Or.inl rfl) (aA G1 hr rfl T.oY.glob k1 b1 .nil bG (aj (aG (pv 1) rfl) (aj (pv 2) aq))))
   (au (aL (aA G3 hr2 rfl T.d_.glob k3 b3 .nil cA (aj (pv 0) (aj (j5 T.aC.Vj G4 hr2 rfl T.aC.glob b4 .nil bG (aj (aG (pv 1) rfl) (aj (aG (pv 1) rfl) (aj (pv 3) (aj (aG (pv 1) rfl) aq))))) aq)))))),?_⟩
  refine⟨_,rfl,_,rfl,x,_,dx,_,_,rfl,h1,T.aC.cl,T.dh,gG,sh,d,st,_,rfl,S,fun full=>kE (er▸full) H ⟨jz.of cQ.refl,S,Tt⟩,fun nf=>?_⟩
  have nf':¬isFull st (bY {v with l:=v.l.foldr (rQ o) []}):=fun z=>nf (er▸z)
  refine⟨_,rfl,x,_,dx,_,_,rfl,h1,T.aC.cl,T.aP,aV,_,rfl,l,v.ord,o,v.l,rfl,ho,?_,by rw[<-hk];exact Vk.ents,hn,Tt,fun H1 q s1 T1 hq1=>?_⟩
  .rw[<-hk];exact⟨as,hl,hp⟩
  .refine⟨_,rfl,_,rfl,x,_,dx,_,_,rfl,s1 _ _ h1 trivial,T.aC.cl,T.bH,bQ,_,rfl,x,_,dx,_,_,rfl,s1 _ _ h1 trivial,T.aC.cl,T.bB,bM,_,rfl,_,rfl,x,_,dx,_,_,rfl,s1 _ _ h1 trivial,T.aC.cl,T.dh,gG,?_⟩
   refine fun z dz n1 n2 n3=>made n1 n2 rfl trivial fun H7 e7 ob=>⟨rfl,?_⟩
   rw[<-hk] at hq1
   obtain⟨js,hj1,hj2⟩:=hq1.same e7
   have sT:=s1.trans (cQ.of e7)
   refine⟨sh,d,z,st,{v with l:=v.l.foldr (rQ o) []},rfl,S.t sT,⟨q,js,by rw[er];exact ob,hj1,hj2⟩,fun full=>absurd full nf',fun nf H8 s8 S8=>kQ nf H8 ⟨(jz.of sT).trans (jz.ofS s8),S8,(T1.same e7).Dj (S.t sT) s8⟩⟩
theorem Ni(T:Txt K mg a)(L:yS K mg base a tb):cN w K mg base 10 a.jT ["shelf","wholes","rows"] (fun vs H Q E=>∃n o,uR a tb [n,o] [] (.sorted n o) vs H Q E):=by
 obtain⟨fd,F⟩:=T.yQ.fn
 obtain⟨f1,G1,b1,k1⟩:=Cw (w:=w) (base:=base) T
 obtain⟨f2,G2,b2,k2⟩:=eO (w:=w) (base:=base) T
 obtain⟨f3,G3,b3,k3⟩:=Np (w:=w) T L
 refine⟨fd,F.ok1 Dm (fun vs H Q E h=>?_) (fun cdv A outer s H vs Q E hr h=>?_),F.binds (by walk_at "b3"),F.kp⟩
 .obtain⟨n,o,sh,d,wl,rl,st,rfl,_⟩:=h
  rfl
 .obtain⟨n,o,sh,d,wl,rl,st,rfl,A0,out⟩:=h
  have hr1:cI 1 _:=hr.mono (by decide)
  have hr2:cI 2 _:=hr.mono (by decide)
  have nd:=Dm.nd
  have hn:n<=4294967295:=A0.small n (by simp)
  refine⟨_,ak (cZ (aA G1 hr1 rfl T.pO.glob k1 b1 .nil cA (aj (bf aU (pv 1) aB (fun _ _=>rfl)) aq)))
   (ak (aK (i:=3) nd rfl (Or.inl rfl) (aA G2 hr2 rfl T.dB.glob k2 b2 .nil cA (aj (pv 0) (aj (bf aU (pv 1) aB (fun _ _=>rfl)) (aj (iy (aj (a_ T.Q5) aq)) aq)))))
   (au (aL (bL (aj (a_ T.iu) (aj (aA G3 hr rfl T.tX.glob k3 b3 .nil cA (aj (pv 0) (aj (pv 3) (aj (bf aU (pv 1) aB (fun _ _=>rfl)) aq)))) aq)))))),?_⟩
  refine⟨_,rfl,wl,_,1,_,rfl,rfl,bN.of A0.w,rfl,o,rfl,fun z=>?_,fun ho=>?_⟩
  .exact out.no (why:= .range) (fO (by show(_&&decide (o<=2))=false;exact cY (decide_eq_false z))) (A0.kp fun _ _ z=>z)
  .have st1:bJ st (.sorted n o)=st.from n (fun(i:Nat)=>i==3) (fun(v:bC)=>some (v.l.foldr (rQ o) [])) .nothing:=by
    unfold bJ
    rw[if_neg (by show ¬(fH [n]&&decide (o<=2))=false;rw[small_one hn,decide_eq_true ho];simp)]
   refine⟨_,rfl,_,rfl,wl,_,0,_,rfl,rfl,bN.of A0.w,rfl,len1,fun t ht=>?_⟩
   have e3:=aF.upd (o:= .tup [V.int 3]) ht
   have A3:=A0.same e3
   refine⟨sh,d,t,st,n,[3],rfl,A3.S,ao,fun z=>out.no (why:= .absent) (by rw[st1,qp z]) (A0.kp e3),fun v y hv hy=>⟨fun z=>out.no (why:= .kind) (by rw[st1];exact sG hv (by simp at z;simp;omega)) (A0.kp e3),fun z=>?_⟩⟩
   have kz:v.kind=3:=by simp at z;omega
   have kt:=Nu (out.pre (cQ.of e3)) (v:={v with l:=v.l.foldr (rQ o) []}) (by rw[st1];exact qu hv (by simp[kz]) rfl)
   refine⟨_,rfl,_,rfl,_,rfl,wl,_,1,_,rfl,rfl,bN.of A3.w,rfl,sh,d,y,st,v,o,rfl,ho,kz,A3.S,hy,A0.O.get hv,qz (A0.O.len hv),A3.T,kt.1,fun nf H' kp=>⟨len2,kt.2 nf H' kp⟩⟩
end
end Kv
namespace HT
open PySem PyProof.Rows
theorem ab8(A:Around)(s:Shared)(a:Int)(t:Tok)(c:Int)(u:Tok)(prog:Program)(w:World)(E:Value->Shared->Prop)(Q:Value->Shared->Prop)(h:Q (.bool (decide (a<=c))) s):
  wpAny (model prog w) A (richCompare .LtE (.int a t) (.int c u)) Q E s:=
 (PyProof.Rows.le_int h:wpAny (model prog w) A (compareOp .LtE (.int a t) (.int c u)) Q E s)
def lexLe(x y:List Int):Bool:= !lexLt y x
theorem Xf(x y:Int)(xs ys:List Int):lexLe (x::xs) (y::ys)=if x=y then lexLe xs ys else decide (x<=y):=by
 unfold lexLe
 rw[zR]
 by_cases e:x=y
 .rw[if_pos e,if_pos e.symm]
 .rw[if_neg e,if_neg (fun z=>e z.symm)]
  by_cases h:y<x
  .rw[decide_eq_true h,decide_eq_false (by omega)];rfl
  .rw[decide_eq_false h,decide_eq_true (by omega)];rfl
section
open PySem.SeqAt
open PySem.AutoSeq1 (wpAny_loadPart')
open PySem.MeetsSeq PySem.MeetsSeq2 PySem.MeetsSeq3
theorem Qk(l b:Addr)(items items2:Array Value)(n n2:Nat)(dd dd2:Option Addr)(sl sl2:Array (Option Value))(ns ms:List Int)(hi:IntsAre items.toList ns)(hj:IntsAre items2.toList ms):
  Meets (Builtin.«tuple.__le__» ⟨[.ref l,.ref b],[]⟩)
   (fun _ R s=>s.heap.get? l=some {cls:= .type "tuple",dict:=dd,data:= .seq items n,slots:=sl}/\s.heap.get? b=some {cls:= .type "tuple",dict:=dd2,data:= .seq items2 n2,slots:=sl2}/\
    R (.ok (.ret (.bool (lexLe ns ms)))) s):=
 .of_wp fun prog w A R s h=>by
  obtain⟨hp,g,d,tk,os⟩:=s;obtain⟨hl,hb,h⟩:=h
  have f2:=AutoSeq1.sub_tuple_tuple
  have z1:items.size=ns.length:=by rw[<-hi.length];simp
  have z2:items2.size=ms.length:=by rw[<-hj.length];simp
  wp_walk using wpAny_loadPart' hl,wpAny_loadPart' hb,wpAny_forIn_list _ (fun rest b s'=>b.1=none/\s'=⟨hp,g,d,tk,os⟩/\∃(vs ws:List Value) (ns' Z6:List Int),rest=vs.zip ws/\
   IntsAre vs ns'/\IntsAre ws Z6/\ns'.length+items2.size=Z6.length+items.size/\R (.ok (.ret (.bool (lexLe ns' Z6)))) ⟨hp,g,d,tk,os⟩) _
  case turn=>
   rintro⟨y,x⟩ rest b s' ⟨hb',rfl,vs,ws,ns',Z6,hz,hvi,hwi,hlen,hR⟩
   cases hvi with
   |nil=>rw[List.zip_nil_left] at hz;cases hz
   |cons a t ae0=>
    cases hwi with
    |nil=>rw[List.zip_nil_right] at hz;cases hz
    |cons c u ae1=>
     rw[List.zip_cons_cons] at hz
     injection hz with hyx hrest
     injection hyx with hy hx
     subst hy hx
     rw[Xf] at hR
     simp only[pD] at hlen
     obtain⟨e,he,hiff⟩:=UT A.in1 ⟨hp,g,d,tk,os⟩ a t c u
     refine aR (he prog w _ _ ?_)
     cases e with
     |true=>
      rw[if_pos (hiff.mp rfl)] at hR
      wp_walk
      exact⟨rfl,rfl,_,_,_,_,hrest,ae0,ae1,by omega,hR⟩
     |false=>
      rw[if_neg (fun q=>absurd (hiff.mpr q) iY)] at hR
      have hri:=ab8 A.in1 ⟨hp,g,d,tk,os⟩ a t c u prog w
      wp_walk using hri
      exact⟨_,rfl,by simpa using hR⟩
  case fin=>
   rintro⟨b1,b2⟩ s' ⟨hb',rfl,vs,ws,ns',Z6,hz,hvi,hwi,hlen,hR⟩
   simp only at hb'
   subst hb'
   have hv:lexLe ns' Z6=decide (items.size<=items2.size):=by
    unfold lexLe
    cases hvi with
    |nil=>
     cases hwi with
     |nil=>
      simp only[BJ] at hlen
      rw[Eu]
      exact(decide_eq_true (by omega)).symm
     |cons c u hw=>
      simp only[BJ,pD] at hlen
      rw[Cp]
      exact(decide_eq_true (by omega)).symm
    |cons a t hv=>
     cases hwi with
     |nil=>
      simp only[BJ,pD] at hlen
      rw[Cq]
      exact(decide_eq_false (by omega)).symm
     |cons c u hw=>
      rw[List.zip_cons_cons] at hz
      cases hz
   rw[hv] at hR
   wp_walk
   exact⟨_,rfl,by simpa [Builtin.Tuple.tupleCompareSizes] using hR⟩
  case h=>
   exact⟨rfl,rfl,items.toList,items2.toList,ns,ms,rfl,hi,hj,by omega,h⟩
end
theorem Xd{prog:Program}{w:World}{A:Around}{E:Value->Shared->Prop}{s:Shared}{l b:Addr}{items items2:Array Value}{ns ms:List Int}{Q:Value->Shared->Prop}(hl:IsTup s.heap l items)(hb:IsTup s.heap b items2)(hi:IntsAre items.toList ns)(hj:IntsAre items2.toList ms)
  (hu:A.units<cLine)(h:Q (.bool (lexLe ns ms)) s):wpAny (model prog w) A (compareOp .LtE (.ref l) (.ref b)) Q E s:=by
 obtain⟨⟨cls,dd,data,sl⟩,ho,hc,n,hd⟩:=id hl
 obtain⟨⟨cls2,dd2,data2,sl2⟩,ho2,hc2,n2,hd2⟩:=id hb
 simp only at hc hd hc2 hd2
 subst hc hd hc2 hd2
 exact richCompare_meets_room (op:= .LtE) ⟨_,ho,rfl⟩ ⟨_,ho2,rfl⟩ PySem.F.slot_tuple_le PySem.F.entry_tuple_le (PySem.F.args_tuple_le_2 _ _) (Qk l b items items2 n n2 dd dd2 sl sl2 ns ms hi hj)
  ⟨ho,ho2,show Value.bool (lexLe ns ms)≠Value.notImplemented/\Q (.bool (lexLe ns ms)) s from⟨(fun x=>nomatch x),h⟩⟩ hu
end HT
namespace L2
open PySem PySem.Spec PyProof.Rows
def aoI(K:bw):R2:=fun x y H Q=>∃a b ns ms,x= .ref a/\y= .ref b/\eV K H a (ns.map V.int)/\eV K H b (ms.map V.int)/\Q (.bl (HT.lexLe ns ms)) H
theorem afj{X:Cx}(hu:X.A.units<cLine):Gw X (compareOp .LtE) (aoI X.K):=by
 intro pins s σ H x y v u Q I rx ry h
 obtain⟨a,b,ns,ms,rfl,rfl,ha,hb,q⟩:=h
 cases rx
 cases ry
 obtain⟨its,r1,p1,_⟩:=I.tuple ha
 obtain⟨its2,r2,p2,_⟩:=I.tuple hb
 have i1:IntsAre its.toArray.toList ns:=intsAre_of r1
 have i2:IntsAre its2.toArray.toList ms:=intsAre_of r2
 exact HT.Xd p1 p2 i1 i2 hu ⟨.bl (HT.lexLe ns ms),H,I,rfl,q⟩
end L2
namespace Kv
open PySem PySem.Spec PyProof.Rows L2
open CollNeutral (valueN valuesN)
theorem DQ:∀(l m:List aQ),valuesN (l++m)=valuesN l++valuesN m
 |[],m=>by rw[List.nil_append];rw[show valuesN []=[] by rw[valuesN]];rfl
 |v::r,m=>by rw[List.cons_append,valuesN,valuesN,DQ r m,ud]
theorem xM:∀l:List aQ,2*l.length<=(valuesN l).length
 |[]=>by simp
 |v::r=>by
  have h1:=oJ v
  have h2:=xM r
  rw[valuesN]
  simp;omega
def abK(v:aQ)(r:List aQ):List aQ:=match v with
 | .list l=>l++r
 |_=>r
theorem Q_(v:aQ)(r:List aQ):(valuesN (v::r)).drop (took v)=valuesN (abK v r):=by
 rw[valuesN]
 cases v with
 |truth b=>rw[valueN];rfl
 |num n e=>rw[valueN];rfl
 |text t=>
  rw[valueN,CollNeutral.bytesN,CollNeutral.rowN]
  show(2::_::(jY t++valuesN r)).drop (t.length+2)=valuesN r
  rw[X3,X3,List.drop_append_of_le_length (by rw[rT];exact cF _),<-rT,List.drop_length];rfl
 |list l=>
  rw[valueN]
  show valuesN l++valuesN r=valuesN (l++r)
  rw[DQ]
def tagOf:aQ->Int
 | .truth _=>0
 | .num _ _=>1
 | .text _=>2
 | .list _=>3
theorem Gu(v:aQ):(valueN v)[0]? =some (tagOf v):=by cases v<;>rw[valueN]<;>rfl
theorem Xb(v:aQ)(d:Nat):(jE d v).tag=tagOf v:=by cases v<;>rfl
section
variable{w:World}{K:bw}{mg:Str->Option Value}{base:Heap}{a:Ad}{tb:Tb}
inductive aew(vs:List V)(H:Hp)(Q:VK):Prop
 |mk (p:Addr) (ns:List Int) (i:Nat) (v:aQ) (r:List Int) (lq:vs=[.ref p,.int i]) (hh1:oK H p ns) (nY:ns.drop i=valueN v++r) (hh3:∀H',aF H H'->Q (.int ((i+(valueN v).length:Nat):Int)) H')
def agN:Sp:=fun vs H Q _=>aew vs H Q
theorem KZ(T:Txt K mg a):cN w K mg base 2 a.nA ["numbers","start"] agN:=by
 obtain⟨fd,F⟩:=T.rG.fn
 obtain⟨f1,G1,b1,k1⟩:=J7 (w:=w) (base:=base) T
 refine⟨fd,F.ok1 Bb (fun vs H Q E h=>?_) (fun cdv A outer s H vs Q E hr h=>?_),F.binds (by walk_at "b2"),F.kp⟩
 .obtain⟨p,ns,i,v,r,rfl,_⟩:=h
  rfl
 .obtain⟨p,ns,i,v,r,rfl,hS,hdr,k⟩:=h
  have nd:=Bb.nd
  refine⟨_,ak (aK (i:=2) nd rfl (Or.inl rfl) (pv 1)) (ak (aK (i:=3) nd rfl (Or.inl rfl) aB)
   (ak (pN own1 (aX CJ (pv 3) aB (bx _))
    (ak (XC (i:=3) nd rfl (Or.inl rfl) aB abC)
    (ak (cJ (aX jf (bf fj (pv 0) (pv 2) (fun _ _=>rfl)) (a_ T.vU) (bx _)) (au (XC (i:=3) nd rfl (Or.inl rfl) (bf fj (pv 0) (cB dj (pv 2) aB) (fun _ _=>rfl)) abB)) bF)
    (au (aK (i:=2) nd rfl (Or.inl rfl) (bf fj (aA G1 hr rfl T.wM.glob k1 b1 .nil bG (aj (pv 0) (aj (pv 2) aq))) aB (fun _ _=>rfl)))))))
   (au (aL (pv 2))))),?_⟩
  refine⟨_,rfl,?_⟩
  refine pP (fun σ H'=>∃(at_:Nat) (vs:List aQ),σ=[some (.ref p),some (.int i),some (.int at_),some (.int vs.length)]/\aF H H'/\ns.drop at_=valuesN vs++r/\at_+(valuesN vs).length=i+(valueN v).length)
   (fun σ _=>ns.length+1-Bl σ 2) ⟨i,[v],rfl,fun _ _ z=>z,?_,?_⟩ ?_ ?_
  .rw[valuesN,valuesN,hdr];simp
  .rw[valuesN,valuesN];simp
  .rintro σ H' ⟨at_,vs,rfl,e,hd,hsum⟩
   refine⟨_,rfl,_,_,rfl,rfl,_,rfl,Gy (fun c=>?_) (fun c=>?_)⟩
   .cases vs with
    |nil=>exact absurd (show(0:Int)<(([]:List aQ).length:Nat) from c) (by simp)
    |cons u rest=>
     have hd':ns.drop at_=valueN u++(valuesN rest++r):=by rw[hd,valuesN,ud]
     have sp:=YX 0 hd'
     have ao4:ns.getD at_ 0=tagOf u:=by rw[sp.2.1,Xb]
     have hlt:at_<ns.length:=by have:=sp.1;have:=zG u;omega
     have hlt1:at_+1<ns.length:=by have:=sp.1;have:=zG u;omega
     have g0:ns[at_]? =some (tagOf u):=by rw[pF hlt,<-ao4,JN,pF hlt];rfl
     have cnt:(((u::rest).length:Nat):Int)-1=(rest.length:Int):=by simp
     have h2:took u<=(valueN u).length:=by
      cases u with
      |truth b=>rw[valueN];exact cF _
      |num n e=>rw[valueN];exact cF _
      |text t=>rw[valueN];simp[CollNeutral.bytesN,CollNeutral.rowN,took]
      |list l=>rw[valueN];simp[took]
     have last:∀(z:Int),z=((abK u rest).length:Nat)->∀H1,aF H H1->(∃(at':Nat) (vs':List aQ),[some (V.ref p),some (V.int i),some (V.int ((at_+took u:Nat):Int)),some (V.int z)]=[some (.ref p),some (.int i),some (.int at'),some (.int vs'.length)]/\aF H H1/\ns.drop at'=valuesN vs'++r/\at'+(valuesN vs').length=i+(valueN v).length)/\ns.length+1-Bl [some (V.ref p),some (V.int i),some (V.int ((at_+took u:Nat):Int)),some (V.int z)] 2<ns.length+1-Bl [some (V.ref p),some (V.int i),some (V.int at_),some (V.int ((u::rest).length:Nat))] 2:=fun z hz H1 e1=>by
      refine⟨⟨at_+took u,abK u rest,by rw[hz],e1,?_,?_⟩,?_⟩
      .rw[<-Q_,<-vD,hd,List.drop_append_of_le_length]
       rw[valuesN,dN];omega
      .have h3:=congrArg List.length (Q_ u rest)
       rw[qm] at h3
       rw[valuesN,dN] at h3 hsum
       omega
      .show ns.length+1-((at_+took u:Nat):Int).toNat<ns.length+1-((at_:Nat):Int).toNat
       have:=zG u
       omega
     have es:(spanOf ns at_).2=((at_+took u:Nat):Int):=by
      obtain⟨_,_,_,x,_,_,hx,_⟩:=sp
      have:spanOf ns at_=((x:Int),((at_+took u:Nat):Int)):=hx
      rw[this]
     have fin:∀(D:Ends) (z:Int) (H1:Hp),aF H H1->(∀H2,aF H H2->D.nx [some (.ref p),some (.int i),some (.int ((at_+took u:Nat):Int)),some (.int z)] H2)->(afP (tOp (afu K) (Rw (Rt K) [] E0 (xH (vd 0) (xH (vd 2) O4))) (tC (.int 1))) (QX 2)) D [some (.ref p),some (.int i),some (.int at_),some (.int z)] H1:=fun D z H1 e1 kk=>by
      refine⟨_,rfl,_,rfl,p,ns,at_,rfl,.inr (eV.of (e1 _ _ hS)),hlt,fun _=>hlt1,fun H2 t e2 ht=>?_⟩
      refine⟨t,_,1,_,rfl,rfl,eV.of ht,rfl,?_⟩
      rw[es]
      exact kk H2 (e1.trans e2)
     refine⟨_,rfl,_,_,rfl,rfl,?_⟩
     refine⟨_,rfl,_,rfl,p,_,_,_,rfl,rfl,eV.of (e _ _ hS),kj g0,rfl,_,rfl,Iu (fun c2=>?_) (fun c2=>?_)⟩
     .cases u with
      |list l=>
       have g1:=list_count hd'
       have gA:O_ (ns.map V.int) ((at_:Int)+1)=some (V.int (l.length:Int)):=by
        have:=kj (ns:=ns) (j:=at_+1) g1
        rw[Int.natCast_add] at this
        exact this
       refine⟨_,rfl,_,rfl,_,rfl,_,_,rfl,rfl,p,_,_,_,rfl,rfl,eV.of (e _ _ hS),gA,_,_,rfl,rfl,?_⟩
       exact fin _ _ H' e (last _ (by show(((aQ.list l::rest).length:Nat):Int)-1+(l.length:Int)=((l++rest).length:Nat);simp;omega))
      |truth b=>exact absurd c2 (by show ¬(0:Int)=3;decide)
      |num n d=>exact absurd c2 (by show ¬(1:Int)=3;decide)
      |text t=>exact absurd c2 (by show ¬(2:Int)=3;decide)
     .refine fin _ _ H' e (last _ ?_)
      show(((u::rest).length:Nat):Int)-1=_
      rw[cnt]
      cases u with
      |list l=>exact absurd rfl c2
      |truth b=>rfl
      |num n d=>rfl
      |text t=>rfl
   .have hvs:vs=[]:=by
     cases vs with
     |nil=>rfl
     |cons x y=>exact absurd (show(0:Int)<(((x::y).length:Nat):Int) by simp) c
    subst hvs
    refine⟨_,rfl,?_⟩
    have q:=k H' e
    have:at_=i+(valueN v).length:=by rw[valuesN] at hsum;simpa using hsum
    rw[<-this] at q
    exact q
  .rintro σ H' Q1 Q2 h ⟨v1,e,i1,j1,e1,e2,b,e3,q⟩
   exact⟨v1,e,i1,j1,e1,e2,b,e3,h _ _ q⟩
end
inductive aaC(H:Hp)(l:Addr)(vs:List aQ):Prop
 |mk (ps:List Addr) (lq:H l=some (.lst (ps.map V.ref))) (hh1:Paired (fun p v=>oK H p (valueN v)) ps vs)
def RJ(H:Hp)(l:Addr)(vs:List aQ):Prop:=aaC H l vs
theorem Z3(l:List aQ):(valueN (.list l)).drop 2=valuesN l:=by rw[valueN];rfl
section
variable{w:World}{K:bw}{mg:Str->Option Value}{base:Heap}{a:Ad}{tb:Tb}
inductive aaK(vs:List V)(H:Hp)(Q:VK):Prop
 |mk (p:Addr) (l:List aQ) (lq:vs=[.ref p]) (hh1:oK H p (valueN (.list l))) (nY:(valueN (.list l)).length<=16000) (hh3:∀(H':Hp) (q:Addr),aF H H'->H q=none->RJ H' q l->Q (.ref q) H')
def adY:Sp:=fun vs H Q _=>aaK vs H Q
theorem CG(T:Txt K mg a):cN w K mg base 3 a.vQ ["numbers"] adY:=by
 obtain⟨fd,F⟩:=T.qg.fn
 obtain⟨f1,G1,b1,k1⟩:=KZ (w:=w) (base:=base) T
 refine⟨fd,F.ok1 Ks (fun vs H Q E h=>?_) (fun cdv A outer s H vs Q E hr h=>?_),F.binds (by walk_at "b1"),F.kp⟩
 .obtain⟨p,l,rfl,_⟩:=h
  rfl
 .obtain⟨p,l,rfl,hS,hlen,k⟩:=h
  have nd:=Ks.nd
  refine⟨_,ak (aK (i:=1) nd rfl (Or.inl rfl) (bL aq)) (ak (aK (i:=2) nd rfl (Or.inl rfl) aB)
   (ak (pN own1 (aX Ez (pv 2) (bZ bI rfl T.iR jC (aj (pv 0) aq)) (bx _))
    (ak (aK (i:=3) nd rfl (Or.inl rfl) (aA G1 hr rfl T.rG.glob k1 b1 .nil bG (aj (pv 0) (aj (pv 2) aq))))
    (ak (cZ (pM jJ vG vH jx (pv 1) (aj (k_ acg (pv 0) (gJ (pv 2)) (gJ (pv 3))) aq)))
    (au (aK (i:=2) nd rfl (Or.inl rfl) (pv 3))))))
   (au (aL (pv 1))))),?_⟩
  refine⟨len0,fun lp hlp=>?_⟩
  have tl:(valueN (.list l)).length=2+(valuesN l).length:=by rw[valueN];simp;omega
  refine pP (fun σ H'=>∃(i at_:Nat) (v3:Option V) (ps:List Addr),σ=[some (.ref p),some (.ref lp),some (.int at_),v3]/\aF H H'/\H' lp=some (.lst (ps.map V.ref))/\Paired (fun p v=>oK H' p (valueN v)) ps (l.take i)/\i<=l.length/\(valueN (.list l)).drop at_=valuesN (l.drop i)/\at_+(valuesN (l.drop i)).length=2+(valuesN l).length/\2<=at_)
   (fun σ _=>(valueN (.list l)).length-Bl σ 2) ⟨0,2,none,[],rfl,aF.upd hlp,ao,.nil,j_ _,Z3 l,rfl,cF _⟩ ?_ ?_
  .rintro σ H' ⟨i,at_,v3,ps,rfl,e,aby,hp,hi,hd,hsum,h2⟩
   have pl:=gC hp
   rw[lR] at pl
   have vp:=xM l
   refine⟨_,rfl,_,rfl,p,_,rfl,.inr (eV.of (e _ _ hS)),_,_,rfl,rfl,_,rfl,Gy (fun c=>?_) (fun c=>?_)⟩
   .have c':(at_:Int)<(((valueN (.list l)).map V.int).length:Nat):=c
    rw[aW] at c'
    have hne:l.drop i≠[]:=fun z=>by
     rw[z,valuesN] at hsum
     simp at hsum
     omega
    obtain⟨v,rest,hv⟩:∃v rest,l.drop i=v::rest:=by
     cases z:l.drop i with
     |nil=>exact absurd z hne
     |cons v rest=>exact⟨v,rest,rfl⟩
    have hil:i<l.length:=by
     by_cases z:i<l.length
     .exact z
     .exact absurd (List.drop_eq_nil_of_le (by omega)) hne
    have hrest:l.drop (i+1)=rest:=by rw[<-vD,hv];rfl
    have hvi:l[i]? =some v:=by
     have:=congrArg (fun z=>z[0]?) hv
     simpa [Bt] using this
    have hd':(valueN (.list l)).drop at_=valueN v++valuesN rest:=by rw[hd,hv,valuesN]
    rw[hv,valuesN,dN] at hsum
    have apd:=oJ v
    refine⟨_,rfl,_,rfl,p,_,at_,v,valuesN rest,rfl,e _ _ hS,hd',fun H1 e1=>?_⟩
    have e01:=e.trans e1
    refine⟨_,rfl,.inl ⟨rfl,_,bN.of (e1 _ _ aby)⟩,_,rfl,_,rfl,_,rfl,_,rfl,_,rfl,p,_,rfl,eV.of (e01 _ _ hS),?_,fun g hg=>?_⟩
    .rw[HT.rB,HT.rB,aW]
     omega
    .rw[Mh (by omega) (by omega),show at_+(valueN v).length-at_=(valueN v).length by omega,hd',List.take_left']
     .have nlp:lp≠g:=fun z=>by rw[<-z,e1 _ _ aby] at hg;cases hg
      refine⟨lp,_,_,rfl,rfl,aF.upd hg _ _ (e1 _ _ aby),fX (by rw[aW];omega),_,rfl,?_⟩
      have keep:∀{b:Addr} {u:HO},H1 b=some u->b≠lp->(L2.upd (L2.upd H1 g (.tup ((valueN v).map V.int))) lp (.lst (ps.map V.ref++[V.ref g]))) b=some u:=fun hb hn=>by
       rw[aD hn];exact aF.upd hg _ _ hb
      have nt:∀{b:Addr} {xs:List V},H1 b=some (.tup xs)->b≠lp:=fun hb=>vX hb (e1 _ _ aby) (by intro z;cases z)
      refine⟨⟨i+1,at_+(valueN v).length,_,ps++[g],rfl,fun b u z=>?_,?_,?_,by omega,?_,?_,by omega⟩,?_⟩
      .exact keep (e01 _ _ z) (aJ z hlp)
      .rw[ao,fP];rfl
      .rw[mY,hvi]
       refine Paired.snoc (Paired.iM hp fun _ _ z=>keep (e1 _ _ z) (nt (e1 _ _ z))) ?_
       show(L2.upd (L2.upd H1 g _) lp _) g=_
       rw[aD nlp.symm,ao]
      .rw[<-vD,hd',List.drop_left',hrest]
       rfl
      .rw[hrest];omega
      .show(valueN (.list l)).length-((at_+(valueN v).length:Nat):Int).toNat<(valueN (.list l)).length-((at_:Nat):Int).toNat
       omega
     .rfl
   .have c':¬(at_:Int)<(((valueN (.list l)).map V.int).length:Nat):=c
    rw[aW] at c'
    have vp2:=xM (l.drop i)
    have hil:i=l.length:=by
     rw[qm] at vp2
     omega
    rw[hil,lC] at hp
    exact⟨_,rfl,k H' lp e hlp ⟨ps,aby,hp⟩⟩
  .rintro σ H' Q1 Q2 h ⟨v1,e1,v2,e2,p1,ys,e3,e4,i1,j1,e5,e6,b,e7,q⟩
   exact⟨v1,e1,v2,e2,p1,ys,e3,e4,i1,j1,e5,e6,b,e7,h _ _ q⟩
def Rb(v:aQ)(m:Nat):Bool:=match v with
 | .list l=>decide (l.length=m)
 |_=>false
def qj:aQ->Bool
 | .num _ d=>decide (d=1)
 |_=>false
theorem abL(v:aQ)(m:Nat):Rb v m=(decide (tagOf v=3)&&decide ((valueN v).getD 1 0=(m:Int))):=by
 cases v with
 |list l=>
  rw[valueN]
  show decide (l.length=m)=(decide ((3:Int)=3)&&decide ((l.length:Int)=(m:Int)))
  rw[decide_eq_true (rfl:(3:Int)=3),LQ]
  exact decide_eq_decide.mpr (by omega)
 |truth b=>rfl
 |num n d=>rfl
 |text t=>rfl
inductive Zd(vs:List V)(H:Hp)(Q:VK):Prop
 |mk (p:Addr) (v:aQ) (m:Nat) (lq:vs=[.ref p,.int m]) (hh1:oK H p (valueN v)) (nY:Q (.bl (Rb v m)) H)
def acp:Sp:=fun vs H Q _=>Zd vs H Q
theorem Ey(T:Txt K mg a):cN w K mg base 1 a.qJ ["numbers","many"] acp:=by
 obtain⟨fd,F⟩:=T.rJ.fn
 refine⟨fd,F.ok1 Qe (fun vs H Q E h=>?_) (fun cdv A outer s H vs Q E hr h=>?_),F.binds (by walk_at "b2"),F.kp⟩
 .obtain⟨p,v,m,rfl,_⟩:=h
  rfl
 .obtain⟨p,v,m,rfl,hS,k⟩:=h
  refine⟨_,au (aL (Nz (qY jf (bf fj (pv 0) aB (fun _ _=>rfl)) (a_ T.vU) (bx _)) (NP (qY jf (bf fj (pv 0) aB (fun _ _=>rfl)) (pv 1) (bx _))))),?_⟩
  have g0:O_ ((valueN v).map V.int) (0:Int)=some (V.int (tagOf v)):=kj (j:=0) (Gu v)
  have hp:=oJ v
  have g1:O_ ((valueN v).map V.int) (1:Int)=some (V.int ((valueN v).getD 1 0)):=kj (j:=1) (by rw[JN,pF (by omega)];rfl)
  rw[abL] at k
  refine⟨_,rfl,p,_,0,_,rfl,rfl,eV.of hS,g0,rfl,_,rfl,Iu (fun c=>?_) (fun c=>?_)⟩
  .rw[decide_eq_true c,LQ] at k
   refine⟨_,rfl,p,_,1,_,rfl,rfl,eV.of hS,g1,_,rfl,rfl,?_⟩
   show Q (.bl (decide (V.int ((valueN v).getD 1 0)=V.int (m:Int)))) H
   rw[Hi,Bool.beq_eq_decide_eq];exact k
  .rw[decide_eq_false c,GF] at k
   exact k
inductive Wr(vs:List V)(H:Hp)(Q:VK):Prop
 |mk (p:Addr) (v:aQ) (lq:vs=[.ref p]) (hh1:oK H p (valueN v)) (nY:Q (.bl (qj v)) H)
def aar:Sp:=fun vs H Q _=>Wr vs H Q
theorem Vw(T:Txt K mg a):cN w K mg base 1 a.vN ["numbers"] aar:=by
 obtain⟨fd,F⟩:=T.wL.fn
 refine⟨fd,F.ok1 V2 (fun vs H Q E h=>?_) (fun cdv A outer s H vs Q E hr h=>?_),F.binds (by walk_at "b1"),F.kp⟩
 .obtain⟨p,v,rfl,_⟩:=h
  rfl
 .obtain⟨p,v,rfl,hS,k⟩:=h
  refine⟨_,au (aL (Nz (qY jf (bf fj (pv 0) aB (fun _ _=>rfl)) (a_ T.nZ) (bx _)) (NP (qY jf (bf fj (pv 0) aB (fun _ _=>rfl)) aB (bx _))))),?_⟩
  have g0:O_ ((valueN v).map V.int) (0:Int)=some (V.int (tagOf v)):=kj (j:=0) (Gu v)
  refine⟨_,rfl,p,_,0,_,rfl,rfl,eV.of hS,g0,rfl,_,rfl,Iu (fun c=>?_) (fun c=>?_)⟩
  .cases v with
   |num n d=>
    have g2:O_ ((valueN (.num n d)).map V.int) (2:Int)=some (V.int (d:Int)):=kj (j:=2) (by rw[valueN];rfl)
    refine⟨_,rfl,p,_,2,_,rfl,rfl,eV.of hS,g2,rfl,?_⟩
    show Q (.bl (decide (V.int (d:Int)=V.int 1))) H
    have e:decide (V.int (d:Int)=V.int 1)=decide (d=1):=decide_eq_decide.mpr ⟨fun z=>by have:=El.mp z;omega,fun z=>by rw[z];rfl⟩
    rw[e];exact k
   |truth b=>exact absurd c (by show ¬(0:Int)=1;decide)
   |text t=>exact absurd c (by show ¬(2:Int)=1;decide)
   |list l=>exact absurd c (by show ¬(3:Int)=1;decide)
  .have e2:qj v=false:=by
    cases v with
    |num n d=>exact absurd rfl c
    |truth b=>rfl
    |text t=>rfl
    |list l=>rfl
   rw[e2] at k;exact k
end
def mU(f:aQ):Bool:=match f with
 | .list [.num k 1,.num o 1,.list _]=>xq k o
 |_=>false
theorem U7(x y z:aQ):mU (.list [x,y,z])=(qj x&&(qj y&&(decide (tagOf z=3)&&xq ((valueN x).getD 1 0) ((valueN y).getD 1 0)))):=by
 cases x with
 |num k d=>
  cases y with
  |num o e=>
   cases z with
   |list l=>
    by_cases h1:d=1
    .subst h1
     by_cases h2:e=1
     .subst h2
      rw[valueN,valueN]
      show xq k o=_
      simp[qj,tagOf]
     .have:mU (.list [.num k 1,.num o e,.list l])=false:=by
       unfold mU
       split
       .rename_i h;simp at h;exact absurd h.2.1.2 h2
       .rfl
      rw[this]
      simp[qj,h2]
    .have:mU (.list [.num k d,.num o e,.list l])=false:=by
      unfold mU
      split
      .rename_i h;simp at h;exact absurd h.1.2 h1
      .rfl
     rw[this]
     simp[qj,h1]
   |truth b=>
    have:mU (.list [.num k d,.num o e,.truth b])=false:=by
     unfold mU
     split
     .rename_i h;simp at h
     .rfl
    rw[this];simp[tagOf]
   |num n q=>
    have:mU (.list [.num k d,.num o e,.num n q])=false:=by
     unfold mU
     split
     .rename_i h;simp at h
     .rfl
    rw[this];simp[tagOf]
   |text t=>
    have:mU (.list [.num k d,.num o e,.text t])=false:=by
     unfold mU
     split
     .rename_i h;simp at h
     .rfl
    rw[this];simp[tagOf]
  |truth b=>simp[mU,qj]
  |text t=>simp[mU,qj]
  |list l=>simp[mU,qj]
 |truth b=>simp[mU,qj]
 |text t=>simp[mU,qj]
 |list l=>simp[mU,qj]
theorem W3{f:aQ}(h:Rb f 3=false):mU f=false:=by
 cases f with
 |list l=>
  have h':¬l.length=3:=of_decide_eq_false h
  unfold mU
  split
  .rename_i e
   injection e with e
   subst e
   exact absurd rfl h'
  .rfl
 |truth b=>rfl
 |num n d=>rfl
 |text t=>rfl
section
variable{w:World}{K:bw}{mg:Str->Option Value}{base:Heap}{a:Ad}{tb:Tb}
inductive Zb(vs:List V)(H:Hp)(Q:VK):Prop
 |mk (p:Addr) (f:aQ) (lq:vs=[.ref p]) (hh1:oK H p (valueN f)) (nY:(valueN f).length<=16000) (hh3:∀H',aF H H'->Q (.bl (mU f)) H')
def acm:Sp:=fun vs H Q _=>Zb vs H Q
theorem Xv(T:Txt K mg a):cN w K mg base 4 a.y_ ["numbers"] acm:=by
 obtain⟨fd,F⟩:=T.Eh.fn
 obtain⟨f1,G1,b1,k1⟩:=Ey (w:=w) (base:=base) T
 obtain⟨f2,G2,b2,k2⟩:=CG (w:=w) (base:=base) T
 obtain⟨f3,G3,b3,k3⟩:=Vw (w:=w) (base:=base) T
 obtain⟨f4,G4,b4,k4⟩:=Nk (w:=w) (base:=base) T
 refine⟨fd,F.ok1 Ot (fun vs H Q E h=>?_) (fun cdv A outer s H vs Q E hr h=>?_),F.binds (by walk_at "b1"),F.kp⟩
 .obtain⟨p,f,rfl,_⟩:=h
  rfl
 .obtain⟨p,f,rfl,hS,hlen,k⟩:=h
  have hr1:cI 1 _:=hr.mono (by decide)
  have nd:=Ot.nd
  refine⟨_,ak (cJ (yp (vY (aA G1 hr1 rfl T.rJ.glob k1 b1 .nil bG (aj (pv 0) (aj aB aq))))) (au (aL NB)) bF)
   (ak (aK (i:=1) nd rfl (Or.inl rfl) (aA G2 hr rfl T.qg.glob k2 b2 .nil bG (aj (pv 0) aq)))
   (ak (cJ (PW.pt (Ig (yp (vY (aA G3 hr1 rfl T.wL.glob k3 b3 .nil bG (aj (bf aU (pv 1) aB (fun _ _=>rfl)) aq)))) (Ig (yp (vY (aA G3 hr1 rfl T.wL.glob k3 b3 .nil bG (aj (bf aU (pv 1) aB (fun _ _=>rfl)) aq)))) (Fy (aX HY (bf fj (bf aU (pv 1) aB (fun _ _=>rfl)) aB (fun _ _=>rfl)) (a_ T.vU) (bx _)))))) (au (aL NB)) bF)
   (au (aL (aA G4 hr1 rfl T.gR.glob k4 b4 .nil bG (aj (bf fj (bf aU (pv 1) aB (fun _ _=>rfl)) aB (fun _ _=>rfl)) (aj (bf fj (bf aU (pv 1) aB (fun _ _=>rfl)) aB (fun _ _=>rfl)) aq))))))),?_⟩
  refine⟨_,rfl,p,f,3,rfl,hS,_,rfl,?_⟩
  cases hb:Rb f 3 with
  |false=>
   have q:=k H fun _ _ z=>z
   rw[W3 hb] at q
   exact j4 q
  |true=>
   cases f with
   |truth b=>cases hb
   |num n d=>cases hb
   |text t=>cases hb
   |list l=>
    have hl3:l.length=3:=of_decide_eq_true hb
    obtain⟨x,y,z,rfl⟩:∃x y z,l=[x,y,z]:=by
     match l,hl3 with
     |[x,y,z],_=>exact⟨x,y,z,rfl⟩
    refine lG ⟨_,rfl,p,[x,y,z],rfl,hS,hlen,fun H1 q e1 hq ⟨ps,hps,hpp⟩=>?_⟩
    cases hpp with
    | @cons p1 _ _ _ t1 hpp=>
    cases hpp with
    | @cons p2 _ _ _ t2 hpp=>
    cases hpp with
    | @cons p3 _ _ _ t3 hpp=>
    cases hpp
    have fin:=k H1 e1
    rw[U7] at fin
    have vx:=oJ x
    have vy:=oJ y
    have g1:∀v:aQ,O_ ((valueN v).map V.int) (1:Int)=some (V.int ((valueN v).getD 1 0)):=fun v=>kj (j:=1) (by
     have:=oJ v
     rw[JN,pF (by omega)];rfl)
    refine⟨_,rfl,q,_,0,_,rfl,rfl,bN.of hps,rfl,p1,x,rfl,t1,_,rfl,?_⟩
    cases h1:qj x with
    |false=>
     rw[h1,GF] at fin
     exact j4 (j4 fin)
    |true=>
     refine lG ⟨_,rfl,q,_,1,_,rfl,rfl,bN.of hps,rfl,p2,y,rfl,t2,_,rfl,?_⟩
     cases h2:qj y with
     |false=>
      rw[h1,h2,LQ,GF] at fin
      exact j4 (j4 fin)
     |true=>
      rw[h1,h2,LQ,LQ] at fin
      refine lG ⟨_,rfl,q,_,2,_,rfl,rfl,bN.of hps,rfl,p3,_,0,_,rfl,rfl,eV.of t3,kj (j:=0) (Gu z),rfl,_,rfl,R6 (fun c=>?_) (fun c=>?_)⟩
      .rw[decide_eq_false c,GF] at fin
       exact fin
      .rw[decide_eq_true c,LQ] at fin
       refine⟨_,rfl,q,_,0,_,rfl,rfl,bN.of hps,rfl,p1,_,1,_,rfl,rfl,eV.of t1,g1 x,_,rfl,q,_,1,_,rfl,rfl,bN.of hps,rfl,p2,_,1,_,rfl,rfl,eV.of t2,g1 y,_,_,rfl,?_⟩
       exact fin
inductive Y8(a:Ad)(vs:List V)(H:Hp)(Q:VK):Prop
 |mk (x y:Addr) (kind ord:Nat) (e f:aN) (lq:vs=[.int kind,.ref x,.ref y]) (hh1:kind<=3) (nY:ord<=2) (hh3:bT a kind ord H x e) (wO:bT a kind ord H y f) (Eo:xr kind e) (Ph:xr kind f) (ZM:∀H',aF H H'->Q (.bl (IV kind ord f e)) H')
def ach(a:Ad):Sp:=fun vs H Q _=>Y8 a vs H Q
theorem Ep(T:Txt K mg a):cN w K mg base 1 a.jc ["kind","entry","former"] (ach a):=by
 obtain⟨fd,F⟩:=T.lO.fn
 refine⟨fd,F.ok1 Er (fun vs H Q E h=>?_) (fun cdv A outer s H vs Q E hr h=>?_),F.binds (by walk_at "b3"),F.kp⟩
 .obtain⟨x,y,kind,ord,e,f,rfl,_⟩:=h
  rfl
 .obtain⟨x,y,kind,ord,e,f,rfl,hk,ho,hx,hy,oe,of_,k⟩:=h
  refine⟨_,ak (cJ (aX Eb (pv 0) (iy (aj (a_ T.Ay) (aj (a_ T.Et) aq))) rfl) (au (aL (qY (Tc hr.O6) (aG (pv 2) rfl) (aG (pv 1) rfl) (bx _)))) bF)
   (au (aL (qY (afj hr.O6) (aG (pv 2) rfl) (aG (pv 1) rfl) (bx _)))),?_⟩
  refine⟨_,rfl,len2,fun t ht=>V7 (ks:=[0,1]) ao ⟨_,rfl,?_⟩⟩
  have e1:aF H (L2.upd H t (.tup [V.int 0,V.int 1])):=aF.upd ht
  have q:=k _ e1
  obtain⟨kx,vx,px,⟨dx,o1⟩,_,_,o4⟩:=hx.same e1
  obtain⟨ky,vy,py,⟨dy,r1⟩,_,_,r4⟩:=hy.same e1
  unfold plN at o4 r4
  by_cases c:(kind:Int)∈([0,1]:List Int)
  .have c':kind<=1:=by simp at c;omega
   rw[decide_eq_true c]
   rw[if_neg (by omega)] at o4 r4
   refine j4 ⟨_,rfl,y,_,dy,_,_,rfl,r1,T.bO.cl,T.cR,eG,_,rfl,x,_,dx,_,_,rfl,o1,T.bO.cl,T.cR,eG,py,px,_,_,rfl,rfl,eV.of r4,eV.of o4,?_⟩
   unfold IV at q
   rw[if_neg (by omega),if_neg (by omega),bV ho of_.1.good.2 oe.1.good.2] at q
   rw[qW]
   exact q
  .have c':2<=kind:=by simp at c;omega
   rw[decide_eq_false c]
   refine lG ⟨_,rfl,y,_,dy,_,_,rfl,r1,T.bO.cl,T.cR,eG,_,rfl,x,_,dx,_,_,rfl,o1,T.bO.cl,T.cR,eG,py,px,_,_,rfl,rfl,eV.of r4,eV.of o4,?_⟩
   unfold IV at q
   by_cases h3:kind=3
   .rw[if_pos h3] at q
    rw[if_pos h3,if_pos h3]
    exact q
   .rw[if_neg h3,if_pos (by omega),bV ho oe.1.good.2 of_.1.good.2] at q
    rw[if_neg h3,if_neg h3]
    show Q (.bl (!HT.lexLt (place ord e.k) (place ord f.k))) _
    rw[qW]
    exact q
end
theorem boot_all:bootBuiltins "all"=some (.builtin "all"):=by decide+kernel
theorem ace{c:TT}{t u:TS}{D:Ends}{σ:L2.St}{H:Hp}(P:L2.St->Hp->Prop)(rest:∀σ' H',P σ' H'->u D σ' H')(h:(∀σ' H',P σ' H'->u D σ' H')->c σ H fun b H1=>if b=true then t {D with nx:=u D} σ H1 else u D σ H1):aav (ad8 c t V9) u D σ H:=h rest
def M4(v:aQ):Bool:=decide (Coll.depth v<=40)&&decide (iK v<=4096)
theorem Ss{v:aQ}(h:mW v=true):iV v=M4 v:=by
 unfold iV M4 Coll.DEEP Coll.SIZE
 rw[h];rfl
theorem VL{l:List aQ}(h:zN l=true):∀v∈l,mW v=true:=by
 induction l with
 |nil=>intro v hv;simp at hv
 |cons x r ih=>
  rw[zN,lB] at h
  intro v hv
  rcases bU.mp hv with z|z
  .rw[z];exact h.1
  .exact ih h.2 v z
theorem CN{l:List aQ}(h:mW (.list l)=true):∀v∈l,mW v=true:=VL (by rw[mW] at h;exact h)
def ag9(kind:Nat)(v:aQ)(vs:List aQ):Prop:=((kind=0\/kind=2)/\∃k x,v= .list [k,x]/\vs=[k,x])\/(¬(kind=0\/kind=2)/\vs=[v])
theorem RZ{kind:Nat}(hk:kind=0\/kind=2){k x:aQ}:xQ kind (.list [k,x])=if(iV k&&iV x)=true then some ⟨k,x⟩ else none:=by
 unfold xQ
 rw[if_pos hk]
theorem WR{kind:Nat}(hk:kind=0\/kind=2){v:aQ}(h:Rb v 2=false):xQ kind v=none:=by
 unfold xQ
 rw[if_pos hk]
 cases v with
 |list l=>
  have h':¬l.length=2:=of_decide_eq_false h
  split
  .rename_i e
   injection e with e
   subst e
   exact absurd rfl h'
  .rfl
 |truth b=>rfl
 |num n d=>rfl
 |text t=>rfl
theorem UL{kind:Nat}(hk:¬(kind=0\/kind=2)){v:aQ}:xQ kind v=if iV v=true then some (o9 v) else none:=by
 unfold xQ
 rw[if_neg hk]
section
variable{w:World}{K:bw}{mg:Str->Option Value}{base:Heap}{a:Ad}{tb:Tb}
inductive aaM(a:Ad)(vs:List V)(H:Hp)(Q:VK):Prop
 |mk (p:Addr) (kind ord:Nat) (v:aQ) (lq:vs=[.int kind,.int ord,.ref p]) (hh1:kind<=3) (nY:ord<=2) (hh3:(kind=3->ord=0)) (wO:oK H p (valueN v)) (Eo:jh v) (Ph:mW v=true) (ZM:(xQ kind v=none->∀H',aF H H'->Q .non H')) (hh8:(∀e,xQ kind v=some e->∀(H':Hp) (z:Addr),aF H H'->bT a kind ord H' z e->Q (.ref z) H'))
def adZ(a:Ad):Sp:=fun vs H Q _=>aaM a vs H Q
theorem PJ(T:Txt K mg a):cN w K mg base 6 a.qM ["kind","order","numbers"] (adZ a):=by
 obtain⟨fd,F⟩:=T.vg.fn
 obtain⟨f1,G1,b1,k1⟩:=Ey (w:=w) (base:=base) T
 obtain⟨f2,G2,b2,k2⟩:=CG (w:=w) (base:=base) T
 obtain⟨f3,G3,b3,k3⟩:=yj (w:=w) (base:=base) T
 obtain⟨f4,G4,b4,k4⟩:=abS (w:=w) (base:=base) T
 obtain⟨f5,G5,b5,k5⟩:=yh (w:=w) (base:=base) T
 obtain⟨f6,G6,b6,k6⟩:=HS (w:=w) (base:=base) T
 obtain⟨f7,G7,b7,k7⟩:=zW (w:=w) (base:=base) T
 refine⟨fd,F.ok1 Fb (fun vs H Q E h=>?_) (fun cdv A outer s H vs Q E hr h=>?_),F.binds (by walk_at "b3"),F.kp⟩
 .obtain⟨p,kind,ord,v,rfl,_⟩:=h
  rfl
 .obtain⟨p,kind,ord,v,rfl,hk,ho,hrow,hS,hv,hpr,kN,kQ⟩:=h
  have hr1:cI 1 _:=hr.mono (by decide)
  have Pk:cI 3 _:=hr.mono (by decide)
  have Pn:cI 4 _:=hr.mono (by decide)
  have nd:=Fb.nd
  refine⟨_,ak (aK (i:=3) nd rfl (Or.inl rfl) (bL (aj (pv 2) aq)))
   (ak (cJ (aX Eb (pv 0) (iy (aj (a_ T.Ay) (aj (a_ T.qR) aq))) rfl)
    (ak (cJ (yp (vY (aA G1 hr1 rfl T.rJ.glob k1 b1 .nil bG (aj (pv 2) (aj aB aq))))) (au (aL Xy)) bF)
    (au (aK (i:=3) nd rfl (Or.inl rfl) (aA G2 Pk rfl T.qg.glob k2 b2 .nil bG (aj (pv 2) aq))))) bF)
   (ak (ab4 (i:=4) (te:=Rw (YW K a) [] E0 (xH (vd 5) O4)) rfl nd rfl rfl rfl (iQ (pv 3)) (yW (own:=[("part",5)]) (by kernel_rfl)) (fun _ _ _ _ _=>gH (i:=5) nd rfl (Or.inl rfl)) (fun _ _ _ _ _=>Ln) (fun _ _ _ _ _=>aA G3 Pn rfl T.oW.glob k3 b3 .nil bG (aj (pv 5) aq)))
   (ak (cJ (yp (vY (bZ (aeF rfl) rfl T.aaX boot_all (aj (VF (te:=Rw (aen a) [] E0 (xH (vd 6) O4)) rfl nd (iQ (pv 4)) (yW (own:=[("value",6)]) (by kernel_rfl)) (fun _ _ _ _ _=>gH (i:=6) nd rfl (Or.inl rfl)) (fun _ _ _ _ _=>Ln) (fun _ _ _ _ _=>aA G4 hr1 rfl T.gW.glob k4 b4 .nil bG (aj (pv 6) aq))) aq)))) (au (aL Xy)) bF)
   (ak (cJ (aX Eb (pv 0) (iy (aj (a_ T.Ay) (aj (a_ T.qR) aq))) rfl) (au (aL (aA G5 hr rfl T.oV.glob k5 b5 .nil bG (aj (bf aU (pv 4) aB (fun _ _=>rfl)) (aj (bf aU (pv 4) aB (fun _ _=>rfl)) (aj (pv 1) aq)))))) bF)
   (ak (cJ (aX jf (pv 0) (a_ T.Et) (bx _)) (au (aL (aA G6 hr rfl T.uD.glob k6 b6 .nil bG (aj (bf aU (pv 4) aB (fun _ _=>rfl)) (aj (pv 1) aq))))) bF)
   (au (aL (aA G7 Pk rfl T.qy.glob k7 b7 .nil bG (aj (bf aU (pv 4) aB (fun _ _=>rfl)) aq))))))))),?_⟩
  refine⟨_,rfl,len1,fun q0 hq0=>?_⟩
  have e0:=aF.upd (o:= .lst [V.ref p]) hq0
  dsimp only[QX]
  refine ace (fun σ' H1=>∃(q:Addr) (vs:List aQ),σ'=[some (.int kind),some (.int ord),some (.ref p),some (.ref q),none,none,none]/\aF H H1/\RJ H1 q vs/\ag9 kind v vs) ?_ (fun nx=>?_)
  ·
   rintro σ' H1 ⟨q,vs,rfl,e1,⟨ps,hps,hpp⟩,heb⟩
   have okp:∀u∈vs,jh u/\mW u=true:=fun u hu=>by
    rcases heb with⟨_,k,x,rfl,rfl⟩|⟨_,rfl⟩
    .exact⟨hv.part hu,CN hpr u hu⟩
    .rw[rN.mp hu];exact⟨hv,hpr⟩
   have vl:vs.length<=2:=by
    rcases heb with⟨_,k,x,rfl,rfl⟩|⟨_,rfl⟩
    .simp
    .simp
   have pl:=gC hpp
   refine⟨_,rfl,q,rfl,⟨_,bN.of hps⟩,fun D hD=>DY (K:=K) (a:=q) (xs:=ps.map V.ref) (fun i H2=>aF H1 H2/\∃xs:List Addr,H2 D=some (.lst (xs.map V.ref))/\Paired (wR a H2) xs (vs.take i))
    ⟨aF.upd hD,[],ao,by rw[JR];exact .nil⟩ (fun i H2 _ ⟨e,_⟩=>bN.of (e _ _ hps)) ?_ ?_⟩
   .rintro i x H2 hi ⟨e,xs,hxs,hxp⟩
    obtain⟨r,hr',rfl⟩:∃q,ps[i]? =some q/\x=V.ref q:=by
     rw[gw] at hi
     cases z:ps[i]? with
     |none=>rw[z] at hi;cases hi
     |some y=>rw[z] at hi;exact⟨y,rfl,(dJ hi).symm⟩
    obtain⟨u,hu,hT⟩:=cD hpp hr'
    obtain⟨ur,up⟩:=okp u (fZ hu)
    have xl:=gC hxp
    rw[lR] at xl
    refine⟨rfl,Ub ?_⟩
    refine⟨_,rfl,r,u,rfl,.inr (e _ _ hT),ur.1,ur.2,(fun bad=>by rw[up] at bad;cases bad),fun _ H3 y e3 hy=>?_⟩
    have nD:∀{b:Addr} {o:HO},H1 b=some o->b≠D:=fun hb=>aJ hb hD
    have Ve:H3 D=some (.lst (xs.map V.ref)):=e3 _ _ hxs
    have vk:∀{z:Addr} {t:aQ},wR a H3 z t->wR a (L2.upd H3 D (.lst (xs.map V.ref++[V.ref y]))) z t:=fun{z t} ⟨n,⟨dx,h1⟩,h2⟩=>
     ⟨n,⟨dx,by rw[aD (vX h1 Ve (by intro z;cases z))];exact h1⟩,by rw[aD (vX h2 Ve (by intro z;cases z))];exact h2⟩
    refine⟨_,Ve,fX (by rw[aW];omega),fun b o z=>?_,xs++[y],?_,?_⟩
    .rw[aD (nD z)];exact e3 _ _ (e _ _ z)
    .rw[ao,fP];rfl
    .rw[mY,hu]
     exact Paired.snoc (Paired.iM hxp fun _ _ z=>vk (z.same e3)) (vk hy)
   .rintro H2 ⟨e2,xs,hxs,hxp⟩
    rw[aW,pl,lC] at hxp
    have vJ:=e1.trans e2
    have xl:=gC hxp
    refine⟨_,rfl,D,rfl,⟨_,bN.of hxs⟩,fun D2 hD2=>DY (K:=K) (a:=D) (xs:=xs.map V.ref) (fun i H3=>aF H2 H3/\H3 D2=some (.lst (((vs.take i).map M4).map V.bl)))
     ⟨aF.upd hD2,ao⟩ (fun i H3 _ ⟨e,_⟩=>bN.of (e _ _ hxs)) ?_ ?_⟩
    .rintro i x H3 hi ⟨e,hd⟩
     obtain⟨r,hr',rfl⟩:∃q,xs[i]? =some q/\x=V.ref q:=by
      rw[gw] at hi
      cases z:xs[i]? with
      |none=>rw[z] at hi;cases hi
      |some y=>rw[z] at hi;exact⟨y,rfl,(dJ hi).symm⟩
     obtain⟨u,hu,hV⟩:=cD hxp hr'
     refine⟨rfl,Ub ?_⟩
     refine⟨_,rfl,r,u,rfl,hV.same e,_,hd,fX (by rw[aW,aW,lR];omega),fun b o z=>?_,?_⟩
     .rw[aD (aJ z hD2)];exact e b o z
     .rw[ao,mY,hu,fP,fP];rfl
    .rintro H3 ⟨e3,hd⟩
     rw[aW,xl,lC] at hd
     have Lf:=vJ.trans e3
     refine⟨D2,_,rfl,bN.of hd,_,rfl,?_⟩
     have Ve:=e3 _ _ hxs
     have Vd:Paired (wR a H3) xs vs:=Paired.iM hxp fun _ _ z=>z.same e3
     rcases heb with⟨hk2,kk,x,rfl,rfl⟩|⟨hk2,rfl⟩
     .have rk:=okp kk (by simp)
      have rx:=okp x (by simp)
      have eo:=RZ hk2 (k:=kk) (x:=x)
      rw[Ss rk.2,Ss rx.2] at eo
      have ea:(([kk,x]:List aQ).map M4).all id=(M4 kk&&M4 x):=by simp
      rw[ea]
      cases Vd with
      | @cons x1 _ _ _ v1 Vd=>
      cases Vd with
      | @cons x2 _ _ _ v2 Vd=>
      cases Vd
      cases hb:(M4 kk&&M4 x) with
      |false=>
       rw[hb] at eo
       exact j4 (kN eo H3 Lf)
      |true=>
       rw[hb] at eo
       refine lG ⟨_,rfl,len2,fun t ht=>V7 (ks:=[0,2]) ao ⟨_,rfl,?_⟩⟩
       have e4:aF H3 (L2.upd H3 t (.tup [V.int 0,V.int 2])):=aF.upd ht
       rw[decide_eq_true (show(kind:Int)∈([0,2]:List Int) by simp;omega)]
       refine j4 ⟨_,rfl,D,_,0,_,rfl,rfl,bN.of (e4 _ _ Ve),rfl,_,rfl,D,_,1,_,rfl,rfl,bN.of (e4 _ _ Ve),rfl,_,rfl,x1,x2,kk,x,ord,rfl,v1.same e4,v2.same e4,⟨rk.1.1,rk.1.2,rk.2⟩,fun H5 z e5 hz=>?_⟩
       exact kQ _ eo H5 z ((Lf.trans e4).trans e5) (hz kind hk2)
     .have eo:=UL hk2 (v:=v)
      rw[Ss hpr] at eo
      have ea:(([v]:List aQ).map M4).all id=M4 v:=by simp
      rw[ea]
      cases Vd with
      | @cons x1 _ _ _ v1 Vd=>
      cases Vd
      cases hb:M4 v with
      |false=>
       rw[hb] at eo
       exact j4 (kN eo H3 Lf)
      |true=>
       rw[hb] at eo
       refine lG ⟨_,rfl,len2,fun t ht=>V7 (ks:=[0,2]) ao ⟨_,rfl,?_⟩⟩
       have e4:aF H3 (L2.upd H3 t (.tup [V.int 0,V.int 2])):=aF.upd ht
       rw[decide_eq_false (show ¬(kind:Int)∈([0,2]:List Int) by simp;omega)]
       refine lG ⟨_,rfl,rfl,_,rfl,Iu (fun c=>?_) (fun c=>?_)⟩
       .have ck:kind=1:=by omega
        refine⟨_,rfl,D,_,0,_,rfl,rfl,bN.of (e4 _ _ Ve),rfl,_,rfl,x1,v,ord,rfl,v1.same e4,⟨hv.1,hv.2,hpr⟩,fun H5 z e5 hz=>?_⟩
        exact kQ _ eo H5 z ((Lf.trans e4).trans e5) (by rw[ck];exact hz)
       .have ck:kind=3:=by omega
        refine⟨_,rfl,D,_,0,_,rfl,rfl,bN.of (e4 _ _ Ve),rfl,x1,v,rfl,v1.same e4,fun H5 z e5 hz=>?_⟩
        exact kQ _ eo H5 z ((Lf.trans e4).trans e5) (by rw[ck,hrow ck];exact hz)
  .refine⟨_,rfl,len2,fun t ht=>V7 (ks:=[0,2]) ao ⟨_,rfl,?_⟩⟩
   have e1:=e0.trans (aF.upd (o:= .tup [V.int 0,V.int 2]) ht)
   have q0':(L2.upd (L2.upd H q0 (.lst [V.ref p])) t (.tup [V.int 0,V.int 2])) q0=some (.lst [V.ref p]):=aF.upd ht _ _ ao
   by_cases c:(kind:Int)∈([0,2]:List Int)
   .have hk2:kind=0\/kind=2:=by simp at c;omega
    rw[decide_eq_true c]
    refine j4 ⟨_,rfl,p,v,2,rfl,e1 _ _ hS,_,rfl,?_⟩
    cases hb:Rb v 2 with
    |false=>exact j4 (kN (WR hk2 hb) _ e1)
    |true=>
     cases v with
     |truth b=>cases hb
     |num n d=>cases hb
     |text t=>cases hb
     |list l=>
      have hl2:l.length=2:=of_decide_eq_true hb
      obtain⟨x,y,rfl⟩:∃x y,l=[x,y]:=by
       match l,hl2 with
       |[x,y],_=>exact⟨x,y,rfl⟩
      refine lG ⟨_,rfl,p,[x,y],rfl,e1 _ _ hS,hv.1,fun H2 q e2 hq hpa=>nx _ H2 ⟨q,[x,y],rfl,e1.trans e2,hpa,.inl ⟨hk2,x,y,rfl,rfl⟩⟩⟩
   .have hk2:¬(kind=0\/kind=2):=by simp at c;omega
    rw[decide_eq_false c]
    exact lG (nx _ _ ⟨q0,[v],rfl,e1,⟨[p],q0',.cons (e1 _ _ hS) .nil⟩,.inr ⟨hk2,rfl⟩⟩)
end
def glue(es:List aN)(r:Except Nat (List aN)):Except Nat (List aN):=match r with
 | .ok m=> .ok (es++m)
 | .error j=> .error j
theorem ZJ{kind o i:Nat}{es:List aN}{v:aQ}{r:List aQ}{e:aN}(he:xQ kind v=some e)(hf:((es.getLast?).map fun(a:aN)=>IV kind o a e).getD true=true):
  glue es (iW kind o i es.getLast? (v::r))=glue (es++[e]) (iW kind o (i+1) (es++[e]).getLast? r):=by
 rw[iW,he]
 dsimp only
 rw[if_neg (by rw[hf];simp),List.getLast?_append]
 show glue es (match iW kind o (i+1) (some e) r with| .ok l=> .ok (e::l)| .error j=> .error j)=glue (es++[e]) (iW kind o (i+1) (some e) r)
 cases iW kind o (i+1) (some e) r with
 |ok l=>simp[glue]
 |error j=>rfl
theorem ZG{kind o i:Nat}{es:List aN}{v:aQ}{r:List aQ}(he:xQ kind v=none):glue es (iW kind o i es.getLast? (v::r))= .error i:=by
 rw[iW,he];rfl
theorem abp{kind o i:Nat}{es:List aN}{v:aQ}{r:List aQ}{e:aN}(he:xQ kind v=some e)(hf:((es.getLast?).map fun(a:aN)=>IV kind o a e).getD true=false):glue es (iW kind o i es.getLast? (v::r))= .error i:=by
 rw[iW,he]
 dsimp only
 rw[if_pos hf];rfl
theorem G9{as:List Addr}{x:Addr}(h:as.getLast?=some x):O_ (as.map V.ref) (-1)=some (V.ref x):=by
 obtain⟨r,rfl⟩:∃r,as=r++[x]:=by
  have:=List.getLast?_eq_some_iff.mp h
  exact this
 unfold O_
 rw[fP,cU,GK,Vf]
 simp
theorem J8{α β:Type}{P:α->β->Prop}:∀{l:List α} {m:List β},Paired P l m->∀y,m.getLast?=some y->∃x,l.getLast?=some x/\P x y
 |_,_,.nil,y,h=>by cases h
 |_,_,.cons a .nil,y,h=>by cases h;exact⟨_,rfl,a⟩
 |_,_,.cons a (.cons b t),y,h=>by
  obtain⟨x,hx,hp⟩:=J8 (.cons b t) y (by simpa using h)
  exact⟨x,by simpa using hx,hp⟩
section
variable{w:World}{K:bw}{mg:Str->Option Value}{base:Heap}{a:Ad}{tb:Tb}
inductive Zf(a:Ad)(vs:List V)(H:Hp)(Q:VK):Prop
 |mk (lr:Addr) (kind ord:Nat) (us:List aQ) (lq:vs=[.int kind,.int ord,.ref lr]) (hh1:qC kind ord=true) (nY:RJ H lr us) (hh3:(∀u∈us,jh u/\mW u=true)) (wO:us.length<=16000) (Eo:∀(H':Hp) (q:Addr) (es:List aN),aF H H'->gK a kind ord H' q es->((es.length=us.length/\iW kind ord 0 none us= .ok es)\/(es.length<us.length/\iW kind ord 0 none us= .error es.length))->Q (.ref q) H')
def acr(a:Ad):Sp:=fun vs H Q _=>Zf a vs H Q
theorem K5(T:Txt K mg a):cN w K mg base 7 a.nR ["kind","order","rows"] (acr a):=by
 obtain⟨fd,F⟩:=T.rK.fn
 obtain⟨f1,G1,b1,k1⟩:=PJ (w:=w) (base:=base) T
 obtain⟨f2,G2,b2,k2⟩:=Ep (w:=w) (base:=base) T
 refine⟨fd,F.ok1 Bh (fun vs H Q E h=>?_) (fun cdv A outer s H vs Q E hr h=>?_),F.binds (by walk_at "b3"),F.kp⟩
 .obtain⟨lr,kind,ord,us,rfl,_⟩:=h
  rfl
 .obtain⟨lr,kind,ord,us,rfl,hko,⟨ps,hps,hpp⟩,hus,hlen,k⟩:=h
  have hk:=hko
  unfold qC at hk
  simp at hk
  have hrow:kind=3->ord=0:=fun z=>by
   rcases hk.2.2 with q|q
   .exact absurd z q
   .exact q
  have hr1:cI 1 _:=hr.mono (by decide)
  have nd:=Bh.nd
  have pl:=gC hpp
  refine⟨_,ak (aK (i:=3) nd rfl (Or.inl rfl) (bL aq))
   (ak (qZ own1 rfl (iQ (pv 2)) (gH (i:=4) nd rfl (Or.inl rfl))
    (ak (aK (i:=5) nd rfl (Or.inl rfl) (aA G1 hr rfl T.vg.glob k1 b1 .nil bG (aj (pv 0) (aj (pv 1) (aj (pv 4) aq)))))
    (ak (cJ (aX afi (pv 5) Xy (bx _)) (au (aL (pv 3))) bF)
    (ak (cJ (PW.pt (N8 (aX CJ (bZ bI rfl T.iR jC (aj (pv 3) aq)) aB (bx _)) (Ie (yp (vY (aA G2 hr1 rfl T.lO.glob k2 b2 .nil bG (aj (pv 0) (aj (pv 5) (aj (bf aU (pv 3) (YB T_ aB) (fun _ _=>rfl)) aq))))))))) (au (aL (pv 3))) bF)
    (au (cZ (pM jJ vG vH jx (pv 3) (aj (pv 5) aq))))))))
   (au (aL (pv 3)))),?_⟩
  refine⟨len0,fun le hle=>?_⟩
  refine⟨_,rfl,lr,rfl,⟨_,bN.of (aF.upd hle _ _ hps)⟩,kZ (K:=K) (a:=lr) (xs:=ps.map V.ref) (fun i σ H'=>∃(v4 v5:Option V) (es:List aN) (as:List Addr),σ=[some (.int kind),some (.int ord),some (.ref lr),some (.ref le),v4,v5]/\aF H H'/\H' le=some (.lst (as.map V.ref))/\Paired (bT a kind ord H') as es/\(∀e∈es,xr kind e)/\es.length=i/\iW kind ord 0 none us=glue es (iW kind ord i es.getLast? (us.drop i)))
   ⟨none,none,[],[],rfl,aF.upd hle,ao,.nil,fun e he=>by simp at he,rfl,?_⟩ (fun i σ H' _ ⟨_,_,_,_,_,e,_⟩=>bN.of (e _ _ hps)) ?_ ?_⟩
  .show _=glue [] (iW kind ord 0 none us)
   cases iW kind ord 0 none us<;>rfl
  .rintro i x σ H' hi ⟨v4,v5,es,as,rfl,e,hle',hp,ok,hel,hg⟩
   obtain⟨r,hr',rfl⟩:∃q,ps[i]? =some q/\x=V.ref q:=by
    rw[gw] at hi
    cases z:ps[i]? with
    |none=>rw[z] at hi;cases hi
    |some y=>rw[z] at hi;exact⟨y,rfl,(dJ hi).symm⟩
   obtain⟨u,hu,hT⟩:=cD hpp hr'
   obtain⟨ur,up⟩:=hus u (fZ hu)
   have hil:=(gn.mp hu).1
   have hdr:us.drop i=u::us.drop (i+1):=by
    rw[List.drop_eq_getElem_cons hil]
    congr 1
    exact(gn.mp hu).2
   rw[hdr] at hg
   have al:=gC hp
   have nle:∀{b:Addr} {o:HO},H b=some o->b≠le:=fun hb=>aJ hb hle
   refine⟨_,rfl,_,rfl,_,rfl,r,kind,ord,u,rfl,hk.1,hk.2.1,hrow,e _ _ hT,ur,up,fun hno H2 e2=>?_,fun en hen H2 z e2 hz=>?_⟩
   .refine⟨_,rfl,rfl,_,rfl,?_⟩
    rw[ZG hno] at hg
    exact j4 ⟨_,rfl,k H2 le es (e.trans e2) ⟨as,e2 _ _ hle',Paired.iM hp fun _ _ y=>y.same e2⟩ (.inr ⟨by omega,by rw[hg,hel]⟩)⟩
   .have agA:=Mt ur hen
    have aeY:Paired (bT a kind ord H2) as es:=Paired.iM hp fun _ _ y=>y.same e2
    have ZS:H2 le=some (.lst (as.map V.ref)):=e2 _ _ hle'
    refine⟨_,rfl,rfl,_,rfl,?_⟩
    refine lG ?_
    have app:((es.getLast?).map fun(a:aN)=>IV kind ord a en).getD true=true->∀H3,aF H2 H3->Tj (.ref le) [.ref z] H3 fun _ H4=>∃(v4 v5:Option V) (es':List aN) (as':List Addr),[some (V.int kind),some (V.int ord),some (V.ref lr),some (V.ref le),some (V.ref r),some (V.ref z)]=[some (.int kind),some (.int ord),some (.ref lr),some (.ref le),v4,v5]/\aF H H4/\H4 le=some (.lst (as'.map V.ref))/\Paired (bT a kind ord H4) as' es'/\(∀e∈es',xr kind e)/\es'.length=i+1/\iW kind ord 0 none us=glue es' (iW kind ord (i+1) es'.getLast? (us.drop (i+1))):=fun hf H3 e3=>by
     have abw:H3 le=some (.lst (as.map V.ref)):=e3 _ _ ZS
     have isl:∀{x:Addr} {y:aN},bT a kind ord H3 x y->bT a kind ord (L2.upd H3 le (.lst (as.map V.ref++[V.ref z]))) x y:=fun{x y} ⟨kx,vx,px,⟨dx,o1⟩,o2,o3,o4⟩=>
      ⟨kx,vx,px,⟨dx,by rw[aD (vX o1 abw (by intro z;cases z))];exact o1⟩,by rw[oK,aD (vX o2 abw (by intro z;cases z))];exact o2,by rw[oK,aD (vX o3 abw (by intro z;cases z))];exact o3,by rw[oK,aD (vX o4 abw (by intro z;cases z))];exact o4⟩
     refine⟨le,_,_,rfl,rfl,abw,fX (by rw[aW];omega),_,_,es++[en],as++[z],rfl,fun b o y=>?_,?_,?_,fun y hy=>?_,by simp[hel],?_⟩
     .rw[aD (nle y)];exact e3 _ _ (e2 _ _ (e _ _ y))
     .rw[ao,fP];rfl
     .exact Paired.snoc (Paired.iM aeY fun _ _ y=>isl (y.same e3)) (isl (hz.same e3))
     .rcases j9.mp hy with y1|y1
      .exact ok y y1
      .rw[rN.mp y1];exact agA
     .rw[hg,ZJ hen hf]
    refine⟨_,rfl,le,_,rfl,.inl (bN.of ZS),_,_,rfl,rfl,_,rfl,Gy (fun c=>?_) (fun c=>?_)⟩
    .have c':(0:Int)<((as.map V.ref).length:Nat):=c
     rw[aW,al] at c'
     obtain⟨f,hf⟩:∃f,es.getLast?=some f:=by
      cases q:es.getLast? with
      |none=>
       rw[List.getLast?_eq_none_iff] at q
       rw[q] at c'
       simp at c'
      |some f=>exact⟨f,rfl⟩
     obtain⟨y,hy1,hy2⟩:=J8 aeY f hf
     refine⟨_,rfl,_,rfl,_,rfl,_,rfl,le,_,_,_,rfl,rfl,bN.of ZS,G9 hy1,z,y,kind,ord,en,f,rfl,hk.1,hk.2.1,hz,hy2,agA,ok f (List.mem_of_getLast? hf),fun H3 e3=>⟨_,rfl,?_⟩⟩
     cases hb:IV kind ord f en with
     |true=>
      refine lG ⟨_,rfl,.inl ⟨rfl,_,bN.of (e3 _ _ ZS)⟩,_,rfl,app ?_ H3 e3⟩
      rw[hf];exact hb
     |false=>
      refine j4 ⟨_,rfl,k H3 le es ((e.trans e2).trans e3) ⟨as,e3 _ _ ZS,Paired.iM aeY fun _ _ y=>y.same e3⟩ (.inr ⟨by omega,?_⟩)⟩
      rw[hg,abp hen (by rw[hf];exact hb),hel]
    .have c':¬(0:Int)<((as.map V.ref).length:Nat):=c
     rw[aW,al] at c'
     have hes:es=[]:=List.length_eq_zero_iff.mp (by omega)
     refine lG ⟨_,rfl,.inl ⟨rfl,_,bN.of ZS⟩,_,rfl,app ?_ H2 (fun _ _ y=>y)⟩
     rw[hes];rfl
  .rintro σ H' ⟨v4,v5,es,as,rfl,e,hle',hp,ok,hel,hg⟩
   rw[aW,pl] at hel hg
   refine⟨_,rfl,k H' le es e ⟨as,hle',hp⟩ (.inl ⟨hel,?_⟩)⟩
   rw[hg,List.drop_length,iW]
   simp[glue]
theorem aau{st:bu}{f:aQ}(hp:mW f=true)(h:mU f=false):bJ st (.of_ f)=(st,.nothing):=by
 unfold bJ
 rw[if_neg (by show ¬zN [f]=false;rw[zN,zN,hp];simp)]
 show(match f with
  | .list [.num k 1,.num o 1,.list l]=>if k<0\/o<0\/qC k.toNat o.toNat=false then(st,mX.nothing) else match iW k.toNat o.toNat 0 none l with
   | .ok e=>st.make ⟨k.toNat,o.toNat,e⟩
   | .error i=>(st,.fault i)
  |_=>(st,.nothing))=_
 split
 .rename_i k o l
  have h':xq k o=false:=h
  rw[Q8] at h'
  rw[if_pos]
  by_cases c1:k<0
  .exact .inl c1
  .by_cases c2:o<0
   .exact .inr (.inl c2)
   .refine .inr (.inr ?_)
    rw[decide_eq_true (show 0<=k by omega),decide_eq_true (show 0<=o by omega)] at h'
    exact h'
 .rfl
theorem W4{f:aQ}(h:mU f=true):∃(k o:Nat) (l:List aQ),f= .list [.num k 1,.num o 1,.list l]/\qC k o=true:=by
 unfold mU at h
 split at h
 .rename_i k o l
  rw[Q8] at h
  simp only[lB,decide_eq_true_eq] at h
  refine⟨k.toNat,o.toNat,l,?_,h.2.2⟩
  have e1:((k.toNat:Nat):Int)=k:=by omega
  have e2:((o.toNat:Nat):Int)=o:=by omega
  rw[e1,e2]
 .cases h
theorem ad4{st:bu}{k o:Nat}{l:List aQ}(hp:mW (.list [.num k 1,.num o 1,.list l])=true)(h:qC k o=true):bJ st (.of_ (.list [.num k 1,.num o 1,.list l]))=match iW k o 0 none l with
  | .ok e=>st.make ⟨k,o,e⟩
  | .error i=>(st,.fault i):=by
 unfold bJ
 rw[if_neg (by show ¬zN [_]=false;rw[zN,zN,hp];simp)]
 show(if(k:Int)<0\/(o:Int)<0\/qC k o=false then(st,mX.nothing) else match iW k o 0 none l with
   | .ok e=>st.make ⟨k,o,e⟩
   | .error i=>(st,.fault i))=_
 rw[if_neg]
 rintro(z|z|z)
 .omega
 .omega
 .rw[h] at z;cases z
theorem Xu(T:Txt K mg a):cN w K mg base 8 a.sE ["shelf","wholes","rows"] (fun vs H Q E=>∃f,uR a tb [] [f] (.of_ f) vs H Q E):=by
 obtain⟨fd,F⟩:=T.JG.fn
 obtain⟨f1,G1,b1,k1⟩:=yj (w:=w) (base:=base) T
 obtain⟨f2,G2,b2,k2⟩:=Xv (w:=w) (base:=base) T
 obtain⟨f3,G3,b3,k3⟩:=CG (w:=w) (base:=base) T
 obtain⟨f4,G4,b4,k4⟩:=K5 (w:=w) (base:=base) T
 obtain⟨f5,G5,b5,k5⟩:=iw (w:=w) (base:=base) T
 obtain⟨f6,G6,b6,_⟩:=p_ (w:=w) (base:=base) T
 obtain⟨f7,G7,b7,k7⟩:=zV (w:=w) (base:=base) T
 refine⟨fd,F.ok1 Ol (fun vs H Q E h=>?_) (fun cdv A outer s H vs Q E hr h=>?_),F.binds (by walk_at "b3"),F.kp⟩
 .obtain⟨f,sh,d,wl,rl,st,rfl,_⟩:=h
  rfl
 .obtain⟨f,sh,d,wl,rl,st,rfl,A0,out⟩:=h
  have hr1:cI 1 _:=hr.mono (by decide)
  have hr2:cI 2 _:=hr.mono (by decide)
  have Pk:cI 3 _:=hr.mono (by decide)
  have Pn:cI 4 _:=hr.mono (by decide)
  have nd:=Ol.nd
  obtain⟨ras,hrl,hp⟩:=A0.r
  cases hp with
  | @cons r1 _ Tn _ p1 hp=>
  cases hp
  refine⟨_,ak (aK (i:=3) nd rfl (Or.inl rfl) (aG (aA G1 Pn rfl T.oW.glob k1 b1 .nil cA (aj (bf aU (pv 2) aB (fun _ _=>rfl)) aq)) rfl))
   (ak (cJ (yp (vY (aA G2 Pn rfl T.Eh.glob k2 b2 .nil bG (aj (pv 3) aq)))) (au (aL (bL (aj (a_ T.zm) aq)))) bF)
   (ak (aK (i:=4) nd rfl (Or.inl rfl) (aA G3 Pk rfl T.qg.glob k3 b3 .nil bG (aj (pv 3) aq)))
   (ak (aK (i:=5) nd rfl (Or.inl rfl) (bf fj (bf aU (pv 4) aB (fun _ _=>rfl)) aB (fun _ _=>rfl)))
   (ak (aK (i:=6) nd rfl (Or.inl rfl) (bf fj (bf aU (pv 4) aB (fun _ _=>rfl)) aB (fun _ _=>rfl)))
   (ak (aK (i:=7) nd rfl (Or.inl rfl) (aA G3 Pk rfl T.qg.glob k3 b3 .nil bG (aj (bf aU (pv 4) aB (fun _ _=>rfl)) aq)))
   (ak (aK (i:=8) nd rfl (Or.inl rfl) (aA G4 hr rfl T.rK.glob k4 b4 .nil bG (aj (pv 5) (aj (pv 6) (aj (pv 7) aq)))))
   (ak (cJ (aX Ez (bZ bI rfl T.iR jC (aj (pv 8) aq)) (bZ bI rfl T.iR jC (aj (pv 7) aq)) (bx _)) (au (aL (bL (aj (a_ T.R8) (aj (bZ bI rfl T.iR jC (aj (pv 8) aq)) aq))))) bF)
   (au (aL (bL (aj (a_ T.iu) (aj (aA G5 hr2 rfl T.d_.glob k5 b5 .nil cA (aj (pv 0) (aj (j5 T.aC.Vj G6 hr2 rfl T.aC.glob b6 .nil bG (aj (pv 5) (aj (pv 6) (aj (pv 8) (aj (cB dj aB (aA G7 hr1 rfl T.oX.glob k7 b7 .nil bG (aj (pv 8) aq))) aq))))) aq))) aq)))))))))))),?_⟩
  refine⟨_,rfl,rl,_,0,_,rfl,rfl,bN.of hrl,rfl,r1,f,rfl,.inl (bN.of p1.1),p1.2.1,p1.2.2,fun bad H' e=>?_,fun okp H1 x1 e1 hx1=>?_⟩
  .refine out.no (why:= .range) (fO ?_) (A0.kp e)
   show zN [f]=false
   rw[zN,bad];rfl
  .obtain⟨nx,⟨dx1,hx2⟩,hx3⟩:=hx1
   refine⟨x1,_,dx1,_,_,rfl,hx2,T.d8.cl,T.b_,dg,_,rfl,nx,f,rfl,hx3,p1.2.1,fun H2 e2=>⟨_,rfl,?_⟩⟩
   have vJ:=e1.trans e2
   cases hb:mU f with
   |false=>
    refine j4 ⟨len1,fun p hp=>out.yes (ans:= .nothing) (aau okp hb) (fun _ y=>by cases y) (A0.kp (vJ.trans (aF.upd hp))) ao⟩
   |true=>
    obtain⟨k,o,l,rfl,hko⟩:=W4 hb
    have st1:=ad4 (st:=st) okp hko
    have hrow:=p1.2
    have aeZ:jh (.list l):=hrow.part (by simp)
    have hpl:mW (.list l)=true:=CN okp (.list l) (by simp)
    refine lG ⟨_,rfl,nx,_,rfl,e2 _ _ hx3,hrow.1,fun H3 q e3 hq ⟨ps,hps,hpp⟩=>?_⟩
    cases hpp with
    | @cons p1' _ _ _ t1 hpp=>
    cases hpp with
    | @cons p2' _ _ _ t2 hpp=>
    cases hpp with
    | @cons p3' _ _ _ t3 hpp=>
    cases hpp
    have Lf:=vJ.trans e3
    have g1:∀n:Nat,O_ ((valueN (.num n 1)).map V.int) (1:Int)=some (V.int n):=fun n=>kj (j:=1) (by rw[valueN];rfl)
    refine⟨_,rfl,q,_,0,_,rfl,rfl,bN.of hps,rfl,p1',_,1,_,rfl,rfl,eV.of t1,g1 k,?_⟩
    refine⟨_,rfl,q,_,1,_,rfl,rfl,bN.of hps,rfl,p2',_,1,_,rfl,rfl,eV.of t2,g1 o,?_⟩
    refine⟨_,rfl,q,_,2,_,rfl,rfl,bN.of hps,rfl,p3',l,rfl,t3,aeZ.1,fun H4 q4 e4 hq4 agn=>?_⟩
    have UJ:=Lf.trans e4
    have ll:l.length<=16000:=by
     have h1:=aeZ.1
     have h2:=xM l
     rw[valueN] at h1
     simp at h1
     omega
    obtain⟨rs,hrs,hrp⟩:=id agn
    refine⟨_,rfl,_,rfl,_,rfl,q4,k,o,l,rfl,hko,agn,fun u hu=>⟨aeZ.part hu,CN hpl u hu⟩,ll,fun H5 q5 es e5 hl5 hres=>?_⟩
    have e05:=UJ.trans e5
    obtain⟨as,has,hap⟩:=id hl5
    have al:=gC hap
    have rl':=gC hrp
    refine⟨_,rfl,q5,_,rfl,.inl (bN.of has),_,rfl,q4,_,rfl,.inl (bN.of (e5 _ _ hrs)),_,_,rfl,rfl,_,rfl,Gy (fun c=>?_) (fun c=>?_)⟩
    .have c':(((as.map V.ref).length:Nat):Int)<(((rs.map V.ref).length:Nat):Int):=c
     rw[aW,aW,al,rl'] at c'
     have he:iW k o 0 none l= .error es.length:=by
      rcases hres with⟨z,_⟩|⟨_,z⟩
      .omega
      .exact z
     refine⟨_,rfl,q5,_,rfl,.inl (bN.of has),len2,fun p hp=>out.yes (ans:= .fault es.length) (by rw[st1,he]) (fun _ y=>by cases y) (A0.kp (e05.trans (aF.upd hp))) ?_⟩
     rw[ao,aW,al];rfl
    .have c':¬(((as.map V.ref).length:Nat):Int)<(((rs.map V.ref).length:Nat):Int):=c
     rw[aW,aW,al,rl'] at c'
     have he:iW k o 0 none l= .ok es/\es.length=l.length:=by
      rcases hres with⟨y,z⟩|⟨z,_⟩
      .exact⟨z,y⟩
      .omega
     refine⟨_,rfl,_,rfl,_,rfl,_,rfl,_,rfl,q5,k,o,es,rfl,hl5,by omega,fun H6 e6=>⟨_,_,rfl,rfl,?_⟩⟩
     refine fun y dy n1 n2 n3=>made n1 n2 rfl trivial fun H7 e7 ob=>⟨rfl,?_⟩
     have e57:=e6.trans e7
     have RX:=e05.trans e57
     have er:(1:Int)+(cW k es:Int)=(bY ⟨k,o,es⟩:Int):=by
      rw[lM]
      show _=((1+cW k es:Nat):Int)
      omega
     have kq:=sV A0.S A0.T out (v:=⟨k,o,es⟩) (by rw[st1,he.1]) RX
     exact⟨sh,d,y,st,⟨k,o,es⟩,rfl,A0.S.same RX,⟨q5,as,by rw[<-er];exact ob,e57 _ _ has,Paired.iM hap fun _ _ z=>z.same e57⟩,fun z=>kq.1 z H7 (fun _ _ z=>z),fun nf H' sS S'=>⟨len2,kq.2 nf H' sS S'⟩⟩
end
end Kv
namespace Kv
open PySem PySem.Spec PyProof.Rows L2
theorem Fi{o:Nat}(ho:o<=2){key:aQ}(hk:good key){l:List aN}(hl:bR l){k:Nat}(hc:Cut (fun e=>cO (pk o e) (place o key)== .lt) l k):Cut (before o key) l k:=hc.congr fun y hy=>by
 unfold before
 rw[bV ho (hl y hy).2 hk.2];rfl
section
variable{w:World}{K:bw}{mg:Str->Option Value}{base:Heap}{a:Ad}{tb:Tb}
theorem Sx(T:Txt K mg a):cN w K mg base 6 a.m6 ["shelf","wholes","rows"] (fun vs H Q E=>∃n k,uR a tb [n] [k] (.drop n k) vs H Q E):=by
 obtain⟨fd,F⟩:=T.Dr.fn
 obtain⟨f1,G1,b1,k1⟩:=dZ (w:=w) (base:=base) T
 obtain⟨f2,G2,b2,k2⟩:=eO (w:=w) (base:=base) T
 obtain⟨f3,G3,b3,k3⟩:=n8 (w:=w) (base:=base) T
 obtain⟨f4,G4,b4,k4⟩:=Cz (w:=w) (base:=base) T
 obtain⟨f5,G5,b5,k5⟩:=mq (w:=w) (base:=base) T
 refine⟨fd,F.ok1 Ik (fun vs H Q E h=>?_) (fun cdv A outer s H vs Q E hr h=>?_),F.binds (by walk_at "b3"),F.kp⟩
 .obtain⟨n,k,sh,d,wl,rl,st,rfl,_⟩:=h
  rfl
 .obtain⟨n,k,sh,d,wl,rl,st,rfl,A0,out⟩:=h
  have hr2:cI 2 _:=hr.mono (by decide)
  have Pk:cI 3 _:=hr.mono (by decide)
  have Pn:cI 4 _:=hr.mono (by decide)
  have nd:=Ik.nd
  obtain⟨ras,hrl,hp⟩:=A0.r
  cases hp with
  | @cons r1 _ Tn _ p1 hp=>
  cases hp
  have hn:n<=4294967295:=A0.small n (by simp)
  refine⟨_,ak (aK (i:=3) nd rfl (Or.inl rfl) (aA G1 hr rfl T.cu.glob k1 b1 .nil cA (aj (bf aU (pv 2) aB (fun _ _=>rfl)) aq)))
   (ak (aK (i:=4) nd rfl (Or.inl rfl) (aA G2 hr2 rfl T.dB.glob k2 b2 .nil cA (aj (pv 0) (aj (bf aU (pv 1) aB (fun _ _=>rfl)) (aj (iy (aj (a_ T.Ay) (aj (a_ T.Et) aq))) aq)))))
   (ak (aK (i:=5) nd rfl (Or.inl rfl) (aA G4 hr2 rfl T.tE.glob k4 b4 .nil bG (aj (pv 4) (aj (aA G3 Pn rfl T.jj.glob k3 b3 .nil bG (aj (aG (pv 3) rfl) (aj (aG (pv 4) rfl) aq))) aq))))
   (ak (cJ (aX jf (bf fj (pv 5) aB (fun _ _=>rfl)) (bf fj (pv 5) aB (fun _ _=>rfl)) (bx _)) (au (aL (bL (aj (a_ T.zm) aq)))) bF)
   (au (aL (bL (aj (a_ T.iu) (aj (aA G5 Pk rfl T.gU.glob k5 b5 .nil cA (aj (pv 0) (aj (pv 4) (aj (bf fj (pv 5) aB (fun _ _=>rfl)) (aj (bf fj (pv 5) aB (fun _ _=>rfl)) (aj (bL aq) aq)))))) aq)))))))),?_⟩
  refine⟨_,rfl,rl,_,0,_,rfl,rfl,bN.of hrl,rfl,r1,k,rfl,bN.of p1.1,p1.2.1,p1.2.2,fun bad H' e=>?_,fun PN H1 x1 e1 hx1=>?_⟩
  .exact out.no (why:= .range) (fO (by show(_&&_)=false;exact cY bad)) (A0.kp e)
  .have A2:=A0.same e1
   have vk:HJ k:=⟨PN,p1.2⟩
   have st1:bJ st (.drop n k)=st.from n (fun(i:Nat)=>decide (i<=1)) (fun(v:bC)=>if jK v.l k=true then some (v.l.filter fun(e:aN)=> !Coll.same e.k k) else none) .nothing:=by
    unfold bJ
    rw[if_neg (by show ¬(fH [n]&&iV k)=false;rw[small_one hn,PN];simp)]
   refine⟨_,rfl,_,rfl,wl,_,0,_,rfl,rfl,bN.of A2.w,rfl,len2,fun t ht=>?_⟩
   have e3:=e1.trans (aF.upd (o:= .tup [V.int 0,V.int 1]) ht)
   have A3:=A0.same e3
   refine⟨sh,d,t,st,n,[0,1],rfl,A3.S,ao,fun z=>out.no (why:= .absent) (by rw[st1,qp z]) (A0.kp e3),fun v y hv hy=>⟨fun z=>out.no (why:= .kind) (by rw[st1];exact sG hv (by simp at z;simp;omega)) (A0.kp e3),fun z=>?_⟩⟩
   have kz:v.kind<=1:=by simp at z;omega
   have Vk:=A0.O.get hv
   obtain⟨l,as,⟨dy,hy1⟩,_⟩:=id hy
   obtain⟨nx,⟨dx1,hx2⟩,hx3⟩:=hx1.same (aF.upd (o:= .tup [V.int 0,V.int 1]) ht)
   refine⟨_,rfl,_,rfl,x1,_,dx1,_,_,rfl,hx2,T.d8.cl,T.b_,dg,_,rfl,y,_,dy,_,_,rfl,hy1,T.aC.cl,T.bB,bM,nx,k,v.ord,rfl,.inr (eV.of hx3),vk.2.1,vk.2.2,vk.proper,fun H4 t4 e4 ZV=>?_⟩
   refine⟨y,t4,v,place v.ord k,rfl,by omega,hy.same e4,ZV,Vk.sorted (by omega),qz (A0.O.len hv),fun kk j H5 q hc hj e5 hq=>?_⟩
   have e05:=(e3.trans e4).trans e5
   have hc':=Fi Vk.ord vk.good Vk.bR hc
   have fc:=Mv Vk.ord vk.good Vk.bR (Vk.up kz) hc'
   refine⟨_,rfl,q,_,0,_,rfl,rfl,eV.of hq,rfl,_,rfl,q,_,1,_,rfl,rfl,eV.of hq,rfl,rfl,_,rfl,Iu (fun c=>?_) (fun c=>?_)⟩
   .have hjk:j=kk:=by omega
    have hno:∀e,v.l[kk]? =some e->pk v.ord e≠place v.ord k:=by
     rcases hj with⟨_,z⟩|⟨z,_⟩
     .omega
     .exact z
    have nk:=fc.2 fun e he q=>hno e he ((uK Vk.ord (a:=e) (b:=o9 k) (Vk.bR e (fZ he)) vk.good).mpr q)
    refine⟨len1,fun p hp=>out.yes (ans:= .nothing) (by rw[st1];exact Lg hv (by simp[kz]) (by rw[nk.2];rfl)) (fun _ y=>by cases y) (A0.kp (e05.trans (aF.upd hp))) ao⟩
   .have hf:(∃e,v.l[kk]? =some e/\pk v.ord e=place v.ord k)/\j=kk+1:=by
     rcases hj with z|⟨_,z⟩
     .exact z
     .exact absurd (by rw[z]) c
    obtain⟨⟨e,he,hpe⟩,rfl⟩:=hf
    have hl:=(gn.mp he).1
    have ft:=fc.1 e he ((uK Vk.ord (a:=e) (b:=o9 k) (Vk.bR e (fZ he)) vk.good).mp hpe)
    refine⟨_,rfl,_,rfl,_,rfl,q,_,0,_,rfl,rfl,eV.of hq,rfl,_,rfl,q,_,1,_,rfl,rfl,eV.of hq,rfl,len0,fun g hg=>?_⟩
    have e06:=e05.trans (aF.upd (o:= .lst []) hg)
    refine⟨sh,d,y,g,st,v,kk,kk+1,[],rfl,A0.S.same e06,hy.same ((e4.trans e5).trans (aF.upd hg)),⟨[],ao,.nil⟩,by simp,by omega,by omega,qz (A0.O.len hv),?_⟩
    have kq:=sV A0.S A0.T out (v:={v with l:=v.l.take kk++[]++v.l.drop (kk+1)}) (by rw[st1,vI,<-ft.2.2];exact qu hv (by simp[kz]) (by rw[ft.2.1];rfl)) e06
    exact⟨kq.1,fun nf H' sS S'=>⟨len2,kq.2 nf H' sS S'⟩⟩
theorem Vs(T:Txt K mg a):cN w K mg base 6 a.pY ["shelf","wholes","rows"] (fun vs H Q E=>∃n k,uR a tb [n] [k] (.get n k) vs H Q E):=by
 obtain⟨fd,F⟩:=T.Gm.fn
 obtain⟨f1,G1,b1,k1⟩:=dZ (w:=w) (base:=base) T
 obtain⟨f2,G2,b2,k2⟩:=eO (w:=w) (base:=base) T
 obtain⟨f3,G3,b3,k3⟩:=n8 (w:=w) (base:=base) T
 obtain⟨f4,G4,b4,k4⟩:=Cz (w:=w) (base:=base) T
 refine⟨fd,F.ok1 Kg (fun vs H Q E h=>?_) (fun cdv A outer s H vs Q E hr h=>?_),F.binds (by walk_at "b3"),F.kp⟩
 .obtain⟨n,k,sh,d,wl,rl,st,rfl,_⟩:=h
  rfl
 .obtain⟨n,k,sh,d,wl,rl,st,rfl,A0,out⟩:=h
  have hr2:cI 2 _:=hr.mono (by decide)
  have Pn:cI 4 _:=hr.mono (by decide)
  have nd:=Kg.nd
  obtain⟨ras,hrl,hp⟩:=A0.r
  cases hp with
  | @cons r1 _ Tn _ p1 hp=>
  cases hp
  have hn:n<=4294967295:=A0.small n (by simp)
  refine⟨_,ak (aK (i:=3) nd rfl (Or.inl rfl) (aA G1 hr rfl T.cu.glob k1 b1 .nil cA (aj (bf aU (pv 2) aB (fun _ _=>rfl)) aq)))
   (ak (aK (i:=4) nd rfl (Or.inl rfl) (aA G2 hr2 rfl T.dB.glob k2 b2 .nil cA (aj (pv 0) (aj (bf aU (pv 1) aB (fun _ _=>rfl)) (aj (iy (aj (a_ T.Ay) (aj (a_ T.Et) aq))) aq)))))
   (ak (aK (i:=5) nd rfl (Or.inl rfl) (aA G4 hr2 rfl T.tE.glob k4 b4 .nil bG (aj (pv 4) (aj (aA G3 Pn rfl T.jj.glob k3 b3 .nil bG (aj (aG (pv 3) rfl) (aj (aG (pv 4) rfl) aq))) aq))))
   (ak (cJ (aX jf (bf fj (pv 5) aB (fun _ _=>rfl)) (bf fj (pv 5) aB (fun _ _=>rfl)) (bx _)) (au (aL (bL (aj (a_ T.zm) aq)))) bF)
   (ak (aK (i:=6) nd rfl (Or.inl rfl) (bf aU (aG (pv 4) rfl) (bf fj (pv 5) aB (fun _ _=>rfl)) (fun _ _=>rfl)))
   (ak (cJ (aX jf (aG (pv 4) rfl) (a_ T.Et) (bx _)) (au (aL (cB n_ (bL (aj (a_ T.iu) aq)) (jy lD rfl T.xR boot_list (aj (aG (pv 6) rfl) aq))))) bF)
   (au (aL (cB n_ (bL (aj (a_ T.iu) aq)) (jy lD rfl T.xR boot_list (aj (aG (pv 6) rfl) aq)))))))))),?_⟩
  refine⟨_,rfl,rl,_,0,_,rfl,rfl,bN.of hrl,rfl,r1,k,rfl,bN.of p1.1,p1.2.1,p1.2.2,fun bad H' e=>?_,fun PN H1 x1 e1 hx1=>?_⟩
  .exact out.no (why:= .range) (fO (by show(_&&_)=false;exact cY bad)) (A0.kp e)
  .have A2:=A0.same e1
   have vk:HJ k:=⟨PN,p1.2⟩
   have st1:bJ st (.get n k)=st.ask n (fun(i:Nat)=>decide (i<=1)) fun(v:bC)=>match Coll.findKey v.l k with
     |some e=> .value e.x
     |none=> .nothing:=by
    unfold bJ
    rw[if_neg (by show ¬(fH [n]&&iV k)=false;rw[small_one hn,PN];simp)]
    rfl
   refine⟨_,rfl,_,rfl,wl,_,0,_,rfl,rfl,bN.of A2.w,rfl,len2,fun t ht=>?_⟩
   have e3:=e1.trans (aF.upd (o:= .tup [V.int 0,V.int 1]) ht)
   have A3:=A0.same e3
   refine⟨sh,d,t,st,n,[0,1],rfl,A3.S,ao,fun z=>out.no (why:= .absent) (by rw[st1,yV z]) (A0.kp e3),fun v y hv hy=>⟨fun z=>out.no (why:= .kind) (by rw[st1];exact Ur hv (by simp at z;simp;omega)) (A0.kp e3),fun z=>?_⟩⟩
   have kz:v.kind<=1:=by simp at z;omega
   have Vk:=A0.O.get hv
   obtain⟨l,as,⟨dy,hy1⟩,hy2,ZW⟩:=id hy
   obtain⟨nx,⟨dx1,hx2⟩,hx3⟩:=hx1.same (aF.upd (o:= .tup [V.int 0,V.int 1]) ht)
   refine⟨_,rfl,_,rfl,x1,_,dx1,_,_,rfl,hx2,T.d8.cl,T.b_,dg,_,rfl,y,_,dy,_,_,rfl,hy1,T.aC.cl,T.bB,bM,nx,k,v.ord,rfl,.inr (eV.of hx3),vk.2.1,vk.2.2,vk.proper,fun H4 t4 e4 ZV=>?_⟩
   refine⟨y,t4,v,place v.ord k,rfl,by omega,hy.same e4,ZV,Vk.sorted (by omega),qz (A0.O.len hv),fun kk j H5 q hc hj e5 hq=>?_⟩
   have e05:=(e3.trans e4).trans e5
   have e45:=e4.trans e5
   have hc':=Fi Vk.ord vk.good Vk.bR hc
   have fc:=Mv Vk.ord vk.good Vk.bR (Vk.up kz) hc'
   refine⟨_,rfl,q,_,0,_,rfl,rfl,eV.of hq,rfl,_,rfl,q,_,1,_,rfl,rfl,eV.of hq,rfl,rfl,_,rfl,Iu (fun c=>?_) (fun c=>?_)⟩
   .have hjk:j=kk:=by omega
    have hno:∀e,v.l[kk]? =some e->pk v.ord e≠place v.ord k:=by
     rcases hj with⟨_,z⟩|⟨z,_⟩
     .omega
     .exact z
    have nk:=fc.2 fun e he q=>hno e he ((uK Vk.ord (a:=e) (b:=o9 k) (Vk.bR e (fZ he)) vk.good).mpr q)
    refine⟨len1,fun p hp=>out.yes (ans:= .nothing) (by rw[st1,uf hv (by simp[kz]),nk.1]) (fun _ y=>by cases y) (A0.kp (e05.trans (aF.upd hp))) ao⟩
   .have hf:(∃e,v.l[kk]? =some e/\pk v.ord e=place v.ord k)/\j=kk+1:=by
     rcases hj with z|⟨_,z⟩
     .exact z
     .exact absurd (by rw[z]) c
    obtain⟨⟨e,he,hpe⟩,rfl⟩:=hf
    have hl:=(gn.mp he).1
    have ft:=fc.1 e he ((uK Vk.ord (a:=e) (b:=o9 k) (Vk.bR e (fZ he)) vk.good).mp hpe)
    have oke:=Vk.ents e (fZ he)
    obtain⟨z1,hz,kx,vx,px,⟨dz,o1⟩,o2,o3,o4⟩:=Paired.at ZW he
    have res:bJ st (.get n k)=(st,.value e.x):=by rw[st1,uf hv (by simp[kz]),ft.1]
    refine⟨_,rfl,y,_,dy,_,_,rfl,e45 _ _ hy1,T.aC.cl,T.aP,aV,_,rfl,q,_,0,_,rfl,rfl,eV.of hq,rfl,l,_,_,_,rfl,rfl,bN.of (e45 _ _ hy2),uZ (by rw[gw,hz];rfl),?_⟩
    refine⟨_,rfl,y,_,dy,_,_,rfl,e45 _ _ hy1,T.aC.cl,T.bH,bQ,rfl,_,rfl,Iu (fun c1=>?_) (fun c1=>?_)⟩
    .refine⟨len1,fun g hg=>?_⟩
     have e6:=aF.upd (o:= .lst [V.int 0]) hg
     refine⟨_,rfl,z1,_,dz,_,_,rfl,e6 _ _ (e45 _ _ o1),T.bO.cl,T.dG,eY,kx,_,rfl,.inr (eV.of (e6 _ _ (e45 _ _ o2))),fun g2 hg2=>?_⟩
     have c1':v.kind=1:=by omega
     have ek:sO v.kind e=aZ e.x:=by
      unfold sO
      rw[if_neg (by omega),oke.2.2 (.inl c1')]
     rw[ek]
     refine⟨g,g2,_,_,rfl,rfl,aF.upd hg2 _ _ ao,ao,cT (by have:=oke.2.1.2.1;simp;omega),fun g3 hg3=>?_⟩
     refine out.yes (ans:= .value e.x) res (fun _ y=>by cases y) (A0.kp (((e05.trans e6).trans (aF.upd hg2)).trans (aF.upd hg3))) ?_
     rw[ao];rfl
    .refine⟨len1,fun g hg=>?_⟩
     have e6:=aF.upd (o:= .lst [V.int 0]) hg
     refine⟨_,rfl,z1,_,dz,_,_,rfl,e6 _ _ (e45 _ _ o1),T.bO.cl,T.d9,gF,vx,_,rfl,.inr (eV.of (e6 _ _ (e45 _ _ o3))),fun g2 hg2=>?_⟩
     have c1':v.kind≠1:=fun z=>c1 (by rw[z];rfl)
     have ek:valN v.kind e=aZ e.x:=by
      unfold valN
      rw[if_neg c1']
     rw[ek]
     refine⟨g,g2,_,_,rfl,rfl,aF.upd hg2 _ _ ao,ao,cT (by have:=oke.2.1.2.1;simp;omega),fun g3 hg3=>?_⟩
     refine out.yes (ans:= .value e.x) res (fun _ y=>by cases y) (A0.kp (((e05.trans e6).trans (aF.upd hg2)).trans (aF.upd hg3))) ?_
     rw[ao];rfl
theorem SN(T:Txt K mg a):cN w K mg base 6 a.m_ ["shelf","wholes","rows"] (fun vs H Q E=>∃n k,uR a tb [n] [k] (.rank n k) vs H Q E):=by
 obtain⟨fd,F⟩:=T.Dv.fn
 obtain⟨f1,G1,b1,k1⟩:=dZ (w:=w) (base:=base) T
 obtain⟨f2,G2,b2,k2⟩:=eO (w:=w) (base:=base) T
 obtain⟨f3,G3,b3,k3⟩:=n8 (w:=w) (base:=base) T
 obtain⟨f4,G4,b4,k4⟩:=uW (w:=w) (base:=base) T
 refine⟨fd,F.ok1 Im (fun vs H Q E h=>?_) (fun cdv A outer s H vs Q E hr h=>?_),F.binds (by walk_at "b3"),F.kp⟩
 .obtain⟨n,k,sh,d,wl,rl,st,rfl,_⟩:=h
  rfl
 .obtain⟨n,k,sh,d,wl,rl,st,rfl,A0,out⟩:=h
  have hr1:cI 1 _:=hr.mono (by decide)
  have hr2:cI 2 _:=hr.mono (by decide)
  have Pn:cI 4 _:=hr.mono (by decide)
  have nd:=Im.nd
  obtain⟨ras,hrl,hp⟩:=A0.r
  cases hp with
  | @cons r1 _ Tn _ p1 hp=>
  cases hp
  have hn:n<=4294967295:=A0.small n (by simp)
  refine⟨_,ak (aK (i:=3) nd rfl (Or.inl rfl) (aA G1 hr rfl T.cu.glob k1 b1 .nil cA (aj (bf aU (pv 2) aB (fun _ _=>rfl)) aq)))
   (ak (aK (i:=4) nd rfl (Or.inl rfl) (aA G2 hr2 rfl T.dB.glob k2 b2 .nil cA (aj (pv 0) (aj (bf aU (pv 1) aB (fun _ _=>rfl)) (aj (iy (aj (a_ T.Ay) (aj (a_ T.Et) (aj (a_ T.qR) aq)))) aq)))))
   (au (aL (bL (aj (a_ T.iu) (aj (aA G4 hr1 rfl T.ji.glob k4 b4 .nil bG (aj (aG (pv 4) rfl) (aj (aA G3 Pn rfl T.jj.glob k3 b3 .nil bG (aj (aG (pv 3) rfl) (aj (aG (pv 4) rfl) aq))) aq))) aq)))))),?_⟩
  refine⟨_,rfl,rl,_,0,_,rfl,rfl,bN.of hrl,rfl,r1,k,rfl,bN.of p1.1,p1.2.1,p1.2.2,fun bad H' e=>?_,fun PN H1 x1 e1 hx1=>?_⟩
  .exact out.no (why:= .range) (fO (by show(_&&_)=false;exact cY bad)) (A0.kp e)
  .have A2:=A0.same e1
   have vk:HJ k:=⟨PN,p1.2⟩
   have st1:bJ st (.rank n k)=st.ask n (fun(i:Nat)=>decide (i<=2)) fun(v:bC)=> .number (v.l.filter fun(e:aN)=>Coll.order v.ord e.k k== .lt).length:=by
    unfold bJ
    rw[if_neg (by show ¬(fH [n]&&iV k)=false;rw[small_one hn,PN];simp)]
   refine⟨_,rfl,_,rfl,wl,_,0,_,rfl,rfl,bN.of A2.w,rfl,agw,fun t ht=>?_⟩
   have e3:=e1.trans (aF.upd (o:= .tup [V.int 0,V.int 1,V.int 2]) ht)
   have A3:=A0.same e3
   refine⟨sh,d,t,st,n,[0,1,2],rfl,A3.S,ao,fun z=>out.no (why:= .absent) (by rw[st1,yV z]) (A0.kp e3),fun v y hv hy=>⟨fun z=>out.no (why:= .kind) (by rw[st1];exact Ur hv (by simp at z;simp;omega)) (A0.kp e3),fun z=>?_⟩⟩
   have kz:v.kind<=2:=by simp at z;omega
   have Vk:=A0.O.get hv
   obtain⟨l,as,⟨dy,hy1⟩,hy2,ZW⟩:=id hy
   obtain⟨nx,⟨dx1,hx2⟩,hx3⟩:=hx1.same (aF.upd (o:= .tup [V.int 0,V.int 1,V.int 2]) ht)
   refine⟨_,rfl,y,_,dy,_,_,rfl,hy1,T.aC.cl,T.aP,aV,_,rfl,x1,_,dx1,_,_,rfl,hx2,T.d8.cl,T.b_,dg,_,rfl,y,_,dy,_,_,rfl,hy1,T.aC.cl,T.bB,bM,nx,k,v.ord,rfl,.inr (eV.of hx3),vk.2.1,vk.2.2,vk.proper,fun H4 t4 e4 ZV=>?_⟩
   refine⟨l,t4,v.kind,v.ord,v.l,place v.ord k,rfl,by omega,⟨as,e4 _ _ hy2,Paired.iM ZW fun _ _ z=>z.same e4⟩,ZV,Vk.sorted (by omega),qz (A0.O.len hv),fun kk hc=>?_⟩
   have hc':=Fi Vk.ord vk.good Vk.bR hc
   refine⟨len2,fun p hp=>out.yes (ans:= .number kk) (by rw[st1,uf hv (by simp[kz])];congr 2;exact hc'.count) (fun _ y=>by cases y) (A0.kp ((e3.trans e4).trans (aF.upd hp))) ?_⟩
   rw[ao];rfl
theorem Py(T:Txt K mg a):cN w K mg base 2 a.lE ["shelf","wholes","rows"] (fun vs H Q E=>∃n,uR a tb [n] [] (.count n) vs H Q E):=by
 obtain⟨fd,F⟩:=T.Ar.fn
 obtain⟨f1,G1,b1,k1⟩:=dX (w:=w) (base:=base) T
 refine⟨fd,F.ok1 Qc (fun vs H Q E h=>?_) (fun cdv A outer s H vs Q E hr h=>?_),F.binds (by walk_at "b3"),F.kp⟩
 .obtain⟨n,sh,d,wl,rl,st,rfl,_⟩:=h
  rfl
 .obtain⟨n,sh,d,wl,rl,st,rfl,A0,out⟩:=h
  have hn:n<=4294967295:=A0.small n (by simp)
  have st1:bJ st (.count n)=st.ask n Coll.any fun(v:bC)=> .number v.l.length:=by
   unfold bJ
   rw[if_neg (by show ¬fH [n]=false;rw[small_one hn];simp)]
  refine⟨_,au (aL (bL (aj (a_ T.iu) (aj (bZ bI rfl T.iR jC (aj (aG (aA G1 hr rfl T.cC.glob k1 b1 .nil cA (aj (pv 0) (aj (bf aU (pv 1) aB (fun _ _=>rfl)) aq))) rfl) aq)) aq)))),?_⟩
  refine⟨_,rfl,_,rfl,wl,_,0,_,rfl,rfl,bN.of A0.w,rfl,sh,d,st,n,rfl,A0.S,fun z=>out.no (why:= .absent) (by rw[st1,yV z]) (A0.kp fun _ _ z=>z),fun v y hv hy=>?_⟩
  obtain⟨l,as,⟨dy,hy1⟩,hy2,ZW⟩:=id hy
  refine⟨y,_,dy,_,_,rfl,hy1,T.aC.cl,T.aP,aV,l,_,rfl,.inl (bN.of hy2),len2,fun p hp=>?_⟩
  refine out.yes (ans:= .number v.l.length) (by rw[st1,uf hv rfl]) (fun _ y=>by cases y) (A0.kp (aF.upd hp)) ?_
  rw[ao,aW,gC ZW];rfl
theorem Xr(T:Txt K mg a):cN w K mg base 2 a.su ["shelf","wholes","rows"] (fun vs H Q E=>∃n i,uR a tb [n,i] [] (.at_ n i) vs H Q E):=by
 obtain⟨fd,F⟩:=T.JF.fn
 obtain⟨f1,G1,b1,k1⟩:=dX (w:=w) (base:=base) T
 obtain⟨f2,G2,b2,k2⟩:=zq (w:=w) (base:=base) T
 refine⟨fd,F.ok1 Og (fun vs H Q E h=>?_) (fun cdv A outer s H vs Q E hr h=>?_),F.binds (by walk_at "b3"),F.kp⟩
 .obtain⟨n,i,sh,d,wl,rl,st,rfl,_⟩:=h
  rfl
 .obtain⟨n,i,sh,d,wl,rl,st,rfl,A0,out⟩:=h
  have hn:n<=4294967295:=A0.small n (by simp)
  have hi:i<=4294967295:=A0.small i (by simp)
  have st1:bJ st (.at_ n i)=st.ask n Coll.any fun(v:bC)=>match v.l[i]? with
    |some e=> .value (qD v.kind e)
    |none=> .refused .absent:=by
   unfold bJ
   rw[if_neg (by show ¬fH [n,i]=false;rw[tD hn hi];simp)]
   rfl
  refine⟨_,ak (aK (i:=3) Og.nd rfl (Or.inl rfl) (aA G1 hr rfl T.cC.glob k1 b1 .nil cA (aj (pv 0) (aj (bf aU (pv 1) aB (fun _ _=>rfl)) aq))))
   (ak (cJ (aX abV (bf aU (pv 1) aB (fun _ _=>rfl)) (bZ bI rfl T.iR jC (aj (aG (pv 3) rfl) aq)) (bx _)) (au (jg T.rY rfl)) bF)
   (au (aL (cB n_ (bL (aj (a_ T.iu) aq)) (aA G2 hr rfl T.mz.glob k2 b2 .nil bG (aj (pv 3) (aj (bf aU (aG (pv 3) rfl) (bf aU (pv 1) aB (fun _ _=>rfl)) (fun _ _=>rfl)) aq))))))),?_⟩
  refine⟨_,rfl,_,rfl,wl,_,0,_,rfl,rfl,bN.of A0.w,rfl,sh,d,st,n,rfl,A0.S,fun z=>out.no (why:= .absent) (by rw[st1,yV z]) (A0.kp fun _ _ z=>z),fun v y hv hy=>?_⟩
  obtain⟨l,as,⟨dy,hy1⟩,hy2,ZW⟩:=id hy
  have pl:=gC ZW
  have Vk:=A0.O.get hv
  refine⟨_,rfl,wl,_,1,_,rfl,rfl,bN.of A0.w,rfl,_,rfl,y,_,dy,_,_,rfl,hy1,T.aC.cl,T.aP,aV,l,_,rfl,.inl (bN.of hy2),_,_,rfl,rfl,_,rfl,Gy (fun c=>?_) (fun c=>?_)⟩
  .have c':(((as.map V.ref).length:Nat):Int)<=(i:Int):=c
   rw[aW,pl] at c'
   refine out.no (why:= .absent) ?_ (A0.kp fun _ _ z=>z)
   rw[st1,uf hv rfl,List.getElem?_eq_none (by omega)];rfl
  .have c':¬(((as.map V.ref).length:Nat):Int)<=(i:Int):=c
   rw[aW,pl] at c'
   obtain⟨e,he⟩:∃e,v.l[i]? =some e:=⟨_,pF (by omega)⟩
   obtain⟨z1,hz,hz2⟩:=Paired.at ZW he
   have oke:=Vk.ents e (fZ he)
   refine⟨len1,fun g hg=>?_⟩
   have e1:=aF.upd (o:= .lst [V.int 0]) hg
   refine⟨_,rfl,_,rfl,y,_,dy,_,_,rfl,e1 _ _ hy1,T.aC.cl,T.aP,aV,_,rfl,wl,_,1,_,rfl,rfl,bN.of (e1 _ _ A0.w),rfl,l,_,_,_,rfl,rfl,bN.of (e1 _ _ hy2),uZ (by rw[gw,hz];rfl),y,z1,v,e,rfl,hy.same e1,hz2.same e1,oke,Vk.kind,fun H2 l2 e2 hn2 hl2=>?_⟩
   have ln:(aZ (qD v.kind e)).length<=33000:=by
    have q1:=oke.1.2.1
    have q2:=oke.2.1.2.1
    unfold qD
    split
    .rw[aZ,jA,jA,jA];simp;omega
    .omega
   refine⟨g,l2,_,_,rfl,rfl,e2 _ _ ao,hl2,cT (by simp;omega),fun g3 hg3=>?_⟩
   refine out.yes (ans:= .value (qD v.kind e)) (by rw[st1,uf hv rfl,he]) (fun _ y=>by cases y) (A0.kp ((e1.trans e2).trans (aF.upd hg3))) ?_
   rw[ao];rfl
theorem Pz(T:Txt K mg a):cN w K mg base 4 a.lF ["shelf","wholes","rows"] (fun vs H Q E=>∃n i m,uR a tb [n,i,m] [] (.range n i m) vs H Q E):=by
 obtain⟨fd,F⟩:=T.Av.fn
 obtain⟨f1,G1,b1,k1⟩:=dX (w:=w) (base:=base) T
 obtain⟨f2,G2,b2,k2⟩:=yg (w:=w) (base:=base) T
 obtain⟨f3,G3,b3,k3⟩:=S9 (w:=w) (base:=base) T
 refine⟨fd,F.ok1 yJ (fun vs H Q E h=>?_) (fun cdv A outer s H vs Q E hr h=>?_),F.binds (by walk_at "b3"),F.kp⟩
 .obtain⟨n,i,m,sh,d,wl,rl,st,rfl,_⟩:=h
  rfl
 .obtain⟨n,i,m,sh,d,wl,rl,st,rfl,A0,out⟩:=h
  have hr1:cI 1 _:=hr.mono (by decide)
  have hn:n<=4294967295:=A0.small n (by simp)
  have hi:i<=4294967295:=A0.small i (by simp)
  have hm:m<=4294967295:=A0.small m (by simp)
  have st1:bJ st (.range n i m)=st.from n Coll.any (fun(v:bC)=>if i+m<=v.l.length then some ((v.l.drop i).take m) else none) (.refused .absent):=by
   unfold bJ
   rw[if_neg (by show ¬fH [n,i,m]=false;rw[Ky hn hi hm];simp)]
  refine⟨_,ak (aK (i:=3) yJ.nd rfl (Or.inl rfl) (aA G1 hr1 rfl T.cC.glob k1 b1 .nil cA (aj (pv 0) (aj (bf aU (pv 1) aB (fun _ _=>rfl)) aq))))
   (ak (aK (i:=4) yJ.nd rfl (Or.inl rfl) (aA G2 hr1 rfl T.oO.glob k2 b2 .nil cA (aj (pv 3) (aj (bf aU (pv 1) aB (fun _ _=>rfl)) (aj (bf aU (pv 1) aB (fun _ _=>rfl)) aq)))))
   (au (aL (bL (aj (a_ T.iu) (aj (aA G3 hr rfl T.xK.glob k3 b3 .nil cA (aj (pv 0) (aj (pv 3) (aj (bf aU (pv 1) aB (fun _ _=>rfl)) (aj (pv 4) aq))))) aq)))))),?_⟩
  refine⟨_,rfl,_,rfl,wl,_,0,_,rfl,rfl,bN.of A0.w,rfl,sh,d,st,n,rfl,A0.S,fun z=>out.no (why:= .absent) (by rw[st1,qp z]) (A0.kp fun _ _ z=>z),fun v y hv hy=>?_⟩
  refine⟨_,rfl,_,rfl,wl,_,1,_,rfl,rfl,bN.of A0.w,rfl,_,rfl,wl,_,2,_,rfl,rfl,bN.of A0.w,rfl,y,v,i,m,rfl,hy,fun z=>?_,fun z=>?_⟩
  .exact out.no (why:= .absent) (by rw[st1,Lg hv rfl (if_neg z)];rfl) (A0.kp fun _ _ z=>z)
  .refine⟨_,rfl,_,rfl,_,rfl,wl,_,1,_,rfl,rfl,bN.of A0.w,rfl,_,rfl,sh,d,y,st,v,i,i+m,rfl,A0.S,hy,by omega,z,qz (A0.O.len hv),?_⟩
   have kq:=sV A0.S A0.T out (v:={v with l:=(v.l.drop i).take (i+m-i)}) (by rw[st1];exact qu hv rfl (by rw[if_pos z,show i+m-i=m by omega])) (fun _ _ z=>z)
   exact⟨kq.1,fun nf H' sS S'=>⟨len2,kq.2 nf H' sS S'⟩⟩
theorem S5(T:Txt K mg a):cN w K mg base 4 a.nq ["shelf","wholes","rows"] (fun vs H Q E=>∃n m,uR a tb [n,m] [] (.take n m) vs H Q E):=by
 obtain⟨fd,F⟩:=T.DG.fn
 obtain⟨f1,G1,b1,k1⟩:=eO (w:=w) (base:=base) T
 obtain⟨f2,G2,b2,k2⟩:=yg (w:=w) (base:=base) T
 obtain⟨f3,G3,b3,k3⟩:=mq (w:=w) (base:=base) T
 refine⟨fd,F.ok1 Al (fun vs H Q E h=>?_) (fun cdv A outer s H vs Q E hr h=>?_),F.binds (by walk_at "b3"),F.kp⟩
 .obtain⟨n,m,sh,d,wl,rl,st,rfl,_⟩:=h
  rfl
 .obtain⟨n,m,sh,d,wl,rl,st,rfl,A0,out⟩:=h
  have hr1:cI 1 _:=hr.mono (by decide)
  have hr2:cI 2 _:=hr.mono (by decide)
  have hn:n<=4294967295:=A0.small n (by simp)
  have hm:m<=4294967295:=A0.small m (by simp)
  have st1:bJ st (.take n m)=st.from n (fun(i:Nat)=>i==2) (fun(v:bC)=>if m<=v.l.length then some (v.l.drop m) else none) (.refused .absent):=by
   unfold bJ
   rw[if_neg (by show ¬fH [n,m]=false;rw[tD hn hm];simp)]
  refine⟨_,ak (aK (i:=3) Al.nd rfl (Or.inl rfl) (aA G1 hr2 rfl T.dB.glob k1 b1 .nil cA (aj (pv 0) (aj (bf aU (pv 1) aB (fun _ _=>rfl)) (aj (iy (aj (a_ T.qR) aq)) aq)))))
   (ak (aK (i:=4) Al.nd rfl (Or.inl rfl) (aA G2 hr1 rfl T.oO.glob k2 b2 .nil cA (aj (pv 3) (aj aB (aj (bf aU (pv 1) aB (fun _ _=>rfl)) aq)))))
   (au (aL (bL (aj (a_ T.iu) (aj (aA G3 hr rfl T.gU.glob k3 b3 .nil cA (aj (pv 0) (aj (pv 3) (aj aB (aj (pv 4) (aj (bL aq) aq)))))) aq)))))),?_⟩
  refine⟨_,rfl,_,rfl,wl,_,0,_,rfl,rfl,bN.of A0.w,rfl,len1,fun t ht=>?_⟩
  have e3:=aF.upd (o:= .tup [V.int 2]) ht
  have A3:=A0.same e3
  refine⟨sh,d,t,st,n,[2],rfl,A3.S,ao,fun z=>out.no (why:= .absent) (by rw[st1,qp z]) (A0.kp e3),fun v y hv hy=>⟨fun z=>out.no (why:= .kind) (by rw[st1];exact sG hv (by simp at z;simp;omega)) (A0.kp e3),fun z=>?_⟩⟩
  have kz:v.kind=2:=by simp at z;omega
  refine⟨_,rfl,_,rfl,wl,_,1,_,rfl,rfl,bN.of A3.w,rfl,y,v,0,m,rfl,hy,fun z=>?_,fun z=>?_⟩
  .exact out.no (why:= .absent) (by rw[st1,Lg hv (by simp[kz]) (if_neg (by omega))];rfl) (A0.kp e3)
  .refine⟨_,rfl,_,rfl,_,rfl,len0,fun g hg=>?_⟩
   have e4:=e3.trans (aF.upd (o:= .lst []) hg)
   refine⟨sh,d,y,g,st,v,0,0+m,[],rfl,A0.S.same e4,hy.same (aF.upd hg),⟨[],ao,.nil⟩,by simp,by omega,z,qz (A0.O.len hv),?_⟩
   have kq:=sV A0.S A0.T out (v:={v with l:=v.l.take 0++[]++v.l.drop (0+m)}) (by rw[st1];exact qu hv (by simp[kz]) (by rw[if_pos (by omega)];simp)) e4
   exact⟨kq.1,fun nf H' sS S'=>⟨len2,kq.2 nf H' sS S'⟩⟩
theorem Vr(T:Txt K mg a):cN w K mg base 6 a.pX ["shelf","wholes","rows"] (fun vs H Q E=>∃n k x,uR a tb [n] [k,x] (.add n k x) vs H Q E):=by
 obtain⟨fd,F⟩:=T.Gk.fn
 obtain⟨f1,G1,b1,k1⟩:=dZ (w:=w) (base:=base) T
 obtain⟨f2,G2,b2,k2⟩:=eO (w:=w) (base:=base) T
 obtain⟨f3,G3,b3,k3⟩:=yh (w:=w) (base:=base) T
 obtain⟨f4,G4,b4,k4⟩:=Az (w:=w) (base:=base) T
 obtain⟨f5,G5,b5,k5⟩:=mq (w:=w) (base:=base) T
 refine⟨fd,F.ok1 Kf (fun vs H Q E h=>?_) (fun cdv A outer s H vs Q E hr h=>?_),F.binds (by walk_at "b3"),F.kp⟩
 .obtain⟨n,k,x,sh,d,wl,rl,st,rfl,_⟩:=h
  rfl
 .obtain⟨n,k,x,sh,d,wl,rl,st,rfl,A0,out⟩:=h
  have hr1:cI 1 _:=hr.mono (by decide)
  have hr2:cI 2 _:=hr.mono (by decide)
  have Pk:cI 3 _:=hr.mono (by decide)
  have nd:=Kf.nd
  obtain⟨ras,hrl,hp⟩:=A0.r
  cases hp with
  | @cons r1 _ Tn _ p1 hp=>
  cases hp with
  | @cons r2 _ agJ _ p2 hp=>
  cases hp
  have hn:n<=4294967295:=A0.small n (by simp)
  refine⟨_,ak (aK (i:=3) nd rfl (Or.inl rfl) (aA G1 hr rfl T.cu.glob k1 b1 .nil cA (aj (bf aU (pv 2) aB (fun _ _=>rfl)) aq)))
   (ak (aK (i:=4) nd rfl (Or.inl rfl) (aA G1 hr rfl T.cu.glob k1 b1 .nil cA (aj (bf aU (pv 2) aB (fun _ _=>rfl)) aq)))
   (ak (aK (i:=5) nd rfl (Or.inl rfl) (aA G2 hr2 rfl T.dB.glob k2 b2 .nil cA (aj (pv 0) (aj (bf aU (pv 1) aB (fun _ _=>rfl)) (aj (iy (aj (a_ T.qR) aq)) aq)))))
   (ak (aK (i:=6) nd rfl (Or.inl rfl) (aA G3 hr rfl T.oV.glob k3 b3 .nil bG (aj (pv 3) (aj (pv 4) (aj (aG (pv 5) rfl) aq)))))
   (ak (aK (i:=7) nd rfl (Or.inl rfl) (aA G4 hr1 rfl T.lg.glob k4 b4 .nil bG (aj (aG (pv 5) rfl) (aj (aG (pv 6) rfl) aq))))
   (au (aL (bL (aj (a_ T.iu) (aj (aA G5 Pk rfl T.gU.glob k5 b5 .nil cA (aj (pv 0) (aj (pv 5) (aj (pv 7) (aj (pv 7) (aj (bL (aj (pv 6) aq)) aq)))))) aq))))))))),?_⟩
  refine⟨_,rfl,rl,_,0,_,rfl,rfl,bN.of hrl,rfl,r1,k,rfl,bN.of p1.1,p1.2.1,p1.2.2,fun bad H' e=>?_,fun PN H1 x1 e1 hx1=>?_⟩
  .exact out.no (why:= .range) (fO (by show(_&&(_&&_))=false;exact cY (eX bad))) (A0.kp e)
  .refine⟨_,rfl,rl,_,1,_,rfl,rfl,bN.of (e1 _ _ hrl),rfl,r2,x,rfl,bN.of (e1 _ _ p2.1),p2.2.1,p2.2.2,fun bad H' e=>?_,fun okx H2 x2 e2 hx2=>?_⟩
   .exact out.no (why:= .range) (fO (by show(_&&(_&&_))=false;exact cY (cY bad))) (A0.kp (e1.trans e))
   .have vJ:=e1.trans e2
    have A2:=A0.same vJ
    have vk:HJ k:=⟨PN,p1.2⟩
    have vx:HJ x:=⟨okx,p2.2⟩
    have st1:bJ st (.add n k x)=st.from n (fun(i:Nat)=>i==2) (fun(v:bC)=>some (Coll.addIn v.ord ⟨k,x⟩ v.l)) .nothing:=by
     unfold bJ
     rw[if_neg (by show ¬(fH [n]&&(iV k&&iV x))=false;rw[small_one hn,PN,okx];simp)]
    refine⟨_,rfl,_,rfl,wl,_,0,_,rfl,rfl,bN.of A2.w,rfl,len1,fun t ht=>?_⟩
    have e3:=vJ.trans (aF.upd (o:= .tup [V.int 2]) ht)
    have A3:=A0.same e3
    refine⟨sh,d,t,st,n,[2],rfl,A3.S,ao,fun z=>out.no (why:= .absent) (by rw[st1,qp z]) (A0.kp e3),fun v y hv hy=>⟨fun z=>out.no (why:= .kind) (by rw[st1];exact sG hv (by simp at z;simp;omega)) (A0.kp e3),fun z=>?_⟩⟩
    have kz:v.kind=2:=by simp at z;omega
    have Vk:=A0.O.get hv
    obtain⟨l,as,⟨dy,hy1⟩,hy2,ZW⟩:=id hy
    refine⟨_,rfl,_,rfl,_,rfl,y,_,dy,_,_,rfl,hy1,T.aC.cl,T.bB,bM,x1,x2,k,x,v.ord,rfl,hx1.same (e2.trans (aF.upd ht)),hx2.same (aF.upd ht),vk.read,fun H4 z4 e4 hz=>?_⟩
    have UJ:=e3.trans e4
    have hz0:=hz v.kind (.inr kz)
    obtain⟨kx,vx',px,⟨dz,o1⟩,o2,o3,o4⟩:=id hz0
    unfold plN at o4
    rw[if_neg (by omega)] at o4
    refine⟨_,rfl,y,_,dy,_,_,rfl,e4 _ _ hy1,T.aC.cl,T.aP,aV,_,rfl,z4,_,dz,_,_,rfl,o1,T.bO.cl,T.cR,eG,l,px,v.kind,v.ord,v.l,place v.ord k,rfl,by omega,⟨as,e4 _ _ hy2,Paired.iM ZW fun _ _ z=>z.same e4⟩,o4,Vk.sorted (by omega),qz (A0.O.len hv),fun kk hc=>?_⟩
    have hc':Cut (upTo v.ord k) v.l kk:=hc.congr fun y hy=>by
     unfold upTo
     rw[bV Vk.ord vk.good.2 (Vk.bR y hy).2];rfl
    have hle:=hc.le
    have ad:=Iz (e:=⟨k,x⟩) hc'
    refine⟨_,rfl,_,rfl,_,rfl,_,rfl,_,rfl,len1,fun g hg=>?_⟩
    have e5:=UJ.trans (aF.upd (o:= .lst [V.ref z4]) hg)
    refine⟨sh,d,y,g,st,v,kk,kk,[⟨k,x⟩],rfl,A0.S.same e5,hy.same (e4.trans (aF.upd hg)),⟨[z4],ao,.cons (hz0.same (aF.upd hg)) .nil⟩,by simp,cF _,hle,qz (A0.O.len hv),?_⟩
    have kq:=sV A0.S A0.T out (v:={v with l:=v.l.take kk++[⟨k,x⟩]++v.l.drop kk}) (by rw[st1];exact qu hv (by simp[kz]) (by rw[ad];simp)) e5
    exact⟨kq.1,fun nf H' sS S'=>⟨len2,kq.2 nf H' sS S'⟩⟩
end
theorem aaz{kind:Nat}{e b:aN}(hk:kind<=1)(he:xr kind e)(hb:xr kind b)(h:b.k=e.k):valN kind b=valN kind e↔Coll.same e.x b.x=true:=by
 unfold valN
 rw[same_iff]
 by_cases h1:kind=1
 .rw[if_pos h1,if_pos h1]
  exact⟨fun _=>by rw[he.2.2 (.inl h1),hb.2.2 (.inl h1),h],fun _=>rfl⟩
 .rw[if_neg h1,if_neg h1,lQ]
  exact⟨fun z=>z.symm,fun z=>z.symm⟩
theorem uT.trans{lf:Addr}{H H1 H2:Hp}(h:uT lf H H1)(g:uT lf H1 H2):uT lf H H2:=fun b u q n=>g b u (h b u q n) n
theorem uT.ofS{lf:Addr}{H H1:Hp}(h:aF H H1):uT lf H H1:=fun b u q _=>h b u q
theorem uT.upd{lf:Addr}{H:Hp}{o:HO}:uT lf H (L2.upd H lf o):=fun b u q n=>by rw[aD n];exact q
section
variable{w:World}{K:bw}{mg:Str->Option Value}{base:Heap}{a:Ad}{tb:Tb}
structure Found(a:Ad)(kind ord:Nat)(lf:Addr)(H0 H:Hp)(done:List (Nat×aN))(n:Nat):Prop where
 keep:uT lf H0 H
 ex:∃ds,H lf=some (.lst (ds.map V.ref))/\Paired (o8 a kind ord H) ds done
 le:done.length<=n
theorem Found.add{kind ord n:Nat}{lf:Addr}{H0 H H5:Hp}{done:List (Nat×aN)}(F:Found a kind ord lf H0 H done n){ds:List Addr}(hd:H lf=some (.lst (ds.map V.ref)))(hp:Paired (o8 a kind ord H) ds done)(e5:aF H H5){y:Addr}{p:Nat×aN}(hy:o8 a kind ord H5 y p):
  Found a kind ord lf H0 (L2.upd H5 lf (.lst (ds.map V.ref++[V.ref y]))) (done++[p]) (n+1):=by
 have h5:H5 lf=some (.lst (ds.map V.ref)):=e5 _ _ hd
 have isl:∀u,H5 lf=some u->∃xs,u= .lst xs:=fun u z=>by rw[h5] at z;cases z;exact⟨_,rfl⟩
 refine⟨(F.keep.trans (uT.ofS e5)).trans uT.upd,⟨ds++[y],by rw[ao,fP];rfl,?_⟩,?_⟩
 .exact Paired.snoc (Paired.iM hp fun _ _ z=>(z.t (cQ.of e5)).kb uT.upd isl) (hy.kb uT.upd isl)
 .have:=F.le
  simp;omega
inductive acK(a:Ad)(tb:Tb)(vs:List V)(H:Hp)(Q:VK):Prop
 |mk (l1 l2:Addr) (v u:bC) (lq:vs=[.ref l1,.ref l2]) (hh1:v.kind<=1) (nY:v.kind=u.kind) (hh3:v.ord=u.ord) (wO:gK a v.kind v.ord H l1 v.l) (Eo:gK a v.kind v.ord H l2 u.l) (Ph:g_ v) (ZM:g_ u) (hh8:v.l.length<=1000000) (hh9:u.l.length<=1000000) (ZL:TabsOk tb H) (ady:∀(H':Hp) (q:Addr) (ds:List Addr),cQ H H'->TabsOk tb H'->H' q=some (.lst (ds.map V.ref))->Paired (o8 a v.kind v.ord H') ds ((Coll.puts v.ord v.l (alone u.l v.l)).filterMap (cls v.l u.l))->H q=none->((Coll.puts v.ord v.l (alone u.l v.l)).filterMap (cls v.l u.l)).Perm (v.l.filterMap (xW u.l)++((alone u.l v.l).map fun e=>(1,e)))->Q (.ref q) H')
def afA(a:Ad)(tb:Tb):Sp:=fun vs H Q _=>acK a tb vs H Q
theorem TabsOk.x2{H H':Hp}(L:yS K mg base a tb)(t:TabsOk tb H)(h:tZ tb.P2 H H')(t':TabAt H' tb.P2 lp2 lq2):TabsOk tb H':=⟨TabAt.other h L.n12 t.t2 t.t1,t',TabAt.other h L.n23.symm t.t2 t.t3⟩
theorem Nj(T:Txt K mg a)(L:yS K mg base a tb):cN w K mg base 4 a.iT ["first","second"] (afA a tb):=by
 obtain⟨fd,F⟩:=T.tV.fn
 obtain⟨f1,G1,b1,k1⟩:=Jm (w:=w) (base:=base) T
 obtain⟨f2,G2,b2,_⟩:=Px (w:=w) (base:=base) T
 refine⟨fd,afg F L.l2.code Dn (fun vs H Q E h=>?_) (fun A outer s H vs Q E hr h=>?_),F.binds (by walk_at "b2"),F.kp⟩
 .obtain⟨l1,l2,v,u,rfl,_⟩:=h
  rfl
 .obtain⟨l1,l2,v,u,rfl,hk,hkk,hoo,hL1,hL2,Vk,Uk,hn1,hn2,Tt,k⟩:=h
  have hu:=J1 hr
  have hr1:cI 1 _:=hr.mono (by decide)
  have hr2:cI 2 _:=hr.mono (by decide)
  have nd:=Dn.nd
  obtain⟨as,h1,p1⟩:=id hL1
  obtain⟨bs,h2,p2⟩:=id hL2
  have pl:=gC p1
  have pl2:=gC p2
  have hum:∀e∈u.l,xr v.kind e:=fun e he=>by rw[hkk];exact Uk.ents e he
  have Uup:rising v.ord u.l:=by rw[hoo];exact Uk.up (by omega)
  refine⟨_,ak (aK (i:=2) nd rfl (Or.inl rfl) (aA G1 hr1 rfl T.mF.glob k1 b1 .nil bG (aj (pv 0) aq)))
   (ak (aK (i:=3) nd rfl (Or.inl rfl) (aA G1 hr1 rfl T.mF.glob k1 b1 .nil bG (aj (pv 1) aq)))
   (ak (aK (i:=4) nd rfl (Or.inl rfl) (bL aq))
   (ak (qZ own1 rfl (iQ (pv 0)) (gH (i:=5) nd rfl (Or.inl rfl))
    (au (cJ (N6 (Ec hu (aG (pv 5) rfl) (pv 3))) (au (cZ (pM jJ vG vH jx (pv 4) (aj (j5 T.dO.Vj G2 hr2 rfl T.dO.glob b2 .nil bG (aj (a_ T.sJ) (aj (pv 5) aq))) aq))))
     (au (cJ (aX (Xx hr.units) (Te hu (pv 3) (aG (pv 5) rfl) (fun _ _=>rfl)) (aG (pv 5) rfl) (bx _)) (au (cZ (pM jJ vG vH jx (pv 4) (aj (j5 T.dO.Vj G2 hr2 rfl T.dO.glob b2 .nil bG (aj (a_ T.Jg) (aj (pv 5) aq))) aq)))) bF)))))
   (ak (qZ own1 rfl (iQ (pv 1)) (gH (i:=5) nd rfl (Or.inl rfl))
    (au (cJ (N6 (Ec hu (aG (pv 5) rfl) (pv 2))) (au (cZ (pM jJ vG vH jx (pv 4) (aj (j5 T.dO.Vj G2 hr2 rfl T.dO.glob b2 .nil bG (aj (a_ T.qQ) (aj (pv 5) aq))) aq)))) bF)))
   (au (aL (NQ (P:=tb.P2) (p:="difference") (caps:=[]) (qual:=lq2) (clos:=[]) (tb:=Qj K (Qj K (vd 0) "entry") "place") hr (pv 4) (Jp (c:=tb.c2) L.l2.hd rfl L.bm rfl rfl rfl) rfl T.BL (fun _ _ _ _=>rfl) (fun f c' s H=>aG (aG (pv 0) rfl) rfl)))))))),?_⟩
  refine⟨_,rfl,l1,v.kind,v.ord,v.l,rfl,by omega,Vk.ord,hL1,Vk.bR,Vk.up hk,hn1,fun H1 d1 e1 hd1=>?_⟩
  refine⟨_,rfl,l2,v.kind,v.ord,u.l,rfl,by omega,Vk.ord,hL2.same e1,Uk.bR,Uup,hn2,fun H2 d2 e2 hd2=>?_⟩
  have vJ:=e1.trans e2
  refine⟨len0,fun lf hlf=>?_⟩
  have e23:=aF.upd (o:= .lst []) hlf
  have Lf:=vJ.trans e23
  obtain⟨kv1,hv1,_,ha1⟩:=hd1
  obtain⟨kv2,hv2,_,ha2⟩:=hd2
  have nlf:∀{b:Addr} {u:HO},H2 b=some u->b≠lf:=fun hb=>aJ hb hlf
  refine⟨_,rfl,l1,rfl,⟨_,bN.of (Lf _ _ h1)⟩,kZ (K:=K) (a:=l1) (xs:=as.map V.ref) (fun i σ H'=>∃v5:Option V,σ=[some (.ref l1),some (.ref l2),some (.ref d1),some (.ref d2),some (.ref lf),v5]/\Found a v.kind v.ord lf (L2.upd H2 lf (.lst [])) H' ((v.l.take i).filterMap (xW u.l)) i)
   ⟨none,rfl,fun _ _ z _=>z,⟨[],ao,by rw[JR];exact .nil⟩,by simp⟩ (fun i σ H' _ ⟨_,_,Fd⟩=>bN.of (Fd.keep _ _ (Lf _ _ h1) (nlf (vJ _ _ h1)))) ?_ ?_⟩
  .rintro i x σ H' hi ⟨v5,rfl,Fd⟩
   obtain⟨q,hq,rfl⟩:∃q,as[i]? =some q/\x=V.ref q:=by
    rw[gw] at hi
    cases z:as[i]? with
    |none=>rw[z] at hi;cases hi
    |some y=>rw[z] at hi;exact⟨y,rfl,(dJ hi).symm⟩
   obtain⟨en,hen,Yl⟩:=cD p1 hq
   have hil:=(gn.mp hen).1
   have oke:=Vk.ents en (fZ hen)
   have isl:∀u,(L2.upd H2 lf (.lst [])) lf=some u->∃xs,u= .lst xs:=fun u z=>by rw[ao] at z;cases z;exact⟨_,rfl⟩
   have abq:bT a v.kind v.ord H' q en:=(Yl.same Lf).kb Fd.keep isl
   obtain⟨kx,vx,px,⟨dx,o1⟩,o2,o3,_⟩:=id abq
   unfold sO at o2
   rw[if_neg (by omega)] at o2
   have o2':H' kx=some (.tup ((ks en.k).map kV)):=by rw[Sd];exact o2
   have agq:H' d2=some (.dT kv2):=Fd.keep _ _ (e23 _ _ hv2) (nlf hv2)
   obtain⟨ds,hds,hpd⟩:=Fd.ex
   have dl:=gC hpd
   have fle:=Fd.le
   have tk:(v.l.take (i+1)).filterMap (xW u.l)=(v.l.take i).filterMap (xW u.l)++(xW u.l en).toList:=by
    rw[mY,hen,List.filterMap_append]
    congr 1
   have add:∀(wh:Nat) (y dy:Addr),H' y=none->H' dy=none->xW u.l en=some (wh,en)->Ao a.eE 2 (fun _=>True) abn (.ref y::([V.int wh,V.ref q]++[])) (L2.upd (L2.upd H' dy (.own y)) y (.ins a.eE dy [])) (fun r H5=>r= .non/\Tj (.ref lf) [.ref y] H5 fun _ H6=>∃v5:Option V,[some (V.ref l1),some (V.ref l2),some (V.ref d1),some (V.ref d2),some (V.ref lf),some (V.ref q)]=[some (.ref l1),some (.ref l2),some (.ref d1),some (.ref d2),some (.ref lf),v5]/\Found a v.kind v.ord lf (L2.upd H2 lf (.lst [])) H6 ((v.l.take (i+1)).filterMap (xW u.l)) (i+1)) E0:=fun wh y dy n1 n2 hc=>
    made n1 n2 rfl trivial fun H5 e5 ob=>⟨rfl,lf,_,_,rfl,rfl,e5 _ _ hds,fX (by rw[aW];omega),_,rfl,by
     rw[tk,hc]
     exact Fd.add hds hpd e5 ⟨q,ob,abq.same e5⟩⟩
   refine⟨_,rfl,q,_,dx,_,_,rfl,o1,T.bO.cl,T.dG,eY,_,rfl,d2,_,rfl,zJ.t agq o2',_,rfl,?_⟩
   cases hf:Coll.findKey u.l en.k with
   |none=>
    rw[(ha2 en.k).1 (find_none.mp hf)]
    refine j4 ⟨_,rfl,.inl ⟨rfl,_,bN.of hds⟩,_,rfl,fun y dy n1 n2 n3=>?_⟩
    exact add 0 y dy n1 n2 (by unfold xW;rw[hf])
   |some b=>
    obtain⟨hb1,hb2⟩:=abj hf
    obtain⟨t,ht1,ht2⟩:=(ha2 en.k).2 b hb1 hb2
    have adB:oK H' t (valN v.kind b):=Fd.keep _ _ (e23 _ _ ht2) (nlf ht2)
    rw[ht1]
    refine lG ⟨_,rfl,_,rfl,q,_,dx,_,_,rfl,o1,T.bO.cl,T.dG,eY,d2,.ref t,rfl,?_,_,rfl,q,_,dx,_,_,rfl,o1,T.bO.cl,T.d9,gF,t,vx,_,_,rfl,rfl,eV.of adB,eV.of o3,_,rfl,?_⟩
    .rw[<-ht1];exact zJ.t agq o2'
    .have vs:=aaz hk oke (hum b hb1) hb2
     by_cases c:valN v.kind b=valN v.kind en
     .rw[decide_eq_true c]
      refine lG ⟨_,rfl,?_⟩
      rw[tk]
      have hc:xW u.l en=none:=by unfold xW;rw[hf];exact if_pos (vs.mp c)
      rw[hc]
      exact⟨Fd.keep,⟨ds,hds,by simpa using hpd⟩,by simpa using Nat.le_succ_of_le fle⟩
     .rw[decide_eq_false c]
      refine j4 ⟨_,rfl,.inl ⟨rfl,_,bN.of hds⟩,_,rfl,fun y dy n1 n2 n3=>?_⟩
      exact add 2 y dy n1 n2 (by unfold xW;rw[hf];exact if_neg fun z=>c (vs.mpr z))
  .rintro σ H3 ⟨v5,rfl,Fd0⟩
   rw[aW,pl,lC] at Fd0
   refine⟨_,rfl,l2,rfl,⟨_,bN.of (Fd0.keep _ _ (Lf _ _ h2) (nlf (vJ _ _ h2)))⟩,kZ (K:=K) (a:=l2) (xs:=bs.map V.ref) (fun i σ H'=>∃v5:Option V,σ=[some (.ref l1),some (.ref l2),some (.ref d1),some (.ref d2),some (.ref lf),v5]/\Found a v.kind v.ord lf (L2.upd H2 lf (.lst [])) H' (v.l.filterMap (xW u.l)++((alone (u.l.take i) v.l).map fun e=>(1,e))) (v.l.length+i))
    ⟨v5,rfl,?_⟩ (fun i σ H' _ ⟨_,_,Fd⟩=>bN.of (Fd.keep _ _ (Lf _ _ h2) (nlf (vJ _ _ h2)))) ?_ ?_⟩
   .rw[JR]
    show Found a v.kind v.ord lf _ H3 (v.l.filterMap (xW u.l)++[]) v.l.length
    rw[vI];exact Fd0
   .rintro i x σ H' hi ⟨v5,rfl,Fd⟩
    obtain⟨q,hq,rfl⟩:∃q,bs[i]? =some q/\x=V.ref q:=by
     rw[gw] at hi
     cases z:bs[i]? with
     |none=>rw[z] at hi;cases hi
     |some y=>rw[z] at hi;exact⟨y,rfl,(dJ hi).symm⟩
    obtain⟨en,hen,Yl⟩:=cD p2 hq
    have hil:=(gn.mp hen).1
    have isl:∀u,(L2.upd H2 lf (.lst [])) lf=some u->∃xs,u= .lst xs:=fun u z=>by rw[ao] at z;cases z;exact⟨_,rfl⟩
    have abq:bT a v.kind v.ord H' q en:=(Yl.same Lf).kb Fd.keep isl
    obtain⟨kx,vx,px,⟨dx,o1⟩,o2,o3,_⟩:=id abq
    unfold sO at o2
    rw[if_neg (by omega)] at o2
    have o2':H' kx=some (.tup ((ks en.k).map kV)):=by rw[Sd];exact o2
    have hv1':H' d1=some (.dT kv1):=Fd.keep _ _ (e23 _ _ (e2 _ _ hv1)) (nlf (e2 _ _ hv1))
    obtain⟨ds,hds,hpd⟩:=Fd.ex
    have dl:=gC hpd
    have fle:=Fd.le
    have ta:alone (u.l.take (i+1)) v.l=alone (u.l.take i) v.l++if jK v.l en.k=true then[] else[en]:=by
     unfold alone
     rw[mY,hen,Uo]
     congr 1
     cases z:jK v.l en.k<;>simp[z]
    refine⟨_,rfl,q,_,dx,_,_,rfl,o1,T.bO.cl,T.dG,eY,_,rfl,d1,_,rfl,zJ.t hv1' o2',_,rfl,?_⟩
    cases hf:jK v.l en.k with
    |false=>
     rw[(ha1 en.k).1 hf]
     refine j4 ⟨_,rfl,.inl ⟨rfl,_,bN.of hds⟩,_,rfl,fun y dy n1 n2 n3=>made n1 n2 rfl trivial fun H5 e5 ob=>⟨rfl,lf,_,_,rfl,rfl,e5 _ _ hds,fX (by rw[aW];omega),_,rfl,?_⟩⟩
     rw[ta,hf]
     have:=Fd.add hds hpd e5 (y:=y) (p:=(1,en)) ⟨q,ob,abq.same e5⟩
     rw[ud] at this
     show Found _ _ _ _ _ _ _ (v.l.length+i+1)
     simpa using this
    |true=>
     obtain⟨f,hf1,hf2⟩:=sI.mp hf
     obtain⟨t,ht1,ht2⟩:=(ha1 en.k).2 f hf1 hf2
     rw[ht1]
     refine lG ⟨_,rfl,?_⟩
     rw[ta,hf]
     exact⟨Fd.keep,⟨ds,hds,by simpa using hpd⟩,by simp at fle ⊢;omega⟩
   .rintro σ H4 ⟨v5,rfl,Fd⟩
    rw[aW,pl2,lC] at Fd
    obtain⟨ds,hds,hpd⟩:=Fd.ex
    have sH:aF H H4:=fun b o z=>Fd.keep b o (Lf b o z) (nlf (vJ b o z))
    have T4:TabsOk tb H4:=Tt.same sH
    have apa:H lf=none:=aF.free vJ hlf
    have oks:∀p∈v.l.filterMap (xW u.l)++((alone u.l v.l).map fun e=>(1,e)),xr v.kind p.2:=fun p hp=>by
     rw[Uy Vk.ord Vk.bR (Vk.up hk)] at hp
     obtain⟨e,he,hc⟩:=List.mem_filterMap.mp hp
     rw[Le hc]
     rcases j9.mp he with z|z
     .exact Vk.ents e z
     .exact hum e (yU.mp z).1
    have ee:=QJ (by omega:v.kind<=3) hpd oks
    refine⟨_,rfl,lf,ds,ds.map (fun x=>pk v.ord (Mj a v.kind v.ord H4 x).2),[],rfl,bN.of hds,by simp,fun z hz=>?_,⟨rfl,rfl,rfl,rfl,rfl,by decide+kernel,fun x hx=>?_,fun x c hx=>by simp at hx,fun i x v hx _=>by simp at hx⟩,T4.t2,fun i b kk H' hb hks sx=>?_,fun cs H' q sx tx hs hq=>?_⟩
    .obtain⟨x,_,rfl⟩:=uU.mp hz
     exact NZ
    .have z:=rN.mp (qG hx)
     exact absurd (fJ z).2 (by decide)
    .obtain⟨p,hp,hAt⟩:=cD hpd hb
     have oke:=oks p (fZ hp)
     have ek:kk=pk v.ord p.2:=by
      rw[gw,hb] at hks
      have:=dJ hks
      rw[<-this]
      show pk v.ord (Mj a v.kind v.ord H4 b).2=_
      rw[Ml (by omega) hAt oke]
     obtain⟨en,⟨db,ob⟩,Yl⟩:=hAt.t (tZ.t sx T4.t2)
     obtain⟨kx,vx,px,⟨dx,o1⟩,o2,o3,o4⟩:=Yl
     unfold plN at o4
     rw[if_neg (by omega)] at o4
     refine⟨_,rfl,b,_,db,_,_,rfl,ob,T.dO.cl,T.jd,wZ,en,_,dx,_,_,rfl,o1,T.bO.cl,T.cR,eG,px,rfl,?_,fun _ _ z=>z⟩
     rw[ek];exact o4
    .obtain⟨g1,g2,g3⟩:=Gi (ent:=Mj a v.kind v.ord H4) (key:=fun p=>pk v.ord p.2) hs
     have sT:=tZ.t sx T4.t2
     have sT':=sT.trans (cQ.of (aF.upd (o:= .lst (cs.map V.ref)) hq))
     have hq0:H q=none:=by
      cases z:H q with
      |none=>rfl
      |some o=>
       by_cases y:nT o
       .have:=sT q o (sH _ _ z) y
        rw[hq] at this;cases this
       .cases o with
        |Ls ps=>
         have z4:=sH _ _ z
         by_cases y2:q=tb.P2
         .obtain⟨ps2,y3,_⟩:=tx
          rw[<-y2,hq] at y3;cases y3
         .have:=sx q _ z4 y2
          rw[hq] at this;cases this
        |_=>exact absurd trivial y
     have eo:=WM Vk.ord Vk.bR Uk.bR (Vk.up hk) Uup (out:=cs.map (Mj a v.kind v.ord H4)) (g2.imp fun{x y} z=>by
      show cO (pk v.ord y.2) (pk v.ord x.2)≠ .lt
      rw[qW] at z
      exact eF.mp z) (fun c=>by rw[<-ee];exact g3 c)
     refine k _ q cs ((cQ.of sH).trans sT') ((T4.x2 L sx tx).same (aF.upd hq)) ao ?_ hq0 ?_
     .rw[<-eo]
      refine Nv fun x hx=>?_
      have hx':=g1.mem_iff.mp hx
      obtain⟨i,hi⟩:=List.mem_iff_getElem?.mp hx'
      obtain⟨p,hp,hAt⟩:=cD hpd hi
      rw[Ml (by omega) hAt (oks p (fZ hp))]
      exact hAt.t sT'
     .rw[<-eo,<-ee];exact g1.map _
end
def En(p:Nat×aN):List Int:=[3,2,1,(p.1:Int),1]++aZ p.2.k
theorem ac6(p:Nat×aN):aZ (.list [.num p.1 1,p.2.k])=En p:=by
 rw[aZ,jA,jA,jA,aZ]
 unfold En
 simp
theorem KJ:∀l:List (Nat×aN),jA (l.map fun p=> .list [.num p.1 1,p.2.k])=l.flatMap En
 |[]=>by rw[GK,jA];rfl
 |p::r=>by rw[cU,jA,KJ r,Qu,ac6]
theorem U5{α:Type}(f:α->List Int)(l:List α):(l.flatMap f).length=(l.map fun x=>(f x).length).sum:=by
 induction l with
 |nil=>rfl
 |cons x r ih=>rw[Qu,dN,ih,cU,qH]
theorem aab{α:Type}(f:α->List Int){l m:List α}(h:l.Perm m):(l.flatMap f).length=(m.flatMap f).length:=by
 rw[U5,U5]
 exact(h.map _).sum_nat
theorem ac8(kind:Nat)(w:Nat)(e:aN):(En (w,e)).length<=5*vZ kind e:=by
 have h:=Hz e.k
 unfold En vZ
 simp;omega
theorem WL(kind:Nat)(f:aN->Option (Nat×aN))(hf:∀e p,f e=some p->p.2=e):∀l:List aN,((l.filterMap f).flatMap En).length<=5*cW kind l
 |[]=>by simp
 |e::r=>by
  have ih:=WL kind f hf r
  unfold cW at ih ⊢
  rw[JL,cU,qH]
  cases h:f e with
  |none=>simp only;omega
  |some p=>
   have hp:=hf e p h
   obtain⟨w,e'⟩:=p
   have hp':e'=e:=hp
   subst hp'
   have:=ac8 kind w e'
   simp only
   rw[Qu,dN];omega
theorem aa5{m:List aN}{e:aN}{p:Nat×aN}(h:xW m e=some p):p.2=e:=by
 unfold xW at h
 split at h
 .cases h;rfl
 .split at h
  .cases h
  .cases h;rfl
theorem Ho(kind:Nat)(p:aN->Bool):∀l:List aN,cW kind (l.filter p)<=cW kind l
 |[]=>by simp[cW]
 |e::r=>by
  have ih:=Ho kind p r
  unfold cW at ih ⊢
  rw[wV]
  split
  .rw[cU,cU,qH,qH];omega
  .rw[cU,qH];omega
theorem ac7(kind:Nat)(l m:List aN):((l.filterMap (xW m)++((alone m l).map fun e=>(1,e))).flatMap En).length<=5*(cW kind l+cW kind m):=by
 have h1:=WL kind (xW m) (fun e p h=>aa5 h) l
 have h2:=WL kind (fun e=>some (1,e)) (fun e p h=>by cases h;rfl) (alone m l)
 have h3:=Ho kind (fun e=> !jK l e.k) m
 have e:(alone m l).filterMap (fun e=>some (1,e))=(alone m l).map fun e=>(1,e):=List.filterMap_eq_map▸rfl
 rw[e] at h2
 rw[LC,dN]
 have h3':cW kind (alone m l)<=cW kind m:=h3
 omega
section
variable{w:World}{K:bw}{mg:Str->Option Value}{base:Heap}{a:Ad}{tb:Tb}
inductive acJ(a:Ad)(tb:Tb)(vs:List V)(H:Hp)(Q:VK):Prop
 |mk (x y:Addr) (v u:bC) (lq:vs=[.ref x,.ref y]) (hh1:v.kind<=1) (nY:v.kind=u.kind) (hh3:v.ord=u.ord) (wO:gZ a H x v) (Eo:gZ a H y u) (Ph:g_ v) (ZM:g_ u) (hh8:bY v<=1000000) (hh9:bY u<=1000000) (ZL:TabsOk tb H) (ady:∀(H':Hp) (l:Addr),cQ H H'->TabsOk tb H'->H' l=some (.lst ((aZ (.list (Coll.differ v u))).map V.int))->(aZ (.list (Coll.differ v u))).length<=10000002->Q (.ref l) H')
def afz(a:Ad)(tb:Tb):Sp:=fun vs H Q _=>acJ a tb vs H Q
theorem Bo(T:Txt K mg a)(L:yS K mg base a tb):cN w K mg base 5 a.gM ["first","second"] (afz a tb):=by
 obtain⟨fd,F⟩:=T.jG.fn
 obtain⟨f1,G1,b1,k1⟩:=Nj (w:=w) T L
 refine⟨fd,F.ok1 rO (fun vs H Q E h=>?_) (fun cdv A outer s H vs Q E hr h=>?_),F.binds (by walk_at "b2"),F.kp⟩
 .obtain⟨x,y,v,u,rfl,_⟩:=h
  rfl
 .obtain⟨x,y,v,u,rfl,hk,hkk,hoo,hv,hu,Vk,Uk,rv,ru,Tt,k⟩:=h
  have nd:=rO.nd
  obtain⟨l,as,⟨dx,h1⟩,hl,hp⟩:=id hv
  obtain⟨m,bs,⟨dy,g1⟩,hm,hq⟩:=id hu
  have lv:=MP v
  have lu:=MP u
  refine⟨_,ak (aK (i:=2) nd rfl (Or.inl rfl) (aA G1 hr rfl T.tV.glob k1 b1 .nil bG (aj (aG (pv 0) rfl) (aj (aG (pv 1) rfl) aq))))
   (ak (aK (i:=3) nd rfl (Or.inl rfl) (bL (aj (a_ T.vU) (aj (bZ bI rfl T.iR jC (aj (pv 2) aq)) aq))))
   (ak (qZ own1 rfl (iQ (pv 2)) (gH (i:=4) nd rfl (Or.inl rfl))
    (ak (cZ (pM jJ Bu Bv qx (pv 3) (aj (bL (aj (a_ T.vU) (aj aB (aj (a_ T.nZ) (aj (aG (pv 4) rfl) (aj aB aq)))))) aq)))
    (au (cZ (pM jJ Bu Bv Xn (pv 3) (aj (aG (aG (pv 4) rfl) rfl) aq))))))
   (au (aL (pv 3))))),?_⟩
  refine⟨_,rfl,x,_,dx,_,_,rfl,h1,T.aC.cl,T.aP,aV,_,rfl,y,_,dy,_,_,rfl,g1,T.aC.cl,T.aP,aV,l,m,v,u,rfl,hk,hkk,hoo,⟨as,hl,hp⟩,by rw[hkk,hoo];exact⟨bs,hm,hq⟩,Vk,Uk,by omega,by omega,Tt,fun H1 q ds s1 T1 hds hpd _ hpm=>?_⟩
  generalize hD:(Coll.puts v.ord v.l (alone u.l v.l)).filterMap (cls v.l u.l)=D at hpd hpm
  have dl:=gC hpd
  have tot:(D.flatMap En).length<=10000000:=by
   rw[aab En hpm]
   have h:=ac7 v.kind v.l u.l
   have r1:=lM v
   have r2:=lM u
   rw[<-hkk] at r2
   omega
  have eN:aZ (.list (Coll.differ v u))=[3,(D.length:Int)]++D.flatMap En:=by
   rw[Zz,hD,aZ,KJ,aW];rfl
  refine⟨_,rfl,q,_,rfl,.inl (bN.of hds),len2,fun lt hlt=>?_⟩
  have e1:=aF.upd (o:= .lst [V.int 3,V.int ((ds.map V.ref).length:Nat)]) hlt
  have nlt:∀{b:Addr} {u:HO},H1 b=some u->b≠lt:=fun hb=>aJ hb hlt
  refine⟨_,rfl,q,rfl,⟨_,bN.of (e1 _ _ hds)⟩,kZ (K:=K) (a:=q) (xs:=ds.map V.ref) (fun i σ H'=>∃v4:Option V,σ=[some (.ref x),some (.ref y),some (.ref q),some (.ref lt),v4]/\aF H1 H'/\H' lt=some (.lst (([3,(D.length:Int)]++(D.take i).flatMap En).map V.int)))
   ⟨none,rfl,e1,by rw[ao,aW,dl];rfl⟩ (fun i σ H' _ ⟨_,_,e,_⟩=>bN.of (e _ _ hds)) ?_ ?_⟩
  .rintro i z σ H' hi ⟨v4,rfl,e2,hlt2⟩
   obtain⟨b,hb,rfl⟩:∃b,ds[i]? =some b/\z=V.ref b:=by
    rw[gw] at hi
    cases e:ds[i]? with
    |none=>rw[e] at hi;cases hi
    |some z=>rw[e] at hi;exact⟨z,rfl,(dJ hi).symm⟩
   obtain⟨p,hp',en,⟨db,ob⟩,kx,vx,px,⟨de,o1⟩,o2,o3,o4⟩:=cD hpd hb
   unfold sO at o2
   rw[if_neg (by omega)] at o2
   have pl2:=Ny En hp'
   have dn:(En p).length=5+(aZ p.2.k).length:=by unfold En;simp;omega
   refine⟨_,rfl,.inl ⟨rfl,_,bN.of hlt2⟩,_,rfl,b,_,db,_,_,rfl,e2 _ _ ob,T.dO.cl,T.lH,BX,cT (by simp),fun g hg=>?_⟩
   have e3:=e2.trans (aF.upd (o:= .lst [V.int 3,V.int 2,V.int 1,V.int p.1,V.int 1]) hg)
   refine⟨lt,g,_,_,rfl,rfl,aF.upd hg _ _ hlt2,ao,cT (by rw[aW,dN];simp only[pD,BJ];omega),?_⟩
   have e4:aF H1 (L2.upd (L2.upd H' g (.lst [V.int 3,V.int 2,V.int 1,V.int p.1,V.int 1])) lt (.lst (([3,(D.length:Int)]++(D.take i).flatMap En).map V.int++[V.int 3,V.int 2,V.int 1,V.int p.1,V.int 1]))):=fun c o z=>by rw[aD (nlt z)];exact e3 _ _ z
   refine⟨_,rfl,.inl ⟨rfl,_,bN.of ao⟩,_,rfl,b,_,db,_,_,rfl,e4 _ _ ob,T.dO.cl,T.jd,wZ,en,_,de,_,_,rfl,e4 _ _ o1,T.bO.cl,T.dG,eY,lt,kx,_,_,rfl,rfl,ao,e4 _ _ o2,cT ?_,?_⟩
   .rw[dN,aW,dN,aW];simp only[pD,BJ];omega
   .refine⟨some (.ref b),rfl,fun c o z=>?_,?_⟩
    .rw[aD (nlt z)];exact e4 _ _ z
    .rw[ao,pl2.2]
     unfold En
     simp
  .rintro σ H' ⟨v4,rfl,e2,hlt2⟩
   rw[aW,dl,lC,<-eN] at hlt2
   refine⟨_,rfl,k H' lt (s1.trans (cQ.of e2)) (T1.same e2) hlt2 ?_⟩
   rw[eN,dN];simp only[pD,BJ];omega
theorem Nb(T:Txt K mg a)(L:yS K mg base a tb):cN w K mg base 6 a.jO ["shelf","wholes","rows"] (fun vs H Q E=>∃n m,uR a tb [n,m] [] (.differ n m) vs H Q E):=by
 obtain⟨fd,F⟩:=T.yM.fn
 obtain⟨f1,G1,b1,k1⟩:=dX (w:=w) (base:=base) T
 obtain⟨f2,G2,b2,k2⟩:=Bo (w:=w) T L
 refine⟨fd,F.ok1 wI (fun vs H Q E h=>?_) (fun cdv A outer s H vs Q E hr h=>?_),F.binds (by walk_at "b3"),F.kp⟩
 .obtain⟨n,m,sh,d,wl,rl,st,rfl,_⟩:=h
  rfl
 .obtain⟨n,m,sh,d,wl,rl,st,rfl,A0,out⟩:=h
  have hr1:cI 1 _:=hr.mono (by decide)
  have hn:n<=4294967295:=A0.small n (by simp)
  have hm:m<=4294967295:=A0.small m (by simp)
  have st1:bJ st (.differ n m)=st.two n m fun(v u:bC)=>if 2<=v.kind\/v.kind≠u.kind\/v.ord≠u.ord then uF st .kind else(st,.value (.list (Coll.differ v u))):=by
   unfold bJ
   rw[if_neg (by show ¬fH [n,m]=false;rw[tD hn hm];simp)]
  refine⟨_,ak (aK (i:=3) wI.nd rfl (Or.inl rfl) (aA G1 hr1 rfl T.cC.glob k1 b1 .nil cA (aj (pv 0) (aj (bf aU (pv 1) aB (fun _ _=>rfl)) aq))))
   (ak (aK (i:=4) wI.nd rfl (Or.inl rfl) (aA G1 hr1 rfl T.cC.glob k1 b1 .nil cA (aj (pv 0) (aj (bf aU (pv 1) aB (fun _ _=>rfl)) aq))))
   (ak (cJ (PW.pt (Ig (aX HY (aG (pv 3) rfl) (aG (pv 4) rfl) (bx _)) (Ig (aX HY (aG (pv 3) rfl) (aG (pv 4) rfl) (bx _)) (Fy (aX zX (aG (pv 3) rfl) (iy (aj (a_ T.Ay) (aj (a_ T.Et) aq))) rfl))))) (au (jg T.vK rfl)) bF)
   (au (aL (cB n_ (bL (aj (a_ T.iu) aq)) (aA G2 hr rfl T.jG.glob k2 b2 .nil bG (aj (pv 3) (aj (pv 4) aq)))))))),?_⟩
  refine⟨_,rfl,_,rfl,wl,_,0,_,rfl,rfl,bN.of A0.w,rfl,sh,d,st,n,rfl,A0.S,fun z=>out.no (why:= .absent) (by rw[st1];unfold zM;rw[z]) (A0.kp fun _ _ z=>z),fun v y hv hy=>?_⟩
  refine⟨_,rfl,_,rfl,wl,_,1,_,rfl,rfl,bN.of A0.w,rfl,sh,d,st,m,rfl,A0.S,fun z=>out.no (why:= .absent) (by rw[st1];unfold zM;rw[hv,z]) (A0.kp fun _ _ z=>z),fun u z hu hz=>?_⟩
  have st2:bJ st (.differ n m)=if 2<=v.kind\/v.kind≠u.kind\/v.ord≠u.ord then uF st .kind else(st,.value (.list (Coll.differ v u))):=by
   rw[st1];unfold zM;rw[hv,hu]
  obtain⟨l,as,⟨dx,h1⟩,_,_⟩:=id hy
  obtain⟨m',bs,⟨dy,g1⟩,_,_⟩:=id hz
  refine⟨_,rfl,y,_,dx,_,_,rfl,h1,T.aC.cl,T.bH,bQ,_,rfl,z,_,dy,_,_,rfl,g1,T.aC.cl,T.bH,bQ,rfl,_,rfl,R6 (fun c=>?_) (fun c=>?_)⟩
  .exact j4 (out.no (why:= .kind) (by rw[st2,if_pos (.inr (.inl (by omega)))]) (A0.kp fun _ _ z=>z))
  .refine⟨_,rfl,y,_,dx,_,_,rfl,h1,T.aC.cl,T.bB,bM,_,rfl,z,_,dy,_,_,rfl,g1,T.aC.cl,T.bB,bM,rfl,_,rfl,R6 (fun c2=>?_) (fun c2=>?_)⟩
   .exact j4 (out.no (why:= .kind) (by rw[st2,if_pos (.inr (.inr (by omega)))]) (A0.kp fun _ _ z=>z))
   .refine⟨_,rfl,y,_,dx,_,_,rfl,h1,T.aC.cl,T.bH,bQ,len2,fun t ht=>?_⟩
    have e1:=aF.upd (o:= .tup [V.int 0,V.int 1]) ht
    refine⟨t,_,rfl,.inr (eV.of ao),rfl,zf [0,1],_,rfl,?_⟩
    show if(!inV (.int (v.kind:Int)) ([0,1].map V.int))=true then _ else _
    rw[Cd]
    by_cases e:(v.kind:Int)∈([0,1]:List Int)
    .have k2':v.kind<=1:=by simp at e;omega
     rw[decide_eq_true e]
     refine lG ⟨len1,fun g hg=>?_⟩
     have e2:=e1.trans (aF.upd (o:= .lst [V.int 0]) hg)
     have rv:=A0.O.YJ hv
     have ru:=A0.O.YJ hu
     have rs:=A0.O.room
     refine⟨_,rfl,_,rfl,y,z,v,u,rfl,k2',by omega,by omega,hy.same e2,hz.same e2,A0.O.get hv,A0.O.get hu,by omega,by omega,A0.T.same e2,fun H3 l3 s3 T3 hl3 hlen=>?_⟩
     refine⟨g,l3,_,_,rfl,rfl,s3 _ _ ao trivial,hl3,cT (by simp;omega),fun g4 hg4=>?_⟩
     have s0:=(cQ.of e2).trans s3
     refine out.yes (ans:= .value (.list (Coll.differ v u))) (by rw[st2,if_neg (by omega)]) (fun _ y=>by cases y) ⟨jz.of (s0.upd hg4),(A0.S.t s0).same (aF.upd hg4),T3.same (aF.upd hg4)⟩ ?_
     rw[ao];rfl
    .rw[decide_eq_false e]
     have k2':2<=v.kind:=by simp at e;omega
     exact j4 (out.no (why:= .kind) (by rw[st2,if_pos (.inl k2')]) (A0.kp e1))
end
def fnOf(a:Ad)(p:Int):Addr:=if p=1 then a.p7 else if p=2 then a.p8 else if p=3 then a.pZ else if p=4 then a.m6 else if p=5 then a.pY else if p=6 then a.lE else if p=7 then a.m_ else if p=8 then a.su else if p=9 then a.lF else if p=10 then a.m8 else if p=11 then a.pX else if p=12 then a.nq else if p=13 then a.jQ else if p=14 then a.jN else if p=15 then a.jR else if p=16 then a.jT else if p=17 then a.jP else if p=18 then a.ni else if p=19 then a.m9 else if p=20 then a.m7 else if p=21 then a.sE else if p=22 then a.nj else if p=23 then a.jM else if p=24 then a.jO else 0
theorem je(n:Nat):dH (n:Int)=some n:=by
 unfold dH
 rw[if_neg (by omega)];simp
theorem kind_le{n m:Nat}(h:qC n m=true):n<=3/\m<=2:=by
 unfold qC at h
 obtain⟨h1,h2⟩:=gB.mp h
 obtain⟨h2,_⟩:=gB.mp h2
 exact⟨of_decide_eq_true h1,of_decide_eq_true h2⟩
theorem bK{z:Int}(h:dR z=true):∃n:Nat,z=(n:Int):=⟨z.toNat,by have:=of_decide_eq_true h;omega⟩
theorem value_of{l:List Int}(h:(jB l).isSome=true):∃v,jB l=some v/\l=aZ v:=by
 obtain⟨v,e⟩:=Qq.mp h
 exact⟨v,e,value_eq e⟩
def Does(w:World)(K:bw)(mg:Str->Option Value)(base:Heap)(a:Ad)(tb:Tb)(pn:Int)(ws:List Int)(rows:List (List Int)):Prop:=
 ∃(call:bA) (wn:List Nat) (vals:List aQ) (kf:Nat) (ps:List Str) (sp:Sp),h_ ((pn::ws)::rows)=some call/\ws=wn.map (fun n:Nat=>(n:Int))/\rows=vals.map aZ/\
  ((∀n∈wn,n<=4294967295)\/Coll.asked call=false)/\((∀v∈vals,jh v)->aa3 call)/\kf<=12/\cN w K mg base kf (fnOf a pn) ps sp/\∀vs H Q E,uR a tb wn vals call vs H Q E->sp vs H Q E
theorem fG{l:List Nat}:(∀n∈l,n<=4294967295)\/fH l=false:=by
 by_cases h:∀n∈l,n<=4294967295
 .exact .inl h
 .refine .inr ?_
  unfold fH
  rw[Bool.eq_false_iff]
  intro z
  exact h fun n hn=>by
   have:=wU.mp z n hn
   have:=of_decide_eq_true this
   omega
section
variable{w:World}{K:bw}{mg:Str->Option Value}{base:Heap}{a:Ad}{tb:Tb}
theorem aeI(T:Txt K mg a){n m:Int}(h:ig ([(1:Int),n,m]::[])=true):Does w K mg base a tb 1 [n,m] []:=by
 have h:(dR n&&dR m)=true:=h
 obtain⟨h,hm⟩:=gB.mp h
 have hn:=h
 obtain⟨n,rfl⟩:=bK hn
 obtain⟨m,rfl⟩:=bK hm
 have e0:h_ ([(1:Int),(n:Int),(m:Int)]::[])=some (bA.new n m):=by
  show(do some (bA.new (<-dH (n:Int)) (<-dH (m:Int))))=_
  simp only[je];rfl
 refine⟨(bA.new n m),[n,m],[],3,_,_,e0,rfl,rfl,?s,fun _=>trivial,by decide,Vu (w:=w) (base:=base) (tb:=tb) T,fun vs H Q E h=>⟨n,m,h⟩⟩
 show _\/qC n m=false
 by_cases hk:qC n m=true
 .refine .inl fun z hz=>?_
  have:=kind_le hk
  simp at hz;omega
 .exact .inr (by simpa using hk)
theorem aeJ(T:Txt K mg a){n:Int}{rx ry:List Int}(h:ig ([(2:Int),n]::[rx,ry])=true):Does w K mg base a tb 2 [n] [rx,ry]:=by
 have h:((dR n&&(jB rx).isSome)&&(jB ry).isSome)=true:=h
 obtain⟨h,hry⟩:=gB.mp h
 obtain⟨h,hrx⟩:=gB.mp h
 have hn:=h
 obtain⟨n,rfl⟩:=bK hn
 obtain⟨x,ex,rfl⟩:=value_of hrx
 obtain⟨y,ey,rfl⟩:=value_of hry
 have e0:h_ ([(2:Int),(n:Int)]::[aZ x,aZ y])=some (bA.put n x y):=by
  show(do some (bA.put (<-dH (n:Int)) (<-jB (aZ x)) (<-jB (aZ y))))=_
  simp only[je,ex,ey];rfl
 refine⟨(bA.put n x y),[n],[x,y],6,_,_,e0,rfl,rfl,(fG (l:=[n])).imp id fun z=>eX z,fun z=>⟨z x (by simp),z y (by simp)⟩,by decide,Vv (w:=w) (base:=base) (tb:=tb) T,fun vs H Q E h=>⟨n,x,y,h⟩⟩
theorem aeK(T:Txt K mg a){n:Int}{rx:List Int}(h:ig ([(3:Int),n]::[rx])=true):Does w K mg base a tb 3 [n] [rx]:=by
 have h:(dR n&&(jB rx).isSome)=true:=h
 obtain⟨h,hrx⟩:=gB.mp h
 have hn:=h
 obtain⟨n,rfl⟩:=bK hn
 obtain⟨x,ex,rfl⟩:=value_of hrx
 have e0:h_ ([(3:Int),(n:Int)]::[aZ x])=some (bA.insertKey n x):=by
  show(do some (bA.insertKey (<-dH (n:Int)) (<-jB (aZ x))))=_
  simp only[je,ex];rfl
 refine⟨(bA.insertKey n x),[n],[x],6,_,_,e0,rfl,rfl,(fG (l:=[n])).imp id fun z=>eX z,fun z=>z x (by simp),by decide,Vt (w:=w) (base:=base) (tb:=tb) T,fun vs H Q E h=>⟨n,x,h⟩⟩
theorem aeL(T:Txt K mg a){n:Int}{rx:List Int}(h:ig ([(4:Int),n]::[rx])=true):Does w K mg base a tb 4 [n] [rx]:=by
 have h:(dR n&&(jB rx).isSome)=true:=h
 obtain⟨h,hrx⟩:=gB.mp h
 have hn:=h
 obtain⟨n,rfl⟩:=bK hn
 obtain⟨x,ex,rfl⟩:=value_of hrx
 have e0:h_ ([(4:Int),(n:Int)]::[aZ x])=some (bA.drop n x):=by
  show(do some (bA.drop (<-dH (n:Int)) (<-jB (aZ x))))=_
  simp only[je,ex];rfl
 refine⟨(bA.drop n x),[n],[x],6,_,_,e0,rfl,rfl,(fG (l:=[n])).imp id fun z=>eX z,fun z=>z x (by simp),by decide,Sx (w:=w) (base:=base) (tb:=tb) T,fun vs H Q E h=>⟨n,x,h⟩⟩
theorem aeM(T:Txt K mg a){n:Int}{rx:List Int}(h:ig ([(5:Int),n]::[rx])=true):Does w K mg base a tb 5 [n] [rx]:=by
 have h:(dR n&&(jB rx).isSome)=true:=h
 obtain⟨h,hrx⟩:=gB.mp h
 have hn:=h
 obtain⟨n,rfl⟩:=bK hn
 obtain⟨x,ex,rfl⟩:=value_of hrx
 have e0:h_ ([(5:Int),(n:Int)]::[aZ x])=some (bA.get n x):=by
  show(do some (bA.get (<-dH (n:Int)) (<-jB (aZ x))))=_
  simp only[je,ex];rfl
 refine⟨(bA.get n x),[n],[x],6,_,_,e0,rfl,rfl,(fG (l:=[n])).imp id fun z=>eX z,fun z=>z x (by simp),by decide,Vs (w:=w) (base:=base) (tb:=tb) T,fun vs H Q E h=>⟨n,x,h⟩⟩
theorem aeN(T:Txt K mg a){n:Int}(h:ig ([(6:Int),n]::[])=true):Does w K mg base a tb 6 [n] []:=by
 have h:dR n=true:=h
 have hn:=h
 obtain⟨n,rfl⟩:=bK hn
 have e0:h_ ([(6:Int),(n:Int)]::[])=some (bA.count n):=by
  show(do some (bA.count (<-dH (n:Int))))=_
  simp only[je];rfl
 refine⟨(bA.count n),[n],[],2,_,_,e0,rfl,rfl,fG,fun _=>trivial,by decide,Py (w:=w) (base:=base) (tb:=tb) T,fun vs H Q E h=>⟨n,h⟩⟩
theorem aeO(T:Txt K mg a){n:Int}{rx:List Int}(h:ig ([(7:Int),n]::[rx])=true):Does w K mg base a tb 7 [n] [rx]:=by
 have h:(dR n&&(jB rx).isSome)=true:=h
 obtain⟨h,hrx⟩:=gB.mp h
 have hn:=h
 obtain⟨n,rfl⟩:=bK hn
 obtain⟨x,ex,rfl⟩:=value_of hrx
 have e0:h_ ([(7:Int),(n:Int)]::[aZ x])=some (bA.rank n x):=by
  show(do some (bA.rank (<-dH (n:Int)) (<-jB (aZ x))))=_
  simp only[je,ex];rfl
 refine⟨(bA.rank n x),[n],[x],6,_,_,e0,rfl,rfl,(fG (l:=[n])).imp id fun z=>eX z,fun z=>z x (by simp),by decide,SN (w:=w) (base:=base) (tb:=tb) T,fun vs H Q E h=>⟨n,x,h⟩⟩
theorem aeP(T:Txt K mg a){n m:Int}(h:ig ([(8:Int),n,m]::[])=true):Does w K mg base a tb 8 [n,m] []:=by
 have h:(dR n&&dR m)=true:=h
 obtain⟨h,hm⟩:=gB.mp h
 have hn:=h
 obtain⟨n,rfl⟩:=bK hn
 obtain⟨m,rfl⟩:=bK hm
 have e0:h_ ([(8:Int),(n:Int),(m:Int)]::[])=some (bA.at_ n m):=by
  show(do some (bA.at_ (<-dH (n:Int)) (<-dH (m:Int))))=_
  simp only[je];rfl
 refine⟨(bA.at_ n m),[n,m],[],2,_,_,e0,rfl,rfl,fG,fun _=>trivial,by decide,Xr (w:=w) (base:=base) (tb:=tb) T,fun vs H Q E h=>⟨n,m,h⟩⟩
theorem aeQ(T:Txt K mg a){n m j:Int}(h:ig ([(9:Int),n,m,j]::[])=true):Does w K mg base a tb 9 [n,m,j] []:=by
 have h:((dR n&&dR m)&&dR j)=true:=h
 obtain⟨h,hj⟩:=gB.mp h
 obtain⟨h,hm⟩:=gB.mp h
 have hn:=h
 obtain⟨n,rfl⟩:=bK hn
 obtain⟨m,rfl⟩:=bK hm
 obtain⟨j,rfl⟩:=bK hj
 have e0:h_ ([(9:Int),(n:Int),(m:Int),(j:Int)]::[])=some (bA.range n m j):=by
  show(do some (bA.range (<-dH (n:Int)) (<-dH (m:Int)) (<-dH (j:Int))))=_
  simp only[je];rfl
 refine⟨(bA.range n m j),[n,m,j],[],4,_,_,e0,rfl,rfl,fG,fun _=>trivial,by decide,Pz (w:=w) (base:=base) (tb:=tb) T,fun vs H Q E h=>⟨n,m,j,h⟩⟩
theorem ac9(T:Txt K mg a)(L:yS K mg base a tb){n m j:Int}(h:ig ([(10:Int),n,m,j]::[])=true):Does w K mg base a tb 10 [n,m,j] []:=by
 have h:((dR n&&dR m)&&dR j)=true:=h
 obtain⟨h,hj⟩:=gB.mp h
 obtain⟨h,hm⟩:=gB.mp h
 have hn:=h
 obtain⟨n,rfl⟩:=bK hn
 obtain⟨m,rfl⟩:=bK hm
 obtain⟨j,rfl⟩:=bK hj
 have e0:h_ ([(10:Int),(n:Int),(m:Int),(j:Int)]::[])=some (bA.join n m j):=by
  show(do some (bA.join (<-dH (n:Int)) (<-dH (m:Int)) (<-dH (j:Int))))=_
  simp only[je];rfl
 refine⟨(bA.join n m j),[n,m,j],[],8,_,_,e0,rfl,rfl,?s,fun _=>trivial,by decide,SJ (w:=w) (base:=base) (tb:=tb) T L,fun vs H Q E h=>⟨n,m,j,h⟩⟩
 show _\/(fH [n,m]&&decide (j<=3))=false
 by_cases hb:j<=3
 .rcases fG (l:=[n,m]) with z|z
  .refine .inl fun q hq=>?_
   rcases bU.mp hq with rfl|hq
   .exact z q (by simp)
   .rcases bU.mp hq with rfl|hq
    .exact z q (by simp)
    .rw[rN.mp hq];omega
  .exact .inr (eX z)
 .exact .inr (cY (decide_eq_false hb))
theorem ac_(T:Txt K mg a){n:Int}{rx ry:List Int}(h:ig ([(11:Int),n]::[rx,ry])=true):Does w K mg base a tb 11 [n] [rx,ry]:=by
 have h:((dR n&&(jB rx).isSome)&&(jB ry).isSome)=true:=h
 obtain⟨h,hry⟩:=gB.mp h
 obtain⟨h,hrx⟩:=gB.mp h
 have hn:=h
 obtain⟨n,rfl⟩:=bK hn
 obtain⟨x,ex,rfl⟩:=value_of hrx
 obtain⟨y,ey,rfl⟩:=value_of hry
 have e0:h_ ([(11:Int),(n:Int)]::[aZ x,aZ y])=some (bA.add n x y):=by
  show(do some (bA.add (<-dH (n:Int)) (<-jB (aZ x)) (<-jB (aZ y))))=_
  simp only[je,ex,ey];rfl
 refine⟨(bA.add n x y),[n],[x,y],6,_,_,e0,rfl,rfl,(fG (l:=[n])).imp id fun z=>eX z,fun z=>⟨z x (by simp),z y (by simp)⟩,by decide,Vr (w:=w) (base:=base) (tb:=tb) T,fun vs H Q E h=>⟨n,x,y,h⟩⟩
theorem ac'(T:Txt K mg a){n m:Int}(h:ig ([(12:Int),n,m]::[])=true):Does w K mg base a tb 12 [n,m] []:=by
 have h:(dR n&&dR m)=true:=h
 obtain⟨h,hm⟩:=gB.mp h
 have hn:=h
 obtain⟨n,rfl⟩:=bK hn
 obtain⟨m,rfl⟩:=bK hm
 have e0:h_ ([(12:Int),(n:Int),(m:Int)]::[])=some (bA.take n m):=by
  show(do some (bA.take (<-dH (n:Int)) (<-dH (m:Int))))=_
  simp only[je];rfl
 refine⟨(bA.take n m),[n,m],[],4,_,_,e0,rfl,rfl,fG,fun _=>trivial,by decide,S5 (w:=w) (base:=base) (tb:=tb) T,fun vs H Q E h=>⟨n,m,h⟩⟩
theorem ada(T:Txt K mg a){n m:Int}{rx:List Int}(h:ig ([(13:Int),n,m]::[rx])=true):Does w K mg base a tb 13 [n,m] [rx]:=by
 have h:((dR n&&dR m)&&(jB rx).isSome)=true:=h
 obtain⟨h,hrx⟩:=gB.mp h
 obtain⟨h,hm⟩:=gB.mp h
 have hn:=h
 obtain⟨n,rfl⟩:=bK hn
 obtain⟨m,rfl⟩:=bK hm
 obtain⟨x,ex,rfl⟩:=value_of hrx
 have e0:h_ ([(13:Int),(n:Int),(m:Int)]::[aZ x])=some (bA.insert n m x):=by
  show(do some (bA.insert (<-dH (n:Int)) (<-dH (m:Int)) (<-jB (aZ x))))=_
  simp only[je,ex];rfl
 refine⟨(bA.insert n m x),[n,m],[x],6,_,_,e0,rfl,rfl,(fG (l:=[n,m])).imp id fun z=>eX z,fun z=>z x (by simp),by decide,Ng (w:=w) (base:=base) (tb:=tb) T,fun vs H Q E h=>⟨n,m,x,h⟩⟩
theorem adb(T:Txt K mg a){n m:Int}{rx:List Int}(h:ig ([(14:Int),n,m]::[rx])=true):Does w K mg base a tb 14 [n,m] [rx]:=by
 have h:((dR n&&dR m)&&(jB rx).isSome)=true:=h
 obtain⟨h,hrx⟩:=gB.mp h
 obtain⟨h,hm⟩:=gB.mp h
 have hn:=h
 obtain⟨n,rfl⟩:=bK hn
 obtain⟨m,rfl⟩:=bK hm
 obtain⟨x,ex,rfl⟩:=value_of hrx
 have e0:h_ ([(14:Int),(n:Int),(m:Int)]::[aZ x])=some (bA.change n m x):=by
  show(do some (bA.change (<-dH (n:Int)) (<-dH (m:Int)) (<-jB (aZ x))))=_
  simp only[je,ex];rfl
 refine⟨(bA.change n m x),[n,m],[x],6,_,_,e0,rfl,rfl,(fG (l:=[n,m])).imp id fun z=>eX z,fun z=>z x (by simp),by decide,M_ (w:=w) (base:=base) (tb:=tb) T,fun vs H Q E h=>⟨n,m,x,h⟩⟩
theorem ade(T:Txt K mg a){n m j:Int}(h:ig ([(15:Int),n,m,j]::[])=true):Does w K mg base a tb 15 [n,m,j] []:=by
 have h:((dR n&&dR m)&&dR j)=true:=h
 obtain⟨h,hj⟩:=gB.mp h
 obtain⟨h,hm⟩:=gB.mp h
 have hn:=h
 obtain⟨n,rfl⟩:=bK hn
 obtain⟨m,rfl⟩:=bK hm
 obtain⟨j,rfl⟩:=bK hj
 have e0:h_ ([(15:Int),(n:Int),(m:Int),(j:Int)]::[])=some (bA.remove n m j):=by
  show(do some (bA.remove (<-dH (n:Int)) (<-dH (m:Int)) (<-dH (j:Int))))=_
  simp only[je];rfl
 refine⟨(bA.remove n m j),[n,m,j],[],5,_,_,e0,rfl,rfl,fG,fun _=>trivial,by decide,Nh (w:=w) (base:=base) (tb:=tb) T,fun vs H Q E h=>⟨n,m,j,h⟩⟩
theorem adf(T:Txt K mg a)(L:yS K mg base a tb){n m:Int}(h:ig ([(16:Int),n,m]::[])=true):Does w K mg base a tb 16 [n,m] []:=by
 have h:(dR n&&dR m)=true:=h
 obtain⟨h,hm⟩:=gB.mp h
 have hn:=h
 obtain⟨n,rfl⟩:=bK hn
 obtain⟨m,rfl⟩:=bK hm
 have e0:h_ ([(16:Int),(n:Int),(m:Int)]::[])=some (bA.sorted n m):=by
  show(do some (bA.sorted (<-dH (n:Int)) (<-dH (m:Int))))=_
  simp only[je];rfl
 refine⟨(bA.sorted n m),[n,m],[],10,_,_,e0,rfl,rfl,?s,fun _=>trivial,by decide,Ni (w:=w) (base:=base) (tb:=tb) T L,fun vs H Q E h=>⟨n,m,h⟩⟩
 show _\/(fH [n]&&decide (m<=2))=false
 by_cases hb:m<=2
 .rcases fG (l:=[n]) with z|z
  .refine .inl fun q hq=>?_
   rcases bU.mp hq with rfl|hq
   .exact z q (by simp)
   .rw[rN.mp hq];omega
  .exact .inr (eX z)
 .exact .inr (cY (decide_eq_false hb))
theorem adg(T:Txt K mg a){n:Int}(h:ig ([(17:Int),n]::[])=true):Does w K mg base a tb 17 [n] []:=by
 have h:dR n=true:=h
 have hn:=h
 obtain⟨n,rfl⟩:=bK hn
 have e0:h_ ([(17:Int),(n:Int)]::[])=some (bA.forget n):=by
  show(do some (bA.forget (<-dH (n:Int))))=_
  simp only[je];rfl
 refine⟨(bA.forget n),[n],[],3,_,_,e0,rfl,rfl,fG,fun _=>trivial,by decide,Nf (w:=w) (base:=base) (tb:=tb) T,fun vs H Q E h=>⟨n,h⟩⟩
theorem adh(T:Txt K mg a)(h:ig ([(18:Int)]::[])=true):Does w K mg base a tb 18 [] []:=by
 have e0:h_ ([(18:Int)]::[])=some (bA.room):=by
  show some bA.room=_
  rfl
 refine⟨(bA.room),[],[],1,_,_,e0,rfl,rfl,.inl fun n hn=>by simp at hn,fun _=>trivial,by decide,SQ (w:=w) (base:=base) (tb:=tb) T,fun vs H Q E h=>h⟩
theorem adi(T:Txt K mg a){n:Int}(h:ig ([(19:Int),n]::[])=true):Does w K mg base a tb 19 [n] []:=by
 have h:dR n=true:=h
 have hn:=h
 obtain⟨n,rfl⟩:=bK hn
 have e0:h_ ([(19:Int),(n:Int)]::[])=some (bA.kind n):=by
  show(do some (bA.kind (<-dH (n:Int))))=_
  simp only[je];rfl
 refine⟨(bA.kind n),[n],[],2,_,_,e0,rfl,rfl,fG,fun _=>trivial,by decide,SM (w:=w) (base:=base) (tb:=tb) T,fun vs H Q E h=>⟨n,h⟩⟩
theorem adk(T:Txt K mg a){n:Int}(h:ig ([(20:Int),n]::[])=true):Does w K mg base a tb 20 [n] []:=by
 have h:dR n=true:=h
 have hn:=h
 obtain⟨n,rfl⟩:=bK hn
 have e0:h_ ([(20:Int),(n:Int)]::[])=some (bA.form n):=by
  show(do some (bA.form (<-dH (n:Int))))=_
  simp only[je];rfl
 refine⟨(bA.form n),[n],[],3,_,_,e0,rfl,rfl,fG,fun _=>trivial,by decide,Sy (w:=w) (base:=base) (tb:=tb) T,fun vs H Q E h=>⟨n,h⟩⟩
theorem adl(T:Txt K mg a){rx:List Int}(h:ig ([(21:Int)]::[rx])=true):Does w K mg base a tb 21 [] [rx]:=by
 have h:(jB rx).isSome=true:=h
 have hrx:=h
 obtain⟨x,ex,rfl⟩:=value_of hrx
 have e0:h_ ([(21:Int)]::[aZ x])=some (bA.of_ x):=by
  show(do some (bA.of_ (<-jB (aZ x))))=_
  simp only[je,ex];rfl
 refine⟨(bA.of_ x),[],[x],8,_,_,e0,rfl,rfl,.inl fun n hn=>by simp at hn,fun z=>z x (by simp),by decide,Xu (w:=w) (base:=base) (tb:=tb) T,fun vs H Q E h=>⟨x,h⟩⟩
theorem adn(T:Txt K mg a){n m:Int}(h:ig ([(22:Int),n,m]::[])=true):Does w K mg base a tb 22 [n,m] []:=by
 have h:(dR n&&dR m)=true:=h
 obtain⟨h,hm⟩:=gB.mp h
 have hn:=h
 obtain⟨n,rfl⟩:=bK hn
 obtain⟨m,rfl⟩:=bK hm
 have e0:h_ ([(22:Int),(n:Int),(m:Int)]::[])=some (bA.same n m):=by
  show(do some (bA.same (<-dH (n:Int)) (<-dH (m:Int))))=_
  simp only[je];rfl
 refine⟨(bA.same n m),[n,m],[],3,_,_,e0,rfl,rfl,fG,fun _=>trivial,by decide,SX (w:=w) (base:=base) (tb:=tb) T,fun vs H Q E h=>⟨n,m,h⟩⟩
theorem ado(T:Txt K mg a){n:Int}{rx ry:List Int}(h:ig ([(23:Int),n]::[rx,ry])=true):Does w K mg base a tb 23 [n] [rx,ry]:=by
 have h:((dR n&&(jB rx).isSome)&&(jB ry).isSome)=true:=h
 obtain⟨h,hry⟩:=gB.mp h
 obtain⟨h,hrx⟩:=gB.mp h
 have hn:=h
 obtain⟨n,rfl⟩:=bK hn
 obtain⟨x,ex,rfl⟩:=value_of hrx
 obtain⟨y,ey,rfl⟩:=value_of hry
 have e0:h_ ([(23:Int),(n:Int)]::[aZ x,aZ y])=some (bA.before n x y):=by
  show(do some (bA.before (<-dH (n:Int)) (<-jB (aZ x)) (<-jB (aZ y))))=_
  simp only[je,ex,ey];rfl
 refine⟨(bA.before n x y),[n],[x,y],6,_,_,e0,rfl,rfl,?s,fun z=>⟨z x (by simp),z y (by simp)⟩,by decide,M9 (w:=w) (base:=base) (tb:=tb) T,fun vs H Q E h=>⟨n,x,y,h⟩⟩
 show _\/(decide (n<=2)&&(iV x&&iV y))=false
 by_cases hb:n<=2
 .exact .inl fun q hq=>by rw[rN.mp hq];omega
 .exact .inr (eX (decide_eq_false hb))
theorem adp(T:Txt K mg a)(L:yS K mg base a tb){n m:Int}(h:ig ([(24:Int),n,m]::[])=true):Does w K mg base a tb 24 [n,m] []:=by
 have h:(dR n&&dR m)=true:=h
 obtain⟨h,hm⟩:=gB.mp h
 have hn:=h
 obtain⟨n,rfl⟩:=bK hn
 obtain⟨m,rfl⟩:=bK hm
 have e0:h_ ([(24:Int),(n:Int),(m:Int)]::[])=some (bA.differ n m):=by
  show(do some (bA.differ (<-dH (n:Int)) (<-dH (m:Int))))=_
  simp only[je];rfl
 refine⟨(bA.differ n m),[n,m],[],6,_,_,e0,rfl,rfl,fG,fun _=>trivial,by decide,Nb (w:=w) (base:=base) (tb:=tb) T L,fun vs H Q E h=>⟨n,m,h⟩⟩
theorem abb(T:Txt K mg a)(L:yS K mg base a tb){pn:Int}{ws:List Int}{rows:List (List Int)}(hs:pW pn=some (ws.length,rows.length))(h:ig ((pn::ws)::rows)=true):Does w K mg base a tb pn ws rows:=by
 unfold pW at hs
 by_cases c1:pn=1
 .rw[if_pos c1] at hs
  obtain⟨e1,e2⟩:=fJ (dJ hs)
  subst c1
  match ws,e1,rows,e2,h with
  |[n,m],_,[],_,h=>exact aeI T h
 rw[if_neg c1] at hs
 by_cases c2:pn=2
 .rw[if_pos c2] at hs
  obtain⟨e1,e2⟩:=fJ (dJ hs)
  subst c2
  match ws,e1,rows,e2,h with
  |[n],_,[rx,ry],_,h=>exact aeJ T h
 rw[if_neg c2] at hs
 by_cases c3:pn=3
 .rw[if_pos c3] at hs
  obtain⟨e1,e2⟩:=fJ (dJ hs)
  subst c3
  match ws,e1,rows,e2,h with
  |[n],_,[rx],_,h=>exact aeK T h
 rw[if_neg c3] at hs
 by_cases c4:pn=4
 .rw[if_pos c4] at hs
  obtain⟨e1,e2⟩:=fJ (dJ hs)
  subst c4
  match ws,e1,rows,e2,h with
  |[n],_,[rx],_,h=>exact aeL T h
 rw[if_neg c4] at hs
 by_cases c5:pn=5
 .rw[if_pos c5] at hs
  obtain⟨e1,e2⟩:=fJ (dJ hs)
  subst c5
  match ws,e1,rows,e2,h with
  |[n],_,[rx],_,h=>exact aeM T h
 rw[if_neg c5] at hs
 by_cases c6:pn=6
 .rw[if_pos c6] at hs
  obtain⟨e1,e2⟩:=fJ (dJ hs)
  subst c6
  match ws,e1,rows,e2,h with
  |[n],_,[],_,h=>exact aeN T h
 rw[if_neg c6] at hs
 by_cases c7:pn=7
 .rw[if_pos c7] at hs
  obtain⟨e1,e2⟩:=fJ (dJ hs)
  subst c7
  match ws,e1,rows,e2,h with
  |[n],_,[rx],_,h=>exact aeO T h
 rw[if_neg c7] at hs
 by_cases c8:pn=8
 .rw[if_pos c8] at hs
  obtain⟨e1,e2⟩:=fJ (dJ hs)
  subst c8
  match ws,e1,rows,e2,h with
  |[n,m],_,[],_,h=>exact aeP T h
 rw[if_neg c8] at hs
 by_cases c9:pn=9
 .rw[if_pos c9] at hs
  obtain⟨e1,e2⟩:=fJ (dJ hs)
  subst c9
  match ws,e1,rows,e2,h with
  |[n,m,j],_,[],_,h=>exact aeQ T h
 rw[if_neg c9] at hs
 by_cases c10:pn=10
 .rw[if_pos c10] at hs
  obtain⟨e1,e2⟩:=fJ (dJ hs)
  subst c10
  match ws,e1,rows,e2,h with
  |[n,m,j],_,[],_,h=>exact ac9 T L h
 rw[if_neg c10] at hs
 by_cases c11:pn=11
 .rw[if_pos c11] at hs
  obtain⟨e1,e2⟩:=fJ (dJ hs)
  subst c11
  match ws,e1,rows,e2,h with
  |[n],_,[rx,ry],_,h=>exact ac_ T h
 rw[if_neg c11] at hs
 by_cases c12:pn=12
 .rw[if_pos c12] at hs
  obtain⟨e1,e2⟩:=fJ (dJ hs)
  subst c12
  match ws,e1,rows,e2,h with
  |[n,m],_,[],_,h=>exact ac' T h
 rw[if_neg c12] at hs
 by_cases c13:pn=13
 .rw[if_pos c13] at hs
  obtain⟨e1,e2⟩:=fJ (dJ hs)
  subst c13
  match ws,e1,rows,e2,h with
  |[n,m],_,[rx],_,h=>exact ada T h
 rw[if_neg c13] at hs
 by_cases c14:pn=14
 .rw[if_pos c14] at hs
  obtain⟨e1,e2⟩:=fJ (dJ hs)
  subst c14
  match ws,e1,rows,e2,h with
  |[n,m],_,[rx],_,h=>exact adb T h
 rw[if_neg c14] at hs
 by_cases c15:pn=15
 .rw[if_pos c15] at hs
  obtain⟨e1,e2⟩:=fJ (dJ hs)
  subst c15
  match ws,e1,rows,e2,h with
  |[n,m,j],_,[],_,h=>exact ade T h
 rw[if_neg c15] at hs
 by_cases c16:pn=16
 .rw[if_pos c16] at hs
  obtain⟨e1,e2⟩:=fJ (dJ hs)
  subst c16
  match ws,e1,rows,e2,h with
  |[n,m],_,[],_,h=>exact adf T L h
 rw[if_neg c16] at hs
 by_cases c17:pn=17
 .rw[if_pos c17] at hs
  obtain⟨e1,e2⟩:=fJ (dJ hs)
  subst c17
  match ws,e1,rows,e2,h with
  |[n],_,[],_,h=>exact adg T h
 rw[if_neg c17] at hs
 by_cases c18:pn=18
 .rw[if_pos c18] at hs
  obtain⟨e1,e2⟩:=fJ (dJ hs)
  subst c18
  match ws,e1,rows,e2,h with
  |[],_,[],_,h=>exact adh T h
 rw[if_neg c18] at hs
 by_cases c19:pn=19
 .rw[if_pos c19] at hs
  obtain⟨e1,e2⟩:=fJ (dJ hs)
  subst c19
  match ws,e1,rows,e2,h with
  |[n],_,[],_,h=>exact adi T h
 rw[if_neg c19] at hs
 by_cases c20:pn=20
 .rw[if_pos c20] at hs
  obtain⟨e1,e2⟩:=fJ (dJ hs)
  subst c20
  match ws,e1,rows,e2,h with
  |[n],_,[],_,h=>exact adk T h
 rw[if_neg c20] at hs
 by_cases c21:pn=21
 .rw[if_pos c21] at hs
  obtain⟨e1,e2⟩:=fJ (dJ hs)
  subst c21
  match ws,e1,rows,e2,h with
  |[],_,[rx],_,h=>exact adl T h
 rw[if_neg c21] at hs
 by_cases c22:pn=22
 .rw[if_pos c22] at hs
  obtain⟨e1,e2⟩:=fJ (dJ hs)
  subst c22
  match ws,e1,rows,e2,h with
  |[n,m],_,[],_,h=>exact adn T h
 rw[if_neg c22] at hs
 by_cases c23:pn=23
 .rw[if_pos c23] at hs
  obtain⟨e1,e2⟩:=fJ (dJ hs)
  subst c23
  match ws,e1,rows,e2,h with
  |[n],_,[rx,ry],_,h=>exact ado T h
 rw[if_neg c23] at hs
 by_cases c24:pn=24
 .rw[if_pos c24] at hs
  obtain⟨e1,e2⟩:=fJ (dJ hs)
  subst c24
  match ws,e1,rows,e2,h with
  |[n,m],_,[],_,h=>exact adp T L h
 rw[if_neg c24] at hs
 cases hs
end
def Rs(s:bu)(r:bu×mX):Prop:=∀why,r.2= .refused why->r.1=s
theorem lN{s:bu}{x:mX}:Rs s (s,x):=fun _ _=>rfl
theorem Lp{s:bu}{v:bC}:Rs s (s.make v):=by
 unfold bu.make
 split
 .exact lN
 .intro why h;cases h
theorem tO{s:bu}{n:Nat}{ok:Nat->Bool}{f:bC->Option (List aN)}{no:mX}:Rs s (s.from n ok f no):=by
 unfold bu.from
 split
 .exact lN
 .split
  .exact lN
  .split
   .exact Lp
   .exact lN
theorem Jt{s:bu}{n:Nat}{ok:Nat->Bool}{f:bC->mX}:Rs s (s.ask n ok f):=by
 unfold bu.ask
 split
 .exact lN
 .split
  .exact lN
  .exact lN
theorem XH{s:bu}{n m:Nat}{f:bC->bC->bu×mX}(h:∀v u,Rs s (f v u)):Rs s (s.two n m f):=by
 unfold zM
 split
 .exact h _ _
 .exact lN
theorem adP{s:bu}{c:bA}:Rs s (bJ s c):=by
 unfold bJ
 split
 .exact lN
 .cases c with
  |new k o=>exact Lp
  |put n k x=>exact tO
  |insertKey n k=>exact tO
  |drop n k=>exact tO
  |get n k=>exact Jt
  |count n=>exact Jt
  |rank n k=>exact Jt
  |at_ n i=>exact Jt
  |range n i m=>exact tO
  |join n m h=>
   refine XH fun v u=>?_
   split
   .exact lN
   .exact Lp
  |add n k x=>exact tO
  |take n m=>exact tO
  |insert n i x=>exact tO
  |change n i x=>exact tO
  |remove n i m=>exact tO
  |sorted n o=>exact tO
  |forget n=>
   show Rs s (match s.get n with|none=>uF s .absent|some _=>_)
   split
   .exact lN
   .intro why h;cases h
  |room=>exact lN
  |kind n=>exact Jt
  |form n=>exact Jt
  |of_ f=>
   dsimp only
   split
   .split
    .exact lN
    .split
     .exact Lp
     .exact lN
   .exact lN
  |same n m=>exact XH fun _ _=>lN
  |before o x y=>exact lN
  |differ n m=>
   refine XH fun v u=>?_
   split
   .exact lN
   .exact lN
theorem iz{p k:Int}{n m u v:Nat}{r:Option (Nat×Nat)}(hs:(if p=k then some (n,m) else r)=some (u,v)):(p=k/\n=u/\m=v)\/r=some (u,v):=by
 by_cases c:p=k
 .rw[if_pos c] at hs
  cases hs
  exact .inl ⟨c,rfl,rfl⟩
 .rw[if_neg c] at hs
  exact .inr hs
theorem acF{c:List (List Int)}(h:PyFlat.okCall pW c):PyWrewaj.whole c=c:=by
 obtain⟨p,a,xs,rfl,hs⟩:=h
 unfold pW at hs
 iterate 24
  rcases iz hs with⟨rfl,h1,h2⟩|hs
  ·(first|obtain rfl:=wl0 h1|obtain⟨_,rfl⟩:=wl1 h1|obtain⟨_,_,rfl⟩:=wl2 h1|obtain⟨_,_,_,rfl⟩:=wl3 h1)
   (first|obtain rfl:=wl0 h2|obtain⟨_,rfl⟩:=wl1 h2|obtain⟨_,_,rfl⟩:=wl2 h2)
   rfl
 cases hs
theorem aa4{l:List Int}(h:PyWrewaj.answers_asked l=true):∃cs,PyWrewaj.calls l=some cs/\l=cG cs/\(∀c∈cs,PyFlat.okCall pW c)/\(∀c∈cs,ig c=true)/\(PyFlat.told (PyFlat.played o_ CollNeutral.start cs)).length<=10000000/\
  PyWrewaj.answers l=PyFlat.told (PyFlat.played o_ CollNeutral.start cs):=by
 unfold PyWrewaj.answers_asked at h
 cases e:PyWrewaj.calls l with
 |none=>rw[e] at h;cases h
 |some cs=>
  rw[e] at h
  have h:((PyFlat.atMost 1200 cs&&CollNeutral.asked cs)&&PyFlat.short 10000000 (PyWrewaj.answers l))=true:=h
  obtain⟨h1,h2⟩:=gB.mp h
  obtain⟨_,h3⟩:=gB.mp h1
  have ea:PyWrewaj.answers l=PyFlat.told (PyFlat.played o_ CollNeutral.start cs):=by
   unfold PyWrewaj.answers
   rw[e]
  unfold PyWrewaj.calls at e
  cases e2:PyFlat.calls pW l.length l with
  |none=>rw[e2] at e;cases e
  |some cs'=>
   rw[e2] at e
   have ec:cs'.map PyWrewaj.whole=cs:=dJ e
   obtain⟨p1,p2⟩:=PyFlat.put_calls _ _ _ e2
   have ei:cs'.map PyWrewaj.whole=cs':=by
    rw[Qt fun c hc=>acF (p2 c hc),List.map_id']
   rw[ei] at ec
   subst ec
   refine⟨cs',rfl,p1,p2,?_,?_,ea⟩
   .unfold CollNeutral.asked at h3
    obtain⟨_,h4⟩:=gB.mp h3
    obtain⟨h5,_⟩:=gB.mp h4
    exact fun c hc=>wU.mp h5 c hc
   .rw[<-ea];exact of_decide_eq_true h2
theorem YK:∀{rows:List (List Int)} {row:List Int},row∈rows->row.length<=(rP rows).length/\∀z∈row,z∈rP rows
 |x::r,row,h=>by
  show row.length<=(((x.length:Int)::x)++rP r).length/\∀z∈row,z∈((x.length:Int)::x)++rP r
  rcases bU.mp h with rfl|h
  .exact⟨by simp;omega,fun z hz=>by simp[hz]⟩
  .obtain⟨h1,h2⟩:=YK h
   exact⟨by rw[dN];omega,fun z hz=>iD _ (h2 z hz)⟩
theorem ab6:∀{cs:List (List (List Int))} {h:List Int} {rows:List (List Int)} {row:List Int},(h::rows)∈cs->row∈rows->row.length<=(cG cs).length/\∀z∈row,z∈cG cs
 |c::cs,h,rows,row,hm,hr=>by
  show row.length<=(PyFlat.put1 c++cG cs).length/\∀z∈row,z∈PyFlat.put1 c++cG cs
  rcases bU.mp hm with e|hm
  .subst e
   obtain⟨h1,h2⟩:=YK hr
   show row.length<=((h++rP rows)++cG cs).length/\∀z∈row,z∈(h++rP rows)++cG cs
   exact⟨by rw[dN,dN];omega,fun z hz=>Bw _ (iD _ (h2 z hz))⟩
  .obtain⟨h1,h2⟩:=ab6 hm hr
   exact⟨by rw[dN];omega,fun z hz=>iD _ (h2 z hz)⟩
theorem abt:∀{cs:List (List (List Int))} {h:List Int} {rows:List (List Int)},(h::rows)∈cs->∀z∈h,z∈cG cs
 |c::cs,h,rows,hm,z,hz=>by
  show z∈PyFlat.put1 c++cG cs
  rcases bU.mp hm with e|hm
  .subst e
   exact Bw _ (Bw _ hz)
  .exact iD _ (abt hm z hz)
def Uc(cs:List (List (List Int))):bu:=cs.foldl (fun s c=>(o_ s c).1) Coll.start
theorem J9(c:List (List Int)):∀(cs:List (List (List Int))) (s:bu),PyFlat.played o_ s (cs++[c])=PyFlat.played o_ s cs++[(o_ (cs.foldl (fun s c=>(o_ s c).1) s) c).2]
 |[],s=>rfl
 |x::r,s=>by
  show(o_ s x).2::PyFlat.played o_ (o_ s x).1 (r++[c])=_
  rw[J9 c r];rfl
def toldOf(cs:List (List (List Int))):List Int:=PyFlat.told (PyFlat.played o_ CollNeutral.start cs)
theorem Rx{cs:List (List (List Int))}{c:List (List Int)}:toldOf (cs++[c])=toldOf cs++(((o_ (Uc cs) c).2.length:Int)::(o_ (Uc cs) c).2):=by
 unfold toldOf
 rw[show CollNeutral.start=Coll.start from rfl,J9]
 unfold PyFlat.told
 rw[LC]
 simp[Uc]
theorem aaU{cs:List (List (List Int))}{c:List (List Int)}:Uc (cs++[c])=(o_ (Uc cs) c).1:=by
 unfold Uc
 rw[List.foldl_append];rfl
theorem aec{cs:List (List (List Int))}(i:Nat):(toldOf (cs.take i)).length<=(toldOf cs).length:=by
 have go:∀(b a:List (List (List Int))),(toldOf a).length<=(toldOf (a++b)).length:=fun b=>by
  induction b with
  |nil=>intro a;rw[vI];exact cF _
  |cons c r ih=>
   intro a
   have h1:=ih (a++[c])
   rw[Rx,dN,ud] at h1
   exact mR (Nat.le_add_right _ _) h1
 have:=go (cs.drop i) (cs.take i)
 rw[LK] at this
 exact this
theorem step_call{s:bu}{c:List (List Int)}{x:bA}(h:h_ c=some x):o_ s c=((bJ s x).1,IK (bJ s x).2):=by
 unfold o_
 rw[h]
def HX(t:Addr)(xs:List V):HO:= .ext fun h=>xs.length<=dM/\∃(its:List Value) (n:Nat),Vals xs its/\h.get? t=some {cls:= .type "list",data:= .seq its.toArray n}
def agU(te:TE):TE:=fun σ H Q=>∃t xs,H t=some (.lst xs)/\te σ (L2.upd H t (HX t xs)) fun v H'=>H' t=some (HX t xs)/\((∀qual,H' t≠some (CdO t qual))->Q v (L2.upd H' t (.lst xs)))
theorem adK{X:Cx}{e:Expr}{te:TE}(he:PE X e te):PE X e (agU te):=by
 intro pins s σ H Q I h
 obtain⟨t,xs,ht,q⟩:=h
 obtain⟨z,its,n,r,e1⟩:=id (I.hok t _ ht)
 have I1:Inv X pins σ (L2.upd H t (HX t xs)) {s with heap:=s.heap,toks:=s.toks}:=
  I.write (x:=t) (e:=t) (by rw[ht];exact trivial) (.inl rfl) (fun b u _ q=>q) ⟨_,e1⟩ ⟨⟨z,its,n,r,e1⟩,⟨_,e1⟩,fun h1 h2 ⟨z,i2,n2,r2,q2⟩ k=>⟨z,i2,n2,r2,k _ q2⟩⟩
 refine jk (he pins s σ _ _ I1 q) fun v s1 ⟨x,H1,I2,rx,q1,q2⟩=>?_
 obtain⟨⟨z,i2,n2,r2,e2⟩,_,_⟩:=id (I2.hok t _ q1)
 have I3:Inv X pins σ (L2.upd H1 t (.lst xs)) {s1 with heap:=s1.heap,toks:=s1.toks}:=
  I2.write (x:=t) (e:=t) (by rw[q1];exact trivial) (.inl rfl) (fun b u _ q=>q) ⟨_,e2⟩ ⟨z,i2,n2,r2,e2⟩
 refine⟨x,_,I3,rx,q2 fun qual hq=>?_⟩
 obtain⟨hc,_,_⟩:=I2.hok t _ hq
 obtain⟨c,o,vs,k,y1,y2,y3,_⟩:=hc
 cases y1
 rw[e2] at y2
 cases y2
 cases y3
theorem bT.hx{a:Ad}{kind ord:Nat}{H:Hp}{x t:Addr}{e:aN}{p:Heap->Prop}{o:HO}(h:bT a kind ord H x e)(ht:H t=some (.ext p)):bT a kind ord (L2.upd H t o) x e:=by
 have go:∀{b:Addr} {u:HO},H b=some u->(∀p,u≠ .ext p)->(L2.upd H t o) b=some u:=fun{b u} q n=>by
  rw[aD fun z=>n p (by rw[z,ht] at q;exact(dJ q).symm)];exact q
 obtain⟨k,v,p,⟨dx,h1⟩,h2,h3,h4⟩:=h
 exact⟨k,v,p,⟨dx,go h1 fun _ z=>by cases z⟩,go h2 fun _ z=>(by cases z),go h3 fun _ z=>(by cases z),go h4 fun _ z=>(by cases z)⟩
theorem cH.hx{a:Ad}{H:Hp}{sh d t:Addr}{s:bu}{p:Heap->Prop}{o:HO}(S:cH a H sh d s)(ht:H t=some (.ext p)):cH a (L2.upd H t o) sh d s:=by
 have go:∀{b:Addr} {u:HO},H b=some u->(∀p,u≠ .ext p)->(L2.upd H t o) b=some u:=fun{b u} q n=>by
  rw[aD fun z=>n p (by rw[z,ht] at q;exact(dJ q).symm)];exact q
 obtain⟨⟨dx,h1⟩,⟨kvs,h2,h3⟩,h4⟩:=S
 refine⟨⟨dx,go h1 fun _ z=>by cases z⟩,⟨kvs,go h2 fun _ z=>(by cases z),Paired.iM h3 fun _ _ ⟨z1,y,z2,l,as,⟨dy,z3⟩,z4,z5⟩=>⟨z1,y,z2,l,as,⟨dy,go z3 fun _ z=>by cases z⟩,go z4 fun _ z=>(by cases z),Paired.iM z5 fun _ _ z=>z.hx ht⟩⟩,h4⟩
theorem TabsOk.hx{tb:Tb}{H:Hp}{t:Addr}{o:HO}(h:TabsOk tb H)(h1:∀ps,H t≠some (.Ls ps))(h2:∀qual,H t≠some (CdO t qual)):TabsOk tb (L2.upd H t o):=by
 have go:∀{P:Addr} {pos:Pos} {qual:Str},TabAt H P pos qual->TabAt (L2.upd H t o) P pos qual:=fun{P pos qual} ⟨ps,z1,z2,z3⟩=>by
  refine⟨ps,?_,z2,z3.elim .inl fun⟨c',y1,y2⟩=> .inr ⟨c',y1,?_⟩⟩
  .have n:P≠t:=fun z=>by subst z;exact h1 ps z1
   rw[aD n];exact z1
  .have n:c'≠t:=fun z=>by subst z;exact h2 qual y2
   rw[aD n];exact y2
 exact⟨go h.t1,go h.t2,go h.t3⟩
structure Kq(a:Ad)(tb:Tb)(sh sd t:Addr)(cs:List (List (List Int)))(H3:Hp)(i:Nat)(H':Hp):Prop where
 u:∀b u,H3 b=some u->nT u->b≠sh->b≠sd->b≠t->H' b=some u
 shelf:cH a (L2.upd H' t (HX t ((toldOf (cs.take i)).map V.int))) sh sd (Uc (cs.take i))
 ok:pU (Uc (cs.take i))
 tabs:TabsOk tb H'
 told:H' t=some (.lst ((toldOf (cs.take i)).map V.int))
section
variable{w:World}{K:bw}{mg:Str->Option Value}{base:Heap}{a:Ad}{tb:Tb}
def GD(K:bw)(a:Ad)(kvs:List (Key×Value)):Prop:=∀(p:Int) (nw nr:Nat),pW p=some (nw,nr)->∃tc,valueAt kvs (.inl p)=some (.ref tc)/\∀H:Hp,eV K H tc [.int nw,.int nr,.ref (fnOf a p)]
theorem GD.sh{kvs:List (Key×Value)}(h:GD K a kvs):Shapes K kvs:=fun p nw nr e=>let⟨tc,h1,h2⟩:=h p nw nr e;⟨tc,_,h1,h2⟩
inductive Wi(K:bw)(tb:Tb)(vs:List V)(H:Hp)(Q:VK):Prop
 |mk (p:Addr) (l:List Int) (lq:vs=[.ref p]) (hh1:bN K H p (l.map V.int)) (nY:PyWrewaj.answers_asked l=true) (hh3:l.length<=16000) (wO:tR l) (Eo:TabsOk tb H) (Ph:∀(H':Hp) (q:Addr),cQ H H'->TabsOk tb H'->H' q=some (.lst ((PyWrewaj.answers l).map V.int))->Q (.ref q) H')
def JD(K:bw)(tb:Tb):Sp:=fun vs H Q _=>Wi K tb vs H Q
theorem Xq{d:Addr}{kvs:List (Key×Value)}(T:Txt K mg a)(L:yS K mg base a tb)(C:Cat K a)(D0:Lw w K mg d kvs)(SH:GD K a kvs){fd:FuncData}(F:Fun K "answers" "answers" Ef a.vA fd):Fg PP w K mg base (CX1 PP w) 14 a.vA fd ["calls"] (JD K tb):=by
 obtain⟨f1,G1,b1,_⟩:=abQ (w:=w) (base:=base) T
 obtain⟨f2,G2,b2,k2⟩:=PB (w:=w) (base:=base) T D0 SH.sh
 obtain⟨f3,G3,b3,k3⟩:=M8 (w:=w) (base:=base) T C D0
 refine F.ok1 Oe (fun vs H Q E h=>?_) (fun cdv A outer s H vs Q E hr h=>?_)
 .obtain⟨p,l,rfl,_⟩:=h
  rfl
 .obtain⟨p,l,rfl,hS,aeU,hlen,h64,Tt,k⟩:=h
  have hr1:cI 1 _:=hr.mono (by decide)
  have hr2:cI 2 _:=hr.mono (by decide)
  have nd:=Oe.nd
  obtain⟨cs,ec,rfl,hok,aeV,agp,ea⟩:=aa4 aeU
  refine⟨_,ak (aK (i:=1) nd rfl (Or.inl rfl) (ab0 T.fW.Vj G1 hr2 rfl T.fW.glob b1 .nil bG))
   (ak (aK (i:=2) nd rfl (Or.inl rfl) (bL aq))
   (ak (qZ own1 rfl (iQ (aA G2 hr1 rfl T.vf.glob k2 b2 .nil bG (aj (pv 0) aq))) (gH (i:=3) nd rfl (Or.inl rfl))
    (ak (aK (i:=4) nd rfl (Or.inl rfl) (adK (aA G3 hr rfl T.tU.glob k3 b3 .nil bG (aj (pv 1) (aj (bf fj (pv 3) aB (fun _ _=>rfl)) (aj (bf fj (pv 3) aB (fun _ _=>rfl)) (aj (bf fj (pv 3) aB (fun _ _=>rfl)) aq)))))))
    (ak (cZ (pM jJ vG vH jx (pv 2) (aj (bZ bI rfl T.iR jC (aj (pv 4) aq)) aq)))
    (au (cZ (pM jJ Bu Bv qx (pv 2) (aj (pv 4) aq)))))))
   (au (aL (pv 2))))),?_⟩
  intro sh dx nsh ndx nds
  refine⟨sh,dx,rfl,ao,fun H1 sd h1 h2 h3 h4 h5=>⟨rfl,len0,fun t ht=>?_⟩⟩
  have e01:aF H H1:=fun b u q=>h5 b u (by rw[aD (aJ q nsh),aD (aJ q ndx)];exact q) (aJ q nsh)
  have Yh:=aF.upd (o:= .lst []) ht
  have ht0:=ht
  have vJ:=e01.trans Yh
  have tsh:t≠sh:=fun y=>by rw[y,h3] at ht;cases ht
  have tsd:t≠sd:=fun y=>by rw[y,h4] at ht;cases ht
  have S1:cH a H1 sh sd Coll.start:=⟨⟨dx,h3⟩,⟨[],h4,.nil⟩,fun q hq=>by simp[Coll.start] at hq⟩
  refine⟨_,rfl,p,cs,[sh,sd,t],rfl,fun b hb=>?_,vJ.seq hS,hok,hlen,fun H3 ls xs e23 nls hls hp=>?_⟩
  .simp only[bU,Um,or_false] at hb
   rcases hb with rfl|rfl|rfl
   .exact⟨_,Yh _ _ h3,fun _ z=>by cases z⟩
   .exact⟨_,Yh _ _ h4,fun _ z=>by cases z⟩
   .exact⟨_,ao,fun _ z=>by cases z⟩
  .have e13:=Yh.trans e23
   have lsh:ls≠sh:=fun y=>by rw[y,Yh _ _ h3] at nls;cases nls
   have lsd:ls≠sd:=fun y=>by rw[y,Yh _ _ h4] at nls;cases nls
   have lt:ls≠t:=fun y=>by rw[y,ao] at nls;cases nls
   have nt3:∀b∈(ls::[sh,sd,t]),∀ys,H3 b≠some (.tup ys):=fun b hb ys hy=>by
    simp only[bU,Um,or_false] at hb
    rcases hb with rfl|rfl|rfl|rfl
    .rw[hls] at hy;cases hy
    .rw[e13 _ _ h3] at hy;cases hy
    .rw[e13 _ _ h4] at hy;cases hy
    .rw[e23 _ _ ao] at hy;cases hy
   have xl:=gC hp
   have ht3:H3 t=some (.lst []):=e23 _ _ ao
   have kt3:∀{b:Addr} {u:HO} {o:HO},H1 b=some u->(L2.upd H3 t o) b=some u:=fun hb=>by rw[aD (aJ hb ht)];exact e13 _ _ hb
   have S0:cH a (L2.upd H3 t (HX t ((toldOf (cs.take 0)).map V.int))) sh sd (Uc (cs.take 0)):=S1.same fun b u hb=>kt3 hb
   refine⟨ls,rfl,⟨_,bN.of hls⟩,kZ (K:=K) (a:=ls) (xs:=xs.map V.ref) (fun i σ H'=>∃v3 v4:Option V,σ=[some (.ref p),some (.ref sh),some (.ref t),v3,v4]/\Kq a tb sh sd t cs H3 i H')
    ⟨none,none,rfl,fun b u q _ _ _ _=>q,S0,acy,(Tt.same vJ).same e23,e23 _ _ ao⟩ (fun i σ H' _ ⟨_,_,_,Kk⟩=>bN.of (Kk.u _ _ hls trivial lsh lsd lt)) ?_ ?_⟩
   .rintro i x σ H' hi ⟨v3,v4,rfl,Kk⟩
    obtain⟨q,hq,rfl⟩:∃q,xs[i]? =some q/\x=V.ref q:=by
     rw[gw] at hi
     cases z:xs[i]? with
     |none=>rw[z] at hi;cases hi
     |some y=>rw[z] at hi;exact⟨y,rfl,(dJ hi).symm⟩
    obtain⟨c,hc,hR⟩:=cD hp hq
    have hcm:=fZ hc
    have hR':=hR.keep (H':=H') (fun b u q1 q2 q3=>by
     simp only[bU,Um,or_false,not_or] at q3
     refine Kk.u b u q1 ?_ q3.2.1 q3.2.2.1 q3.2.2.2
     cases u<;>first|trivial|exact q2.elim) nt3
    obtain⟨pn,ws,rows,wl,rl,ras,rfl,r1,r2,r3,r4,r5,r6⟩:=hR'
    obtain⟨pn',ws',ao_,ecc,hsh⟩:=hok _ hcm
    cases ecc
    obtain⟨tc,hv,htc⟩:=SH pn _ _ hsh
    obtain⟨call,wn,vals,kf,ps,sp,e0,ews,aeg,hsm,aoj,aoo,⟨fdf,FF,BB,KK⟩,imp⟩:=abb (w:=w) T L hsh (aeV _ hcm)
    have hrow:∀v∈vals,jh v:=fun v hv=>by
     have hm:aZ v∈rows:=by rw[aeg];exact List.mem_map_of_mem hv
     obtain⟨q1,q2⟩:=ab6 hcm hm
     exact⟨by omega,fun z hz=>h64 z (q2 z hz)⟩
    have tk:cs.take (i+1)=cs.take i++[(pn::ws)::rows]:=by rw[mY,hc];rfl
    have tol:toldOf (cs.take (i+1))=toldOf (cs.take i)++(((IK (bJ (Uc (cs.take i)) call).2).length:Int)::IK (bJ (Uc (cs.take i)) call).2):=by
     rw[tk,Rx,step_call e0]
    have ao6:=aec (cs:=cs) (i+1)
    have aov:(toldOf cs).length<=10000000:=agp
    rw[tol,dN,pD] at ao6
    have agb:Uc (cs.take (i+1))=(bJ (Uc (cs.take i)) call).1:=by rw[tk,aaU,step_call e0]
    have okn:pU (Uc (cs.take (i+1))):=by rw[agb];exact ad5 Kk.ok (aoj hrow)
    have nt:∀{b:Addr} {u:HO},H' b=some u->b≠t->(L2.upd H' t (HX t ((toldOf (cs.take i)).map V.int))) b=some u:=fun hb n=>by rw[aD n];exact hb
    have qt:q≠t:=fun y=>by rw[y,Kk.told] at r1;cases r1
    have nin:∀{b:Addr},b∉(ls::[sh,sd,t])->b≠t:=fun{b} hb y=>hb (by rw[y];simp)
    have TT:TabsOk tb (L2.upd H' t (HX t ((toldOf (cs.take i)).map V.int))):=Kk.tabs.hx (fun ps z=>by rw[Kk.told] at z;cases z) fun qual z=>by rw[Kk.told] at z;cases z
    have core:∀Qr:VK,(∀(H4:Hp) (l4:Addr),Kp a tb sh sd (bJ (Uc (cs.take i)) call).1 (L2.upd H' t (HX t ((toldOf (cs.take i)).map V.int))) H4->H4 l4=some (.lst ((IK (bJ (Uc (cs.take i)) call).2).map V.int))->Qr (.ref l4) H4)->
      V5 w K mg base a kvs [.ref sh,.int pn,.ref wl,.ref rl] (L2.upd H' t (HX t ((toldOf (cs.take i)).map V.int))) Qr E0:=fun Qr fin=>by
     refine⟨sh,wl,rl,tc,fnOf a pn,pn,ws,_,_,kf,fdf,ps,sp,rfl,hv,htc _,FF,aoo,KK,BB,bN.of (nt r2 (nin r5)),fun big=>fun l4 H4 e4 ZR=>?_,fun sml=>imp _ _ _ _ ⟨sh,sd,wl,rl,Uc (cs.take i),rfl,⟨Kk.shelf,Kk.ok,TT,?_,⟨ras,nt r3 (nin r6),?_⟩,fun n hn=>?_⟩,fun why hw H4 kp=>?_,fun _ H4 l4 kp ZR=>fin H4 l4 kp ZR⟩⟩
     .have hbad:Coll.asked call=false:=by
       rcases hsm with z|z
       .exfalso
        have:ws.all rE=true:=wU.mpr fun y hy=>by
         rw[ews] at hy
         obtain⟨n,hn,rfl⟩:=uU.mp hy
         have:=z n hn
         unfold rE
         rw[decide_eq_true (by omega),decide_eq_true (by omega)];rfl
        rw[this] at big;cases big
       .exact z
      refine fin H4 l4 ?_ ?_
      .rw[fO hbad]
       exact⟨jz.of (cQ.of e4),Kk.shelf.same e4,TT.same e4⟩
      .rw[fO hbad];exact ZR
     .rw[nt r2 (nin r5),ews,BK];rfl
     .rw[aeg] at r4
      have go:∀{rs:List Addr} {vs:List aQ},Paired (Qm (ls::[sh,sd,t]) H') rs (vs.map aZ)->(∀v∈vs,jh v)->Paired (fun r v=>(L2.upd H' t (HX t ((toldOf (cs.take i)).map V.int))) r=some (.lst ((aZ v).map V.int))/\jh v) rs vs:=fun{rs vs}=>by
       induction vs generalizing rs with
       |nil=>intro h _;cases h;exact .nil
       |cons v r ih=>
        intro h hv
        cases h with
        |cons h1 h2=>exact .cons ⟨nt h1.1 (nin h1.2),hv v fY⟩ (ih h2 fun u hu=>hv u (dU _ hu))
      exact go r4 hrow
     .have:=wU.mp sml (n:Int) (by rw[ews];exact List.mem_map_of_mem hn)
      unfold rE at this
      have:=of_decide_eq_true (gB.mp this).2
      omega
     .have same:=adP why hw
      have g:∀z:Int,IK (bJ (Uc (cs.take i)) call).2=[z]->gives Qr H4 z:=fun z hz l5 H5 e5 hl5=>by
       refine fin H5 l5 ?_ (by rw[hz];exact hl5)
       rw[same]
       exact⟨kp.u.trans (jz.of (cQ.of e5)),kp.shelf.same e5,kp.tabs.same e5⟩
      cases why with
      |range=>exact .inl ⟨rfl,g _ (by rw[hw];rfl)⟩
      |absent=>exact .inr (.inl ⟨rfl,g _ (by rw[hw];rfl)⟩)
      |kind=>exact .inr (.inr (.inl ⟨rfl,g _ (by rw[hw];rfl)⟩))
      |full=>exact .inr (.inr (.inr ⟨rfl,g _ (by rw[hw];rfl)⟩))
    refine⟨t,_,Kk.told,_,rfl,_,rfl,q,_,0,_,rfl,rfl,eV.of (nt r1 qt),rfl,_,rfl,q,_,1,_,rfl,rfl,eV.of (nt r1 qt),rfl,_,rfl,q,_,2,_,rfl,rfl,eV.of (nt r1 qt),rfl,core _ fun H4 l4 kp ZR=>?_⟩
    have ZV:H4 t=some (HX t ((toldOf (cs.take i)).map V.int)):=kp.u _ _ ao trivial tsh tsd
    refine⟨ZV,fun ncd=>?_⟩
    have lt4:l4≠t:=fun y=>by rw[y,ZV] at ZR;cases ZR
    refine⟨_,rfl,.inl ⟨rfl,_,bN.of ao⟩,_,rfl,l4,_,rfl,.inl (bN.of (by rw[aD lt4];exact ZR)),t,_,_,rfl,rfl,ao,fX (by rw[aW];omega),_,rfl,.inl ⟨rfl,_,bN.of ao⟩,_,rfl,t,l4,_,_,rfl,rfl,ao,by rw[aD lt4,aD lt4];exact ZR,cT (by rw[dN,aW,aW,List.length_singleton];omega),_,_,rfl,?_⟩
    rw[Ua,Ua]
    refine⟨fun b u q1 q2 n1 n2 n3=>?_,?_,okn,kp.tabs.hx (fun ps z=>by rw[ZV] at z;cases z) ncd,?_⟩
    .rw[aD n3]
     exact kp.u _ _ (nt (Kk.u b u q1 q2 n1 n2 n3) n3) q2 n1 n2
    .rw[Ua,agb]
     exact kp.shelf.hx ZV
    .rw[ao,tol,aW,ud,fP];rfl
   .rintro σ H' ⟨v3,v4,rfl,Kk⟩
    rw[aW,xl] at Kk
    have ht:=Kk.told
    rw[lC] at ht
    refine⟨_,rfl,k H' t (fun b u q n=>?_) Kk.tabs (by rw[ea];exact ht)⟩
    have nsd:H sd=none:=by
     cases z:H sd with
     |none=>rfl
     |some u=>
      have hs1:sd≠dx:=aJ z ndx
      rw[aD h2,aD hs1,z] at h1;cases h1
    exact Kk.u b u (e23 _ _ (vJ b u q)) n (aJ q nsh) (aJ q nsd) (aJ (e01 b u q) ht0)
end
end Kv
namespace L2
open PySem PySem.Spec PyProof.Rows
open PySem.W (WData Codec OpenSpec Well WellAll ReadsW ReadsAllW tabObj TabsAt noTabs)
theorem XN{P:Program}{w:World}{K:bw}{mg mb:Str->Option Value}{CX:Y5}{k:Nat}{fa:Addr}{fd:FuncData}{ps:List Str}{sp:Sp}{s₁:Shared}{vals:List Value}{ds:List WData}{R:PySem.W.WRecords}{cl:Str->Option Addr}{d0:WData}{PS:List (Addr×Addr)}
  (KX:K.In s₁.heap)(hns:s₁.heap.Ns lA mg)(hb:s₁.heap.Ns builtinsNs mb)(hbb:∀x:Str,x≠"__name__"->mb x=bootBuiltins x)(hlim:s₁.heap.NoLimit)(hg:s₁.gens= #[])
  (hwl:WellAll w.params s₁.heap vals ds)(hpl:K8 ds=true)(hwt:∀d∈ds,d.weight<=1048576)(hr:cI k callerA)(hT:TabsAt PS s₁.heap)(hnt:noTabs K=true)(hbm:BMain mg s₁.heap)
  (F:∀base:Heap,K.In base->base.Ns lA mg->BMain mg base->Fg P w K mg base CX k fa fd ps sp)(hbind:∀(s:Shared) (us:List Value),us.length=ps.length->BindsTo s fd ⟨us,[]⟩ (ps.zip us))(hlen:ds.length=ps.length)
  (hsp:∀(H0 H:Hp) (xs:List V),XS H0->Br K H0 xs ds->(∀b u,H0 b=some u->H b=some u)->(∀q∈PS,H q.2=some (.Ls #[]))->sp xs H (fun v H'=>Dw K H' v d0) fun _ _ _=>False)
  (hCX:∀H e s',CX [] H s₁ (fun _ _ _=>False) e s'->False):
  codeAny (model P w) callerA (.call (.ref fa) ⟨vals,[]⟩) (fun r s'=>∃u as,r= .ok (.ret u)/\ReadsW R cl s'.heap u d0 as/\OldK s₁.heap s'.heap/\s'.os=s₁.os/\AllBare s'.gens) s₁:=by
 obtain⟨A,ho,ar⟩:=G8 ds vals hwl hpl hwt
 have hO:XS (Bm K s₁.heap A):=Zq ar
 have aeX:xO P w (Bm K s₁.heap A) s₁.heap:=ac3 ar
 have hS:=RW KX ar ds vals hwl hpl ho
 have hV:=zH ho
 have hK0:∀b u,Bm K s₁.heap A b=some u->K.lookup b=none:=fun b u q=>(Lb ar q).1
 have sq:∀b u,Bm K s₁.heap A b=some u->∃o vs n,s₁.heap.get? b=some o/\o.data= .seq vs n:=fun b u q=>by
  obtain⟨_,vs,_,_,⟨e2,_⟩|⟨e2,_⟩⟩:=Lb ar q
  .exact⟨_,_,_,e2,rfl⟩
  .exact⟨_,_,_,e2,rfl⟩
 generalize Bm K s₁.heap A=H0 at hO aeX hS hK0 sq
 have hp0:∀q∈PS,H0 q.2=none:=fun q hq=>by
  cases z:H0 q.2 with
  |none=>rfl
  |some u=>
   obtain⟨o,vs,n,e1,e2⟩:=sq _ _ z
   rw[(hT q hq).2] at e1
   cases e1
   cases e2
 obtain⟨H,h1,h2,h3⟩:∃H:Hp,(∀b u,H0 b=some u->H b=some u)/\(∀q∈PS,H q.2=some (.Ls #[]))/\∀b u,H b=some u->H0 b=some u\/∃q∈PS,b=q.2/\u= .Ls #[]:=by
  classical
  refine⟨fun b=>if ∃q∈PS,b=q.2 then some (.Ls #[]) else H0 b,fun b u e=>?_,fun q hq=>?_,fun b u e=>?_⟩
  .show(if ∃q∈PS,b=q.2 then some (HO.Ls #[]) else H0 b)=some u
   rw[if_neg]
   .exact e
   .rintro⟨q,hq,rfl⟩
    rw[hp0 q hq] at e;cases e
  .show(if ∃q'∈PS,q.2=q'.2 then some (HO.Ls #[]) else H0 q.2)=_
   rw[if_pos ⟨q,hq,rfl⟩]
  .have e:(if ∃q∈PS,b=q.2 then some (HO.Ls #[]) else H0 b)=some u:=e
   by_cases z:∃q∈PS,b=q.2
   .rw[if_pos z] at e
    obtain⟨q,hq,hb⟩:=z
    exact .inr ⟨q,hq,hb,(dJ e).symm⟩
   .rw[if_neg z] at e
    exact .inl e
 have hok:xO P w H s₁.heap:=fun b u e=>by
  rcases h3 b u e with z|⟨q,hq,rfl,rfl⟩
  .exact(aeX b u z).stay (fun _ _ _ y=>y) (fun c y=>h1 _ _ y) fun c xs y=>h1 _ _ y
  .exact(hT q hq).2
 have dat:∀{b:Addr} {o:Obj},s₁.heap.get? b=some o->(∀vs n,o.data≠ .seq vs n)->o≠tabObj #[]->H b=none:=fun{b o} e n1 n2=>by
  cases z:H b with
  |none=>rfl
  |some u=>
   exfalso
   rcases h3 b u z with y|⟨q,hq,rfl,rfl⟩
   .obtain⟨o',vs,n,e1,e2⟩:=sq _ _ y
    rw[e] at e1;cases e1
    exact n1 _ _ e2
   .rw[(hT q hq).2] at e
    exact n2 (dJ e).symm
 have noA:∀{b:Addr} {o:Obj} {es:Array DictEntry} {ep:Nat},s₁.heap.get? b=some o->o.data= .dict es ep->H b=none:=fun{b o es ep} e d=>
  dat e (fun vs n z=>by rw[d] at z;cases z) fun z=>by rw[z] at d;cases d
 have RL:∀{b:Addr} {o:Obj},s₁.heap.get? b=some o->H b=none->(Pj s₁.heap H).get? b=some o:=fun e n=>abv e n
 have nsK:∀{b:Addr} {m:Str->Option Value},s₁.heap.Ns b m->(Pj s₁.heap H).Ns b m:=fun{b m} ⟨o,es,ep,e,d,r⟩=>⟨o,es,ep,RL e (noA e d),d,r⟩
 have nK:∀b o,K.lookup b=some o->H b=none:=fun b o e=>by
  cases qq:H b with
  |none=>rfl
  |some u=>
   rcases h3 b u qq with y|⟨q,hq,rfl,rfl⟩
   .rw[hK0 b u y] at e
    cases e
   .have e1:=KX _ _ e
    rw[(hT q hq).2] at e1
    have z:=wU.mp hnt _ (PySem.W.mem_of_lookupK e)
    rw[<-dJ e1] at z
    exact absurd (show false=true from z) iY
 have hKb:K.In (Pj s₁.heap H):=fun b o e=>RL (KX b o e) (nK b o e)
 have hM:Mod K mg (Pj s₁.heap H):=⟨hKb,nsK hns,⟨mb,nsK hb,hbb⟩,let⟨mc,h1,h2⟩:=hlim;⟨mc,nsK h1,h2⟩⟩
 have hBM:BMain mg (Pj s₁.heap H):=by
  obtain⟨bm,ob,b1,b2,b3,b4,b5,b6⟩:=hbm
  exact⟨bm,ob,b1,b2,RL b3 (dat b3 (fun vs n z=>by rw[b6] at z;cases z) fun z=>by rw[z] at b4;cases b4),b4,b5,b6⟩
 have e0:Wg P w K mg (Pj s₁.heap H) callerA [] s₁ H:=⟨rfl,hM,fun b o e=>adH e,Nat.le_of_eq (ZQ _ _),trivial,fun b hb=>absurd (show b∈([]:List Addr) from hb) (by simp),hok,.of_eq hg⟩
 have hl:vals.length=ps.length:=by rw[xN hwl];exact hlen
 refine codeAny_mono ((F _ hKb (nsK hns) hBM).run callerA [] s₁ H ⟨vals,[]⟩ vals (vals.map toV) _ _ hr e0 (hbind s₁ vals hl) hV (hsp H0 H _ hO hS h1 h2)) fun r s' x=>?_
 cases r with
 |error e=>exact(hCX H e s' x).elim
 |ok fl=>
  cases fl with
  |next=>exact False.elim x
  |brk=>exact False.elim x
  |cont=>exact False.elim x
  |ret u=>
   obtain⟨v,H',os,bare,un,hok',r',q⟩:=x
   have kept:∀b o,s₁.heap.get? b=some o->(∀q∈PS,b≠q.2)->s'.heap.get? b=some o:=fun b o e hn=>by
    cases q2:H b with
    |none=>exact un.keep b o e q2 (by intro z;exact absurd (show b∈([]:List Addr) from z) (by simp)) (by simp)
    |some u2=>
     rcases h3 b u2 q2 with y|⟨q,hq,e3,_⟩
     .rcases hO b with z|⟨ob,u3,z⟩
      .rw[y] at z
       cases z
      .have z2:=un.Mw b ob _ (h1 _ _ z)
       obtain⟨e1,_⟩:=aeX b _ z
       obtain⟨e2,_⟩:=hok' b _ z2
       rw[e] at e1
       cases e1
       exact e2
     .exact absurd e3 (hn q hq)
   have grown:∀q∈PS,∃more,s'.heap.get? q.2=some (tabObj more):=fun q hq=>by
    obtain⟨more,e⟩:=un.O5 q.2 #[] (h2 q hq)
    exact⟨_,hok' _ _ e⟩
   have KX':K.In s'.heap:=fun b o e=>kept b o (KX b o e) fun q hq z=>by
    have:=nK b o e
    rw[z,h2 q hq] at this;cases this
   obtain⟨as,hrd⟩:=Dw.reads (R:=R) (cl:=cl) hok' KX' d0 v u q r'
   refine⟨u,as,rfl,hrd,⟨fun b o e=>?_,fun b o e=>?_⟩,os,bare⟩
   .by_cases hn:∃q∈PS,b=q.2
    .obtain⟨q,hq,rfl⟩:=hn
     have e2:=(hT q hq).2
     rw[e] at e2
     cases e2
     obtain⟨more,e3⟩:=grown q hq
     exact .inr (.inl ⟨((hT q hq).1.tab (hT q hq).2).isCodeTable,rfl,#[],more,rfl,by rw[Array.empty_append];exact e3⟩)
    .exact .inl (kept b o e fun q hq z=>hn ⟨q,hq,z⟩)
   .by_cases hn:∃q∈PS,b=q.2
    .obtain⟨q,hq,rfl⟩:=hn
     obtain⟨more,e3⟩:=grown q hq
     exact⟨_,e3⟩
    .exact⟨o,kept b o e fun q hq z=>hn ⟨q,hq,z⟩⟩
theorem XR{r:OpenSpec}{k:Nat}{q:Program}{loose:List Str}{XP:(Str->Option Value)->Heap->Prop}{YP:World->Heap->Prop}{d:DefRec}{K:Params->bw}{CX:World->Y5}{ps:List Str}{sp:World->Sp}{PS:Params->List (Addr×Addr)}
  (agr:r.wellSaid=true)(hlen:r.args.length=ps.length)(hr:cI k callerA)
  (hY:∀(w:World) (h:Heap),YP w h->(K w.params).In h)(hnt:∀p,noTabs (K p)=true)
  (hT:∀(w:World) (mg mb:Str->Option Value) (mean:ExcName->Option Value) (h:Heap),Top q (PySem.W.looseW q loose) mean mg mb h->(K w.params).In h->TabsAt (PS w.params) h)
  (F:∀(w:World) (mg:Str->Option Value) (fa:Addr) (h:Heap),YP w h->(K w.params).In h->h.Ns lA mg->mg d.name=some (.ref fa)->TabsAt (PS w.params) h->
   ∃fd:FuncData,(∀(s:Shared) (us:List Value),us.length=ps.length->BindsTo s fd ⟨us,[]⟩ (ps.zip us))/\
    ∀base:Heap,(K w.params).In base->base.Ns lA mg->BMain mg base->Fg r.prog w (K w.params) mg base (CX w) k fa fd ps (sp w))
  (hsp:∀(w:World) (H0 H:Hp) (xs:List V) (a:Codec.denoteAll r.args),XS H0->Codec.withinAll r.args a=true->Codec.app r.args r.asked a=true->Br (K w.params) H0 xs (Codec.encAll r.args a)->(∀b u,H0 b=some u->H b=some u)->(∀q∈PS w.params,H q.2=some (.Ls #[]))->
   sp w xs H (fun v H'=>Dw (K w.params) H' v (r.ret.enc (Codec.app r.args r.f a))) fun _ _ _=>False)
  (hCX:∀(w:World) (H:Hp) (s:Shared) (e:Value) (s':Shared),CX w [] H s (fun _ _ _=>False) e s'->False):
  PySem.W.WalkOS q loose XP YP r d [] (fun f vs=>PySem.call f vs):=by
 intro w Gz s₁ mg mb G Y fa o pm cd doc dV kV ho hd hcd hD hmg hg args vals as hpre hlay hrd hwl hlo
 obtain⟨a,e1,e2⟩:=PySem.W.os_pre_some hpre
 obtain⟨e3,hwi⟩:=Codec.encAll_of_decAll r.args args a e1
 subst e3
 have KX:=hY w _ Y
 have TT:=hT w mg mb _ _ G.T KX
 obtain⟨fd,hb,hF⟩:=F w mg fa _ Y KX G.T.g hmg TT
 refine PySem.W.enter_call (codeAny_mono (XN (R:=[]) (cl:=classAt Gz.heap) (d0:=r.ret.enc (Codec.app r.args r.f a)) KX G.T.g G.T.b G.T.builtins G.T.nolimit hg hwl (Rj _ _) (MK hlay) hr TT (hnt _) G.T.bmain hF hb (by rw[Mr];exact hlen)
  (fun H0 H xs hO hS h1 h2=>hsp w H0 H xs a hO hwi e2 hS h1 h2) fun H e s'=>hCX w H s₁ e s') fun r' s' hq=>?_)
 obtain⟨u,as',rfl,h1,h2,h3,h4⟩:=hq
 exact⟨.inl ⟨u,_,as',rfl,fun _=>rfl,h1,(OpenSpec.post_iff agr hwi _ _).mpr rfl,fun z=>Bool.noConfusion (show false=true from z)⟩,h2,h3,h4⟩
end L2
namespace Kv
open PySem PySem.Spec PyProof.Rows L2
open PySem.W (nsIn codeIn keepIn findIn mg_of mg_none_of)
section
variable{K:bw}{mg:Str->Option Value}{h:Heap}
theorem bh{x qual:Str}{st:Stmt}{f:Addr}{oc:Value}{od an:Option Addr}{osl:Array (Option Value)}{kV doc pm cdv ct:Value}(X:K.In h)(G:h.Ns lA mg)(a:nsIn K lA x=some (some (.ref f)))
  (l:K.lookup f=some ⟨oc,od,.func (Lz x qual (DX st) (wY st) (aH st) .none kV doc pm an cdv ct),osl⟩)(c:codeIn K cdv qual=true)(k:keepIn K (.ref f)=true):cV K mg x qual st f:=
 ⟨⟨_,abo l c k⟩,mg_of X G a⟩
theorem Ja{x qual:Str}{st:Stmt}{C f:Addr}{oc:Value}{od an:Option Addr}{osl:Array (Option Value)}{kV doc pm cdv ct:Value}(X:K.In h)(G:h.Ns lA mg)(a:nsIn K lA x=some (some (.ref C)))
  (i:findIn K (.ref C) "__init__"=some (some (.ref f)))(l:K.lookup f=some ⟨oc,od,.func (Lz "__init__" qual (DX st) (wY st) (aH st) .none kV doc pm an cdv ct),osl⟩)(c:codeIn K cdv qual=true)(k:keepIn K (.ref f)=true)
  (isf:PySem.W.isFn K (.ref f)=true)(pg:PySem.W.plainGet K C Str.empty=true)(hd:PySem.W.hasDictIn K C=true)(po:PySem.W.plainOver K C=true)(sa:findIn K (.ref C) "__setattr__"=some (some (.builtin "object.__setattr__")))(mk:PySem.W.makesIn K C=true)(kc:keepIn K (.ref C)=true):Y6 K mg x qual st C f:=
 ⟨⟨pg,hd,po,sa⟩,⟨mk,i,isf,kc⟩,⟨_,abo l c k⟩,mg_of X G a⟩
theorem dI{x:Str}{z:Int}{t:Tok}(X:K.In h)(G:h.Ns lA mg)(a:nsIn K lA x=some (some (.int z t))):∃t,mg x=some (.int z t):=⟨t,mg_of X G a⟩
def abE:Value->Bool
 | .str _ _=>true
 |_=>false
theorem R3{x:Str}{C N:Addr}{nm q:Str}{bs:List Value}{hdct:Bool}{sn:List Str}{sub:List Value}{ab:Bool}{col:Option Bool}{dd:Option Addr}{k0 k1 k2 k3 k5:Option Value}{oc:Value}{od:Option Addr}{es:Array DictEntry}{ep:Nat}{osl:Array (Option Value)}(X:K.In h)(G:h.Ns lA mg)(a:nsIn K lA x=some (some (.ref C)))
  (l:K.lookup C=some (excClassObj nm q C N bs [.type "Exception",.type "BaseException",.type "object"] hdct sn sub ab col dd k0 k1 k2 k3 k5 "Exception.__new__"))(n:K.lookup N=some ⟨oc,od,.dict es ep,osl⟩)(s:(es.toList.all fun e=>abE e.key)=true)(i:nsFind es "__init__"=none):Err K mg x C:=by
 refine⟨mg_of X G a,fun h' X'=>⟨_,_,_,_,_,N,_,_,_,_,_,_,_,_,_,_,_,_,_,_,nsFind es,PySem.F.excBase_Exception,by decide,X' _ _ l,⟨_,es,ep,X' _ _ n,rfl,fun e he=>?_,fun _=>rfl⟩,i,.base⟩⟩
 have:=wU.mp s e (Array.mem_toList_iff.mpr he)
 cases hk:e.key with
 |str n t=>exact⟨n,t,rfl⟩
 |_=>rw[hk] at this;cases this
theorem vm{a b:Int}{f tc:Addr}{od:Option Addr}{ta tb:Tok}{n:Nat}{osl:Array (Option Value)}(l:K.lookup tc=some ⟨.type "tuple",od,.seq #[.int a ta,.int b tb,.ref f] n,osl⟩)(H:Hp):eV K H tc [.int a,.int b,.ref f]:=
 .inr ⟨_,_,_,l,rfl,rfl,by show 3<=dM;decide,.cons ⟨_,rfl⟩ (.cons ⟨_,rfl⟩ (.cons rfl .nil))⟩
end
def X8(t1 t2 t3 t4 t5 t6 t7 t8 t9 t10 t11 t12 t13 t14 t15 t16 t17 t18 t19 t20 t21 t22 t23 t24:Addr):List (Key×Value):=[(.inl 1,.ref t1),(.inl 2,.ref t2),(.inl 3,.ref t3),(.inl 4,.ref t4),(.inl 5,.ref t5),(.inl 6,.ref t6),(.inl 7,.ref t7),(.inl 8,.ref t8),(.inl 9,.ref t9),(.inl 10,.ref t10),(.inl 11,.ref t11),(.inl 12,.ref t12),(.inl 13,.ref t13),(.inl 14,.ref t14),(.inl 15,.ref t15),(.inl 16,.ref t16),(.inl 17,.ref t17),(.inl 18,.ref t18),(.inl 19,.ref t19),(.inl 20,.ref t20),(.inl 21,.ref t21),(.inl 22,.ref t22),(.inl 23,.ref t23),(.inl 24,.ref t24)]
section
variable{K:bw}{mg:Str->Option Value}{h:Heap}{w:World}{a:Ad}{d t1 t2 t3 t4 t5 t6 t7 t8 t9 t10 t11 t12 t13 t14 t15 t16 t17 t18 t19 t20 t21 t22 t23 t24:Addr}{k1 k2 k3 k4 k5 k6 k7 k8 k9 k10 k11 k12 k13 k14 k15 k16 k17 k18 k19 k20 k21 k22 k23 k24:Tok}{ep:Nat}
theorem Zu(X:K.In h)(G:h.Ns lA mg)(g:nsIn K lA "CALLS"=some (some (.ref d)))(l:K.lookup d=some ⟨.type "dict",none,.dict #[⟨1,.int 1 k1,.ref t1⟩,⟨2,.int 2 k2,.ref t2⟩,⟨3,.int 3 k3,.ref t3⟩,⟨4,.int 4 k4,.ref t4⟩,⟨5,.int 5 k5,.ref t5⟩,⟨6,.int 6 k6,.ref t6⟩,⟨7,.int 7 k7,.ref t7⟩,⟨8,.int 8 k8,.ref t8⟩,⟨9,.int 9 k9,.ref t9⟩,⟨10,.int 10 k10,.ref t10⟩,⟨11,.int 11 k11,.ref t11⟩,⟨12,.int 12 k12,.ref t12⟩,⟨13,.int 13 k13,.ref t13⟩,⟨14,.int 14 k14,.ref t14⟩,⟨15,.int 15 k15,.ref t15⟩,⟨16,.int 16 k16,.ref t16⟩,⟨17,.int 17 k17,.ref t17⟩,⟨18,.int 18 k18,.ref t18⟩,⟨19,.int 19 k19,.ref t19⟩,⟨20,.int 20 k20,.ref t20⟩,⟨21,.int 21 k21,.ref t21⟩,⟨22,.int 22 k22,.ref t22⟩,⟨23,.int 23 k23,.ref t23⟩,⟨24,.int 24 k24,.ref t24⟩] ep,#[]⟩):Lw w K mg d (X8 t1 t2 t3 t4 t5 t6 t7 t8 t9 t10 t11 t12 t13 t14 t15 t16 t17 t18 t19 t20 t21 t22 t23 t24):=by
 refine⟨mg_of X G g,fun h' X'=>⟨_,_,ep,X' _ _ l,⟨rfl,rfl,rfl⟩,rfl,?_,?_,?_⟩⟩
 .intro e he
  have he':=Array.mem_toList_iff.mpr he
  simp only[bU,Um,or_false] at he'
  rcases he' with rfl|rfl|rfl|rfl|rfl|rfl|rfl|rfl|rfl|rfl|rfl|rfl|rfl|rfl|rfl|rfl|rfl|rfl|rfl|rfl|rfl|rfl|rfl|rfl
  .exact⟨.inl 1,aY 1 k1,rfl⟩
  .exact⟨.inl 2,aY 2 k2,rfl⟩
  .exact⟨.inl 3,aY 3 k3,rfl⟩
  .exact⟨.inl 4,aY 4 k4,rfl⟩
  .exact⟨.inl 5,aY 5 k5,rfl⟩
  .exact⟨.inl 6,aY 6 k6,rfl⟩
  .exact⟨.inl 7,aY 7 k7,rfl⟩
  .exact⟨.inl 8,aY 8 k8,rfl⟩
  .exact⟨.inl 9,aY 9 k9,rfl⟩
  .exact⟨.inl 10,aY 10 k10,rfl⟩
  .exact⟨.inl 11,aY 11 k11,rfl⟩
  .exact⟨.inl 12,aY 12 k12,rfl⟩
  .exact⟨.inl 13,aY 13 k13,rfl⟩
  .exact⟨.inl 14,aY 14 k14,rfl⟩
  .exact⟨.inl 15,aY 15 k15,rfl⟩
  .exact⟨.inl 16,aY 16 k16,rfl⟩
  .exact⟨.inl 17,aY 17 k17,rfl⟩
  .exact⟨.inl 18,aY 18 k18,rfl⟩
  .exact⟨.inl 19,aY 19 k19,rfl⟩
  .exact⟨.inl 20,aY 20 k20,rfl⟩
  .exact⟨.inl 21,aY 21 k21,rfl⟩
  .exact⟨.inl 22,aY 22 k22,rfl⟩
  .exact⟨.inl 23,aY 23 k23,rfl⟩
  .exact⟨.inl 24,aY 24 k24,rfl⟩
 .exact(.cons (aY 1 k1) rfl (.cons (aY 2 k2) rfl (.cons (aY 3 k3) rfl (.cons (aY 4 k4) rfl (.cons (aY 5 k5) rfl (.cons (aY 6 k6) rfl (.cons (aY 7 k7) rfl (.cons (aY 8 k8) rfl (.cons (aY 9 k9) rfl (.cons (aY 10 k10) rfl (.cons (aY 11 k11) rfl (.cons (aY 12 k12) rfl (.cons (aY 13 k13) rfl (.cons (aY 14 k14) rfl (.cons (aY 15 k15) rfl (.cons (aY 16 k16) rfl (.cons (aY 17 k17) rfl (.cons (aY 18 k18) rfl (.cons (aY 19 k19) rfl (.cons (aY 20 k20) rfl (.cons (aY 21 k21) rfl (.cons (aY 22 k22) rfl (.cons (aY 23 k23) rfl (.cons (aY 24 k24) rfl .nil))))))))))))))))))))))))
 .show([.inl 1,.inl 2,.inl 3,.inl 4,.inl 5,.inl 6,.inl 7,.inl 8,.inl 9,.inl 10,.inl 11,.inl 12,.inl 13,.inl 14,.inl 15,.inl 16,.inl 17,.inl 18,.inl 19,.inl 20,.inl 21,.inl 22,.inl 23,.inl 24]:List Key).Nodup
  decide+kernel
theorem XM(h1:∀H,eV K H t1 [.int 2,.int 0,.ref a.p7])(h2:∀H,eV K H t2 [.int 1,.int 2,.ref a.p8])(h3:∀H,eV K H t3 [.int 1,.int 1,.ref a.pZ])(h4:∀H,eV K H t4 [.int 1,.int 1,.ref a.m6])(h5:∀H,eV K H t5 [.int 1,.int 1,.ref a.pY])(h6:∀H,eV K H t6 [.int 1,.int 0,.ref a.lE])(h7:∀H,eV K H t7 [.int 1,.int 1,.ref a.m_])(h8:∀H,eV K H t8 [.int 2,.int 0,.ref a.su])(h9:∀H,eV K H t9 [.int 3,.int 0,.ref a.lF])(h10:∀H,eV K H t10 [.int 3,.int 0,.ref a.m8])(h11:∀H,eV K H t11 [.int 1,.int 2,.ref a.pX])(h12:∀H,eV K H t12 [.int 2,.int 0,.ref a.nq])(h13:∀H,eV K H t13 [.int 2,.int 1,.ref a.jQ])(h14:∀H,eV K H t14 [.int 2,.int 1,.ref a.jN])(h15:∀H,eV K H t15 [.int 3,.int 0,.ref a.jR])(h16:∀H,eV K H t16 [.int 2,.int 0,.ref a.jT])(h17:∀H,eV K H t17 [.int 1,.int 0,.ref a.jP])(h18:∀H,eV K H t18 [.int 0,.int 0,.ref a.ni])(h19:∀H,eV K H t19 [.int 1,.int 0,.ref a.m9])(h20:∀H,eV K H t20 [.int 1,.int 0,.ref a.m7])(h21:∀H,eV K H t21 [.int 0,.int 1,.ref a.sE])(h22:∀H,eV K H t22 [.int 2,.int 0,.ref a.nj])(h23:∀H,eV K H t23 [.int 1,.int 2,.ref a.jM])(h24:∀H,eV K H t24 [.int 2,.int 0,.ref a.jO]):GD K a (X8 t1 t2 t3 t4 t5 t6 t7 t8 t9 t10 t11 t12 t13 t14 t15 t16 t17 t18 t19 t20 t21 t22 t23 t24):=by
 intro p nw nr hs
 unfold pW at hs
 rcases iz hs with⟨rfl,rfl,rfl⟩|hs
 .exact⟨t1,rfl,h1⟩
 rcases iz hs with⟨rfl,rfl,rfl⟩|hs
 .exact⟨t2,rfl,h2⟩
 rcases iz hs with⟨rfl,rfl,rfl⟩|hs
 .exact⟨t3,rfl,h3⟩
 rcases iz hs with⟨rfl,rfl,rfl⟩|hs
 .exact⟨t4,rfl,h4⟩
 rcases iz hs with⟨rfl,rfl,rfl⟩|hs
 .exact⟨t5,rfl,h5⟩
 rcases iz hs with⟨rfl,rfl,rfl⟩|hs
 .exact⟨t6,rfl,h6⟩
 rcases iz hs with⟨rfl,rfl,rfl⟩|hs
 .exact⟨t7,rfl,h7⟩
 rcases iz hs with⟨rfl,rfl,rfl⟩|hs
 .exact⟨t8,rfl,h8⟩
 rcases iz hs with⟨rfl,rfl,rfl⟩|hs
 .exact⟨t9,rfl,h9⟩
 rcases iz hs with⟨rfl,rfl,rfl⟩|hs
 .exact⟨t10,rfl,h10⟩
 rcases iz hs with⟨rfl,rfl,rfl⟩|hs
 .exact⟨t11,rfl,h11⟩
 rcases iz hs with⟨rfl,rfl,rfl⟩|hs
 .exact⟨t12,rfl,h12⟩
 rcases iz hs with⟨rfl,rfl,rfl⟩|hs
 .exact⟨t13,rfl,h13⟩
 rcases iz hs with⟨rfl,rfl,rfl⟩|hs
 .exact⟨t14,rfl,h14⟩
 rcases iz hs with⟨rfl,rfl,rfl⟩|hs
 .exact⟨t15,rfl,h15⟩
 rcases iz hs with⟨rfl,rfl,rfl⟩|hs
 .exact⟨t16,rfl,h16⟩
 rcases iz hs with⟨rfl,rfl,rfl⟩|hs
 .exact⟨t17,rfl,h17⟩
 rcases iz hs with⟨rfl,rfl,rfl⟩|hs
 .exact⟨t18,rfl,h18⟩
 rcases iz hs with⟨rfl,rfl,rfl⟩|hs
 .exact⟨t19,rfl,h19⟩
 rcases iz hs with⟨rfl,rfl,rfl⟩|hs
 .exact⟨t20,rfl,h20⟩
 rcases iz hs with⟨rfl,rfl,rfl⟩|hs
 .exact⟨t21,rfl,h21⟩
 rcases iz hs with⟨rfl,rfl,rfl⟩|hs
 .exact⟨t22,rfl,h22⟩
 rcases iz hs with⟨rfl,rfl,rfl⟩|hs
 .exact⟨t23,rfl,h23⟩
 rcases iz hs with⟨rfl,rfl,rfl⟩|hs
 .exact⟨t24,rfl,h24⟩
 cases hs
end
end Kv
namespace Kv
open PySem PySem.Spec PyProof.Rows L2
open PySem.W (nsIn tabIn TabsAt CodeHd exmOne)
section
variable{K:bw}{mg:Str->Option Value}{h:Heap}
theorem afY{mQ Hw uE Mz eE qP mO Hu fC zj jl Hv gb eU j8 iB vP lZ kO ug BZ pL qN gP lV nA vQ qO vR iH vM mj iT gM gO qK um uo zc nU nH nG pI nQ kW nO uh iZ nJ lW nM qJ vN y_ qM jc nR za nW m5 kY lX f9 iI pJ fD pK vO lY pH qI p7 p8 pZ m6 pY lE m_ su lF m8 pX nq i_ jQ jN jR jT jP ni m9 m7 sE nj jM jO qL nu mJ vA:Addr}
  (d8:Y6 K mg "Value" "Value.__init__" z_ mQ Hw)
  (b_:cM K mQ "numbers")
  (tL:cM K mQ "depth")
  (gQ:cM K mQ "weight")
  (dW:Y6 K mg "Step" "Step.__init__" CQ uE Mz)
  (fL:cM K uE "tag")
  (u6:cM K uE "depth")
  (d7:cM K uE "own")
  (dO:Y6 K mg "Difference" "Difference.__init__" rC eE qP)
  (lH:cM K eE "where")
  (jd:cM K eE "entry")
  (bO:Y6 K mg "Entry" "Entry.__init__" z8 mO Hu)
  (dG:cM K mO "key")
  (d9:cM K mO "value")
  (cR:cM K mO "place")
  (u5:cM K mO "room")
  (aC:Y6 K mg "Version" "Version.__init__" wg fC zj)
  (bH:cM K fC "kind")
  (bB:cM K fC "order")
  (aP:cM K fC "entries")
  (dh:cM K fC "room")
  (fW:Y6 K mg "Shelf" "Shelf.__init__" z9 jl Hv)
  (dY:cM K jl "versions")
  (lJ:cM K jl "used")
  (fK:cM K jl "following")
  (oM:Err K mg "NoRange" gb)
  (rY:Err K mg "NoAbsent" eU)
  (vK:Err K mg "NoKind" j8)
  (BV:Err K mg "NoFull" iB)
  (wM:cV K mg "own_span" "own_span" Ge vP)
  (mD:cV K mg "steps_through" "steps_through" uP lZ)
  (oN:cV K mg "common_divisor" "common_divisor" sX kO)
  (xJ:cV K mg "is_lowest" "is_lowest" Df ug)
  (DK:cV K mg "digits" "digits" Oc BZ)
  (tY:cV K mg "step_weight" "step_weight" yI pL)
  (oW:cV K mg "read_value" "read_value" Ai qN)
  (gW:cV K mg "may_be_handed_over" "may_be_handed_over" oE gP)
  (cu:cV K mg "checked_value" "checked_value" uL lV)
  (rG:cV K mg "end_of_value" "end_of_value" wk nA)
  (qg:cV K mg "parts_of" "parts_of" Gf vQ)
  (vh:cV K mg "step_codes" "step_codes" Aj qO)
  (jj:cV K mg "place_of" "place_of" Gg vR)
  (j6:cV K mg "have_same_entries" "have_same_entries" pB iH)
  (Aq:cV K mg "are_same" "are_same" Fz vM)
  (mF:cV K mg "values_by_key" "values_by_key" uQ mj)
  (tV:cV K mg "differences" "differences" yF iT)
  (jG:cV K mg "difference_numbers" "difference_numbers" ou gM)
  (gR:cV K mg "is_kind_with_order" "is_kind_with_order" oA gO)
  (oV:cV K mg "pair_entry" "pair_entry" Af qK)
  (uD:cV K mg "key_entry" "key_entry" Dh um)
  (qy:cV K mg "row_entry" "row_entry" Di uo)
  (oX:cV K mg "room_of" "room_of" Jy zc)
  (oG:cV K mg "room_between" "room_between" wG nU)
  (cC:cV K mg "find_version" "find_version" wz nH)
  (dB:cV K mg "find_of_kind" "find_of_kind" wu nG)
  (jV:cV K mg "demand_room" "demand_room" yE pI)
  (d_:cV K mg "keep_version" "keep_version" wD nQ)
  (oR:cV K mg "forget_version" "forget_version" sY kW)
  (gU:cV K mg "keep_spliced" "keep_spliced" wC nO)
  (xK:cV K mg "keep_part" "keep_part" Dg uh)
  (ji:cV K mg "first_not_before" "first_not_before" qb iZ)
  (lg:cV K mg "first_behind" "first_behind" wA nJ)
  (mz:cV K mg "entry_numbers" "entry_numbers" uM lW)
  (rH:cV K mg "form_numbers" "form_numbers" wB nM)
  (rJ:cV K mg "is_list_of" "is_list_of" Ae qJ)
  (wL:cV K mg "is_whole" "is_whole" FZ vN)
  (Eh:cV K mg "is_form" "is_form" Jw y_)
  (vg:cV K mg "read_entry" "read_entry" Ah qM)
  (lO:cV K mg "may_stand_behind" "may_stand_behind" qe jc)
  (rK:cV K mg "read_entries" "read_entries" wF nR)
  (zF:cV K mg "keys_of" "keys_of" Jx za)
  (oH:cV K mg "without_keys" "without_keys" wH nW)
  (wK:cV K mg "by_place" "by_place" FJ m5)
  (oU:cV K mg "joined_by_keys" "joined_by_keys" sZ kY)
  (pR:cV K mg "joined_queues" "joined_queues" uN lX)
  (jq:cV K mg "keep_joined_by_keys" "keep_joined_by_keys" mL f9)
  (j7:cV K mg "keep_joined_whole" "keep_joined_whole" pC iI)
  (tW:cV K mg "keep_joined" "keep_joined" yG pJ)
  (oY:cV K mg "sorted_entries" "sorted_entries" tu fD)
  (tX:cV K mg "keep_sorted" "keep_sorted" yH pK)
  (tE:cV K mg "key_span" "key_span" Gd vO)
  (mC:cV K mg "keep_with_key" "keep_with_key" uO lY)
  (pO:cV K mg "check_order" "check_order" yD pH)
  (oO:cV K mg "end_within" "end_within" Ac qI)
  (Gp:cV K mg "call_new" "call_new" FT p7)
  (Gq:cV K mg "call_put" "call_put" FW p8)
  (Gn:cV K mg "call_key" "call_key" FQ pZ)
  (Dr:cV K mg "call_drop" "call_drop" CT m6)
  (Gm:cV K mg "call_get" "call_get" FP pY)
  (Ar:cV K mg "call_count" "call_count" Aa lE)
  (Dv:cV K mg "call_rank" "call_rank" C_ m_)
  (JF:cV K mg "call_at" "call_at" Ju su)
  (Av:cV K mg "call_range" "call_range" Ab lF)
  (Dt:cV K mg "call_join" "call_join" CW m8)
  (Gk:cV K mg "call_add" "call_add" FN pX)
  (DG:cV K mg "call_take" "call_take" De nq)
  (gj:cV K mg "keep_changed_row" "keep_changed_row" qd i_)
  (yO:cV K mg "call_insert" "call_insert" yw jQ)
  (yL:cV K mg "call_change" "call_change" yr jN)
  (yP:cV K mg "call_remove" "call_remove" yx jR)
  (yQ:cV K mg "call_sorted" "call_sorted" yC jT)
  (yN:cV K mg "call_forget" "call_forget" yu jP)
  (Dy:cV K mg "call_room" "call_room" Dc ni)
  (Du:cV K mg "call_kind" "call_kind" CZ m9)
  (Ds:cV K mg "call_form" "call_form" CV m7)
  (JG:cV K mg "call_of" "call_of" Jv sE)
  (Dz:cV K mg "call_same" "call_same" Dd nj)
  (yK:cV K mg "call_before" "call_before" yq jM)
  (yM:cV K mg "call_differ" "call_differ" yt jO)
  (vf:cV K mg "read_calls" "read_calls" Ag qL)
  (rF:cV K mg "check_wholes" "check_wholes" wj nu)
  (tU:cV K mg "answer_call" "answer_call" tQ mJ)
  (Eg:cV K mg "answers" "answers" Ef vA)
  (R9:∃t,mg "TRUTH"=some (.int 0 t))
  (nZ:∃t,mg "NUMBER"=some (.int 1 t))
  (Ck:∃t,mg "TEXT"=some (.int 2 t))
  (vU:∃t,mg "LIST"=some (.int 3 t))
  (vV:∃t,mg "LIST_END"=some (.int 4 t))
  (zP:∃t,mg "MOST_DEPTH"=some (.int 40 t))
  (zO:∃t,mg "MOST_COUNT"=some (.int 4096 t))
  (vW:∃t,mg "TURNED_ROUND"=some (.int 1 t))
  (mK:∃t,mg "SHORTER_TEXTS_FIRST"=some (.int 2 t))
  (Yt:∃t,mg "END"=some (.int (-1) t))
  (Fl:∃t,mg "FINENESS"=some (.int 85070591730234615865843651857942052864 t))
  (sJ:∃t,mg "IN_FIRST_ALONE"=some (.int 0 t))
  (qQ:∃t,mg "IN_SECOND_ALONE"=some (.int 1 t))
  (Jg:∃t,mg "IN_BOTH"=some (.int 2 t))
  (Ay:∃t,mg "MAP"=some (.int 0 t))
  (Et:∃t,mg "SET"=some (.int 1 t))
  (qR:∃t,mg "QUEUE"=some (.int 2 t))
  (Q5:∃t,mg "ROW"=some (.int 3 t))
  (u0:∃t,mg "LAST_ORDER"=some (.int 2 t))
  (uI:∃t,mg "MOST_VERSIONS"=some (.int 1024 t))
  (Ci:∃t,mg "MOST_ROOM"=some (.int 1000000 t))
  (xZ:∃t,mg "NUMBERS_END"=some (.int 1000000 t))
  (tK:∃t,mg "ALL_OF_BOTH"=some (.int 0 t))
  (Cg:∃t,mg "IN_SECOND"=some (.int 1 t))
  (uJ:∃t,mg "NOT_IN_SECOND"=some (.int 2 t))
  (xX:∃t,mg "IN_JUST_ONE"=some (.int 3 t))
  (xY:∃t,mg "LAST_NUMBER"=some (.int 4294967295 t))
  (iu:∃t,mg "TOLD"=some (.int 0 t))
  (zm:∃t,mg "NOTHING"=some (.int 1 t))
  (R8:∃t,mg "FAULT"=some (.int 2 t))
  (Fo:∃t,mg "NO_RANGE"=some (.int (-1) t))
  (Cj:∃t,mg "NO_ABSENT"=some (.int (-2) t))
  (Ji:∃t,mg "NO_KIND"=some (.int (-3) t))
  (Jh:∃t,mg "NO_FULL"=some (.int (-4) t))
  (Fp:∃t,mg "X_BEFORE"=some (.int 0 t))
  (Ce:∃t,mg "BOTH_SAME"=some (.int 1 t))
  (Fq:∃t,mg "Y_BEFORE"=some (.int 2 t))
  (iR:mg "len"=none)
  (X7:mg "range"=none)
  (aa0:mg "sum"=none)
  (X6:mg "abs"=none)
  (aaZ:mg "str"=none)
  (xR:mg "list"=none)
  (G_:mg "tuple"=none)
  (BL:mg "sorted"=none)
  (aee:mg "min"=none)
  (aaY:mg "max"=none)
  (JV:mg "enumerate"=none)
  (aa1:mg "zip"=none)
  (LR:mg "reversed"=none)
  (aaX:mg "all"=none)
  :Txt K mg ⟨mQ,Hw,uE,Mz,eE,qP,mO,Hu,fC,zj,jl,Hv,gb,eU,j8,iB,vP,lZ,kO,ug,BZ,pL,qN,gP,lV,nA,vQ,qO,vR,iH,vM,mj,iT,gM,gO,qK,um,uo,zc,nU,nH,nG,pI,nQ,kW,nO,uh,iZ,nJ,lW,nM,qJ,vN,y_,qM,jc,nR,za,nW,m5,kY,lX,f9,iI,pJ,fD,pK,vO,lY,pH,qI,p7,p8,pZ,m6,pY,lE,m_,su,lF,m8,pX,nq,i_,jQ,jN,jR,jT,jP,ni,m9,m7,sE,nj,jM,jO,qL,nu,mJ,vA⟩:=
 ⟨d8,b_,tL,gQ,dW,fL,u6,d7,dO,lH,jd,bO,dG,d9,cR,u5,aC,bH,bB,aP,dh,fW,dY,lJ,fK,oM,rY,vK,BV,wM,mD,oN,xJ,DK,tY,oW,gW,cu,rG,qg,vh,jj,j6,Aq,mF,tV,jG,gR,oV,uD,qy,oX,oG,cC,dB,jV,d_,oR,gU,xK,ji,lg,mz,rH,rJ,wL,Eh,vg,lO,rK,zF,oH,wK,oU,pR,jq,j7,tW,oY,tX,tE,mC,pO,oO,Gp,Gq,Gn,Dr,Gm,Ar,Dv,JF,Av,Dt,Gk,DG,gj,yO,yL,yP,yQ,yN,Dy,Du,Ds,JG,Dz,yK,yM,vf,rF,tU,Eg,R9,nZ,Ck,vU,vV,zP,zO,vW,mK,Yt,Fl,sJ,qQ,Jg,Ay,Et,qR,Q5,u0,uI,Ci,xZ,tK,Cg,uJ,xX,xY,iu,zm,R8,Fo,Cj,Ji,Jh,Fp,Ce,Fq,iR,X7,aa0,X6,aaZ,xR,G_,BL,aee,aaY,JV,aa1,LR,aaX⟩
def tG(K:bw):Tb:=⟨((tabIn K "by_place").getD (0,0)).1,((tabIn K "by_place").getD (0,0)).2,((tabIn K "differences").getD (0,0)).1,((tabIn K "differences").getD (0,0)).2,((tabIn K "sorted_entries").getD (0,0)).1,((tabIn K "sorted_entries").getD (0,0)).2⟩
def N5(K:bw):List (Addr×Addr):=[((tG K).c1,(tG K).P1),((tG K).c2,(tG K).P2),((tG K).c3,(tG K).P3)]
def DN(K:bw):Bool:=((tabIn K "by_place").isSome&&((tabIn K "differences").isSome&&(tabIn K "sorted_entries").isSome))&&(!((tG K).P1==(tG K).P2)&&(!((tG K).P1==(tG K).P3)&& !((tG K).P2==(tG K).P3)))
theorem Ei{x:Str}(g:(tabIn K x).isSome=true):tabIn K x=some (((tabIn K x).getD (0,0)).1,((tabIn K x).getD (0,0)).2):=by
 obtain⟨⟨c,P⟩,e⟩:=Qq.mp g
 rw[e];rfl
theorem Sg{x:Str}{f c P:Addr}(n:nsIn K lA x=some (some (.ref f)))(t:tabIn K x=some (c,P))(X:K.In h)(hd:CodeHd h c P):acZ K f c P:=by
 unfold tabIn at t
 rw[n] at t
 dsimp only at t
 split at t
 .rename_i oc od fd osl hf
  split at t
  .rename_i c2 hc
   split at t
   .rename_i oc2 od2 vs apb hk
    split at t
    .rename_i P2 hv
     cases t
     refine⟨fun oc3 od3 fd3 apc e=>?_,fun h' X'=>?_⟩
     .rw[hf] at e;cases e;exact hc
     .obtain⟨o,vs',file,tf,flags,tg,inF,text,tt,e1,r⟩:=hd
      rw[X _ _ hk] at e1
      exact⟨o,vs',file,tf,flags,tg,inF,text,tt,by rw[<-e1];exact X' _ _ hk,r⟩
    .cases t
   .cases t
  .cases t
 .cases t
theorem adD{a:Ad}{base:Heap}(X:K.In h)(n1:nsIn K lA "by_place"=some (some (.ref a.m5)))(n2:nsIn K lA "differences"=some (some (.ref a.iT)))(n3:nsIn K lA "sorted_entries"=some (some (.ref a.fD)))
  (g:DN K=true)(TT:TabsAt (N5 K) h)(bm:BMain mg base):yS K mg base a (tG K):=by
 unfold DN at g
 simp only[lB,GR,beq_eq_false_iff_ne] at g
 obtain⟨⟨g1,g2,g3⟩,m1,m2,m3⟩:=g
 exact⟨bm,Sg n1 (Ei g1) X (TT ((tG K).c1,(tG K).P1) (by simp[N5])).1,Sg n2 (Ei g2) X (TT ((tG K).c2,(tG K).P2) (by simp[N5])).1,Sg n3 (Ei g3) X (TT ((tG K).c3,(tG K).P3) (by simp[N5])).1,m1,m2,m3⟩
theorem aea{q:Program}{loose:List Str}{mean:ExcName->Option Value}{mb:Str->Option Value}(T:Top q loose mean mg mb h)(X:K.In h)(g:DN K=true)
  (r1:((recsOf q).find? (fun e=>e.name==("by_place":Str))).isSome=true)(r2:((recsOf q).find? (fun e=>e.name==("differences":Str))).isSome=true)(r3:((recsOf q).find? (fun e=>e.name==("sorted_entries":Str))).isSome=true):TabsAt (N5 K) h:=by
 unfold DN at g
 simp only[lB] at g
 obtain⟨⟨g1,g2,g3⟩,_⟩:=g
 obtain⟨d1,e1⟩:=Qq.mp r1
 obtain⟨d2,e2⟩:=Qq.mp r2
 obtain⟨d3,e3⟩:=Qq.mp r3
 intro q hq
 simp only[N5,bU,Um,or_false] at hq
 rcases hq with rfl|rfl|rfl
 .exact PySem.W.tab_of T X e1 (Ei g1)
 .exact PySem.W.tab_of T X e2 (Ei g2)
 .exact PySem.W.tab_of T X e3 (Ei g3)
theorem all_mk{w:World}{a:Ad}{d fa:Addr}{kvs:List (Key×Value)}(T:Txt K mg a)(C:Cat K a)(D0:Lw w K mg d kvs)(SH:GD K a kvs)(hfa:mg "answers"=some (.ref fa))(X:K.In h)
  (n1:nsIn K lA "by_place"=some (some (.ref a.m5)))(n2:nsIn K lA "differences"=some (some (.ref a.iT)))(n3:nsIn K lA "sorted_entries"=some (some (.ref a.fD)))
  (g:DN K=true)(TT:TabsAt (N5 K) h):
  ∃fd:FuncData,(∀(s:Shared) (us:List Value),us.length=(["calls"]:List Str).length->BindsTo s fd ⟨us,[]⟩ ((["calls"]:List Str).zip us))/\∀base:Heap,K.In base->base.Ns lA mg->BMain mg base->Fg PP w K mg base (CX1 PP w) 14 fa fd ["calls"] (JD K (tG K)):=by
 have e:=hfa.symm.trans T.Eg.glob
 cases e
 obtain⟨fd,F⟩:=T.Eg.fn
 refine⟨fd,?_,fun base _ _ bm=>Xq T (adD X n1 n2 n3 g TT bm) C D0 SH F⟩
 obtain⟨oc,od,kV,doc,pm,an,cdv,ct,osl,rfl,lk,hcd⟩:=F.ex
 exact fun s us hu=>match us,hu with|[_],_=> .of_eq rfl
end
end Kv
open PySem PySem.W PyProof.Rows L2 Kv
namespace PySem.W.Fast
def tw14015020790492158823:=0
def tw16869379965783288844:=0
def tw16609209808758723836:=0
def tw13641284615012001265:=0
def tw10268362020883106935:=0
def tw2734912028302168725:=0
def tw11538209784660404735:=0
def tw7268056330104440446:=0
def tw873003625471544531:=0
def tw13607997350231125702:=0
def tw7973386836067657735:=0
def tw3664944558987501361:=0
def tw6738616257422745773:=0
def tw6174176442193783875:=0
def tw181014476002313193:=0
def tw5718584420857589079:=0
def tw577110399396902474:=0
def tw7451927846612586324:=0
def tw7758369705324456734:=0
def tw3132394654569422750:=0
def tw14948030706950104759:=0
def tw11767871120849391083:=0
def tw17429093752204824090:=0
def tw13424838314491331361:=0
def tw12727562390371909209:=0
def tw1048322423140749434:=0
def tw2479592287303973259:=0
def tw7803391020676934527:=0
def tw14797918461477337885:=0
def tw9629976695312120269:=0
def tw10980473736130782269:=0
def tw7634588610354598204:=0
def tw875656992943408795:=0
def tw4741211325942881470:=0
def tw14371177526229078247:=0
def tw8570934773726029445:=0
def tw930452800091493518:=0
def tw7687671398604657972:=0
def tw17249143256767677082:=0
def tw14633930847465992237:=0
def tw12295908336932886929:=0
def tw242647784004076844:=0
def tw3602859850681773682:=0
def tw4090959340284473469:=0
def tw6015266569113888394:=0
def tw10462553458094460042:=0
def tw15472624438356190613:=0
def tw15766857356436697715:=0
def tw16435440166662602721:=0
def tw6723526824447992701:=0
def tw8548331066902783799:=0
def tw6792237398836331810:=0
def tw17498254108675928976:=0
def tw1148138148572266538:=0
def tw4902103833112034041:=0
def tw10862399213423610478:=0
def tw8191427826873075810:=0
def tw2978990362714098304:=0
def tw1525490084950631981:=0
def tw15058101137158598071:=0
def tw13833394591752294660:=0
def tw1483716557048678237:=0
def tw4245715613062993456:=0
def tw9260091462564792001:=0
def tw735817218698407389:=0
def tw12865836044568956775:=0
def tw3258635447603618959:=0
def tw4935139383000037361:=0
def tw5332401077396032396:=0
def tw813785690124908467:=0
def tw12492431526698046481:=0
def tw16965904406611184575:=0
def tw4818635577523036918:=0
def tw6153748103068256887:=0
def tw6233470329494448157:=0
def tw5754337414518863230:=0
def tw15456308904242557629:=0
def tw12175476856553414297:=0
def tw15126529106163741085:=0
def tw16907988603805969208:=0
def tw16025431211299180181:=0
def tw6259256725634441858:=0
def tw12183069584162526708:=0
def tw6680122530341633174:=0
def tw11961738945217954927:=0
def tw15007905069486792516:=0
def tw6337556180629939206:=0
def tw534428733493517635:=0
def tw3142061360863535117:=0
def tw15041029663989997109:=0
def tw9750542632363036787:=0
def tw10439481169369469377:=0
def tw6433801243678392359:=0
def tw3805286075206974219:=0
def tw8359609793768062182:=0
def tw10659713163738041162:=0
def tw6102768950202242688:=0
def tw8993837638314114110:=0
def tw2945194615785977878:=0
def tw2942870911247918048:=0
def tw1120716499282532865:=0
def tw484083537178273858:=0
def tw9417719761851924728:=0
def tw10525131657152159387:=0
def tw1253035066181559590:=0
def tw15903856463675245518:=0
def tw10005415757119881423:=0
def tw6371531483742224957:=0
def tw16663020105027315819:=0
def tw3981583918598155651:=0
def tw3040101875493509237:=0
def tw7552036417164838085:=0
def tw11524887619753326951:=0
def tw16420160516947914441:=0
def tw9562750600983982174:=0
def tw7683525497770884405:=0
def tw6935273764160972724:=0
def tw16056448302048252652:=0
def tw11683999437119542075:=0
def tw9375919619776765875:=0
def tw14413635400548356673:=0
def tw16448823678161016702:=0
def tw14225530384257533597:=0
def tw14328565536053479666:=0
def tw2973767415456406544:=0
def tw18377120673256087656:=0
def tw15611979392076803721:=0
def tw3674801548380246981:=0
def tw13164030687154036924:=0
def tw2924124791487123082:=0
def tw18361961833245668967:=0
def tw13480852521211208000:=0
def tw8695680552569738541:=0
def tw7883521522675322624:=0
def tw14171915328921322738:=0
def tw7270333937334325323:=0
def tw3457298466042763837:=0
def tw17842720652658032440:=0
def tw1748038668738929218:=0
def tw243215882395359805:=0
def tw17393844532950585240:=0
def tw8514149878925630115:=0
def tw9897876007892153953:=0
def tw7153669749955792675:=0
def tw16937894899120518190:=0
def tw616310579293191228:=0
def tw7387391651934674307:=0
def tw16896269741230085062:=0
def tw16695221675944936015:=0
def tw6782610185274555569:=0
def tw12062930386355355124:=0
def tw11963330786648092761:=0
def tw2794517694801924880:=0
def tw12033846367341949000:=0
def tw5040415299885224180:=0
def tw9787645019553572097:=0
def tw13511655332057788967:=0
def tw7427838629783190796:=0
def tw17050435277599680642:=0
def tw18227284549065516391:=0
def tw7037936858227676398:=0
def tw6740554689118050750:=0
def tw15866739395883715693:=0
def tw14219499269366361424:=0
def tw8354392068346422372:=0
def tw12986867024798747164:=0
def tw11924813605002768872:=0
def tw16384360818394037721:=0
def tw9152915801986973841:=0
def tw14938221128518990297:=0
def tw14830043198690450773:=0
def tw2630402074455165982:=0
def tw2123293681907817401:=0
def tw4704380041773216555:=0
def tw57253026951642820:=0
def tw18024331289328892799:=0
def tw5506840050729719252:=0
def tw11295808074125531938:=0
def tw473831240672711361:=0
def tw6658209394200115666:=0
def tw1079996291598115317:=0
def tw11136988426759289246:=0
def tw7407895037006717591:=0
def tw5712221045721464494:=0
def tw4147793416170121396:=0
def tw10929338166230841330:=0
def tw763497536697497503:=0
def tw14289656461762250109:=0
def tw13267282671663404156:=0
def tw1825621661170456855:=0
def tw11264473542212786476:=0
def tw15140666338377290446:=0
def tw2934649584542814723:=0
def tw5074543543087187520:=0
def tw7762505718110408070:=0
def tw6341563949387131436:=0
def tw2856252188702434844:=0
def tw3510593521358054233:=0
def tw7779641201006906643:=0
def tw10215380958118678282:=0
def tw641026695691516592:=0
def tw17985096646024695848:=0
def tw13117490115691562703:=0
def tw8493572139693452587:=0
def tw13315069641857548050:=0
def tw9508355669297376655:=0
def tw9284959008202105554:=0
def tw15948328319420362298:=0
def tw16339775846567267637:=0
def tw7197046374469781412:=0
def tw6173438324774608835:=0
def tw16359639539142608524:=0
def tw4011680035463794941:=0
def tw10086306579476508324:=0
def tw11666017909238916425:=0
def tw13302370281114449382:=0
def tw1257465219442924315:=0
def tw5438692892829159871:=0
def tw8976681529331643461:=0
def tw6189998421193475400:=0
def tw9686930106196348709:=0
def tw16749918493939867099:=0
def tw1862055493685357781:=0
def tw11948971584103822688:=0
def tw2611264449855828129:=0
def tw7407957247764952624:=0
def tw18287282243521733721:=0
def tw16088853210454599525:=0
def tw15598837130440877344:=0
def tw6465504935568516924:=0
def tw4343055070264944500:=0
def tw17353754978039512051:=0
def tw9918231609032986320:=0
def tw12020276729673967019:=0
def tw5697804099555057364:=0
def tw11995601955571809371:=0
def tw12569975720089116873:=0
def tw11473256778860153767:=0
def tw1776546329599094264:=0
def tw2302652300829425783:=0
def tw8334886244763959693:=0
def tw11351879569205887077:=0
def tw10125537511450989456:=0
def tw14626420082042968165:=0
def tw11538891460560054512:=0
def tw7281759497745025664:=0
def tw14002815952463997001:=0
def tw14967326279032990940:=0
def tw5568665666759301039:=0
def tw15266992030505553221:=0
def tw1412681083273999546:=0
def tw3501448819813005220:=0
def tw11123314682406743224:=0
def tw12528658754308282837:=0
def tw10703645239761069619:=0
def tw3906672039428486761:=0
def tw17942697680026367040:=0
def tw5927268246899210224:=0
def tw14750884566200973223:=0
def tw17875562763769592454:=0
def tw6713765227515711442:=0
def tw16632120178179391622:=0
def tw5786909308294774043:=0
def tw14066571122839590969:=0
def tw12775984354229304635:=0
def tw4680928274135226610:=0
def tw177644139776703140:=0
def tw16055223839358359942:=0
def tw13473435134492782006:=0
def tw9323535706700604493:=0
def tw1573109533435841364:=0
def tw17728016987055356194:=0
def tw1131714597736136842:=0
def tw6142695436848556434:=0
def tw9929389851599949706:=0
def tw8207554130808268988:=0
def tw2454673701630965273:=0
def tw8997255084084274500:=0
def tw16498746419973646560:=0
def tw17332043689939964337:=0
def tw6038184411030837669:=0
def tw16607211694573265759:=0
def tw2342068370155896773:=0
def tw14560082109379776967:=0
def tw522506511313096994:=0
def tw8850955423146136494:=0
def tw4101868498676137289:=0
def tw522107320592872015:=0
def tw769150254919548869:=0
def tw3680883631374865560:=0
def tw13698086155638329162:=0
def tw13310247574331395770:=0
def tw15916969638958196586:=0
def tw10774650946877037341:=0
def tw9211087376209332462:=0
def tw8072910147154361328:=0
def tw3813050778303090444:=0
def tw6936304513217981413:=0
def tw10148370235567882396:=0
def tw4402570134090525624:=0
def tw11794209625280420045:=0
def tw12396950923868753236:=0
def tw17035851303000083606:=0
def tw4822574907112157500:=0
def tw17887295309402638376:=0
def tw3745252103016631730:=0
def tw17190671467627207027:=0
def tw6147253821281387589:=0
def tw13328106011719464504:=0
def tw13229157379339213008:=0
def tw218554118273554585:=0
def tw9256969163874764537:=0
def tw17612933589152884843:=0
def tw14153050429814617780:=0
def tw2890618310013710304:=0
def tw3319693725483635163:=0
def tw13756637137129731129:=0
def tw9513585119205341227:=0
def tw9583814559782508216:=0
def tw9872627192326824466:=0
def tw5266662086956000947:=0
def tw17215511801682025164:=0
def tw2161841540046308071:=0
def tw9407258881162600795:=0
def tw14089512808559378115:=0
def tw13657478496466362950:=0
def tw10751063000160598509:=0
def tw10793322393093830210:=0
def tw8519212421868509981:=0
def tw7303760568871006088:=0
def tw17759019783461876205:=0
def tw24270323893790154:=0
def tw4324115712158809391:=0
def tw5123373305125026831:=0
def tw9749240094201637999:=0
def tw8701027407597828370:=0
def tw9628248055941564927:=0
def tw14415149668698536490:=0
def tw10621355762579060012:=0
def tw8137009880663115509:=0
def tw10868783387003366189:=0
def tw11511367425566669284:=0
def tw11191193428216824384:=0
def tw18359576944595877493:=0
def tw11093535370091675717:=0
def tw7470241737495158487:=0
def tw16439082842950300899:=0
def tw4314538073331386020:=0
def tw14193482579714773078:=0
def tw12037909904829423138:=0
end PySem.W.Fast
set_option maxHeartbeats 0
theorem PySem.Challenge.cw_keptversions_s01_answers_holds : PySem.Challenge.rw_keptversions_s01_answers.Holds := by
 w_on; k_headS; (case hw => exact ⟨[.list [.int 18]], by decide +kernel, by decide +kernel⟩)
 k_fillS
 refine L2.XR (r:=PySem.Challenge.rw_keptversions_s01_answers) (k:=14) (CX:=fun w=>CX1 PP w) (ps:=["calls"]) (K:=PySem.Challenge.cw_keptversions_s01_answers_holds.heap_1) (sp:=fun w=>JD (PySem.Challenge.cw_keptversions_s01_answers_holds.heap_1 w.params) (tG (PySem.Challenge.cw_keptversions_s01_answers_holds.heap_1 w.params))) (PS:=fun p=>N5 (PySem.Challenge.cw_keptversions_s01_answers_holds.heap_1 p)) (by decide+kernel) rfl ⟨rfl,by decide,by decide⟩ (fun w h Y=>PySem.W.kIn_of Y) (fun p=>by kernel_rfl) ?T ?F ?S ?C
 case T=>
  intro w mg mb mean h T X
  exact aea T X (by kernel_rfl) (by kernel_rfl) (by kernel_rfl) (by kernel_rfl)
 case C=>
  intro w H s e s' z
  obtain⟨_,_,_,_,_,y⟩:=z
  exact y
 case S=>
  intro w H0 H xs a hO hwi aeU hx hsub htab
  cases hx with
  |cons h1 h2=>
   cases h2
   cases h1 with
   |lst hs ha=>
    have e:=L2.Yr a.1 _ ha
    subst e
    have q:((Codec.inLen 0 16000 a.1&&a.1.all (Codec.inInt (-9223372036854775808) 9223372036854775807))&&true)=true:=hwi
    rw[lB,lB] at q
    refine⟨_,a.1,rfl,?_,aeU,(Codec.inNat_iff.mp q.1.1).2,fun z hz=>?_,⟨?_,?_,?_⟩,fun H' p _ _ hp=> .lst (L2.bN.of hp) (L2.Yg _)⟩
    .rcases hs with(y|⟨o,y⟩)|y
     .exact .inl (.inl (hsub _ _ y))
     .exact .inl (.inr ⟨o,hsub _ _ y⟩)
     .exact .inr y
    .exact Codec.inInt_iff.mp (wU.mp q.1.2 z hz)
    .exact⟨#[],htab ((tG (PySem.Challenge.cw_keptversions_s01_answers_holds.heap_1 w.params)).c1,(tG (PySem.Challenge.cw_keptversions_s01_answers_holds.heap_1 w.params)).P1) (by simp[N5]),by exact trivial,.inl rfl⟩
    .exact⟨#[],htab ((tG (PySem.Challenge.cw_keptversions_s01_answers_holds.heap_1 w.params)).c2,(tG (PySem.Challenge.cw_keptversions_s01_answers_holds.heap_1 w.params)).P2) (by simp[N5]),by exact trivial,.inl rfl⟩
    .exact⟨#[],htab ((tG (PySem.Challenge.cw_keptversions_s01_answers_holds.heap_1 w.params)).c3,(tG (PySem.Challenge.cw_keptversions_s01_answers_holds.heap_1 w.params)).P3) (by simp[N5]),by exact trivial,.inl rfl⟩
 case F=>
  intro w mg fa h Y KX G hmg TT
  refine' all_mk (afY (Ja KX G ?g1 ?g2 ?g3 ?g4 ?g5 ?g6 ?g7 ?g8 ?g9 ?g10 ?g11 ?g12) ?g13 ?g14 ?g15 (Ja KX G ?g16 ?g17 ?g18 ?g19 ?g20 ?g21 ?g22 ?g23 ?g24 ?g25 ?g26 ?g27) ?g28 ?g29 ?g30 (Ja KX G ?g31 ?g32 ?g33 ?g34 ?g35 ?g36 ?g37 ?g38 ?g39 ?g40 ?g41 ?g42) ?g43 ?g44 (Ja KX G ?g45 ?g46 ?g47 ?g48 ?g49 ?g50 ?g51 ?g52 ?g53 ?g54 ?g55 ?g56) ?g57 ?g58 ?g59 ?g60 (Ja KX G ?g61 ?g62 ?g63 ?g64 ?g65 ?g66 ?g67 ?g68 ?g69 ?g70 ?g71 ?g72) ?g73 ?g74 ?g75 ?g76 (Ja KX G ?g77 ?g78 ?g79 ?g80 ?g81 ?g82 ?g83 ?g84 ?g85 ?g86 ?g87 ?g88) ?g89 ?g90 ?g91 (R3 KX G ?g92 ?g93 ?g94 ?g95 ?g96) (R3 KX G ?g97 ?g98 ?g99 ?ag' ?aha) (R3 KX G ?ahb ?ahc ?ahd ?ahe ?ahf) (R3 KX G ?ahg ?ahh ?ahi ?ahj ?ahk) (bh KX G ?ahl ?ahm ?ahn ?aho) (bh KX G ?ahp ?ahq ?ahr ?ahs) (bh KX G ?aht ?ahu ?ahv ?ahw) (bh KX G ?ahx ?ahy ?ahz ?ahA) (bh KX G ?ahB ?ahC ?ahD ?ahE) (bh KX G ?ahF ?ahG ?ahH ?ahI) (bh KX G ?ahJ ?ahK ?ahL ?ahM) (bh KX G ?ahN ?ahO ?ahP ?ahQ) (bh KX G ?ahR ?ahS ?ahT ?ahU) (bh KX G ?ahV ?ahW ?ahX ?ahY) (bh KX G ?ahZ ?ah0 ?ah1 ?ah2) (bh KX G ?ah3 ?ah4 ?ah5 ?ah6) (bh KX G ?ah7 ?ah8 ?ah9 ?ah_) (bh KX G ?ah' ?aia ?aib ?aic) (bh KX G ?aid ?aie ?aif ?aii) (bh KX G ?aij ?aik ?ail ?aim) (bh KX G ?ain ?aio ?aip ?aiq) (bh KX G ?air ?ais ?ait ?aiu) (bh KX G ?aiv ?aiw ?aix ?aiy) (bh KX G ?aiz ?aiA ?aiB ?aiC) (bh KX G ?aiD ?aiE ?aiF ?aiG) (bh KX G ?aiH ?aiI ?aiJ ?aiK) (bh KX G ?aiL ?aiM ?aiN ?aiO) (bh KX G ?aiP ?aiQ ?aiR ?aiS) (bh KX G ?aiT ?aiU ?aiV ?aiW) (bh KX G ?aiX ?aiY ?aiZ ?ai0) (bh KX G ?ai1 ?ai2 ?ai3 ?ai4) (bh KX G ?ai5 ?ai6 ?ai7 ?ai8) (bh KX G ?ai9 ?ai_ ?ai' ?aja) (bh KX G ?ajb ?ajc ?ajd ?aje) (bh KX G ?ajf ?ajg ?ajh ?aji) (bh KX G ?ajj ?ajk ?ajl ?ajm) (bh KX G ?ajn ?ajo ?ajp ?ajq) (bh KX G ?ajr ?ajs ?ajt ?aju) (bh KX G ?ajv ?ajw ?ajx ?ajy) (bh KX G ?ajz ?ajA ?ajB ?ajC) (bh KX G ?ajD ?ajE ?ajF ?ajG) (bh KX G ?ajH ?ajI ?ajJ ?ajK) (bh KX G ?ajL ?ajM ?ajN ?ajO) (bh KX G ?ajP ?ajQ ?ajR ?ajS) (bh KX G ?ajT ?ajU ?ajV ?ajW) (bh KX G ?ajX ?ajY ?ajZ ?aj0) (bh KX G ?aj1 ?aj2 ?aj3 ?aj4) (bh KX G ?aj5 ?aj6 ?aj7 ?aj8) (bh KX G ?aj9 ?aj_ ?aj' ?akb) (bh KX G ?akc ?akd ?ake ?akf) (bh KX G ?akg ?akh ?aki ?akj) (bh KX G ?akk ?akl ?akm ?akn) (bh KX G ?ako ?akp ?akq ?akr) (bh KX G ?aks ?akt ?aku ?akv) (bh KX G ?akx ?aky ?akz ?akA) (bh KX G ?akB ?akC ?akD ?akE) (bh KX G ?akF ?akG ?akH ?akI) (bh KX G ?akJ ?akK ?akL ?akM) (bh KX G ?akN ?akO ?akP ?akQ) (bh KX G ?akR ?akS ?akT ?akU) (bh KX G ?akV ?akW ?akX ?akY) (bh KX G ?akZ ?ak0 ?ak1 ?ak2) (bh KX G ?ak3 ?ak4 ?ak5 ?ak6) (bh KX G ?ak7 ?ak8 ?ak9 ?ak_) (bh KX G ?ak' ?ala ?alb ?alc) (bh KX G ?ald ?ale ?alf ?alg) (bh KX G ?alh ?ali ?alj ?alk) (bh KX G ?alm ?aln ?alo ?alp) (bh KX G ?alq ?alr ?als ?alu) (bh KX G ?alv ?alw ?alx ?aly) (bh KX G ?alz ?alA ?alB ?alC) (bh KX G ?alD ?alE ?alF ?alG) (bh KX G ?alH ?alI ?alJ ?alK) (bh KX G ?alL ?alM ?alN ?alO) (bh KX G ?alP ?alQ ?alR ?alS) (bh KX G ?alT ?alU ?alV ?alW) (bh KX G ?alX ?alY ?alZ ?al0) (bh KX G ?al1 ?al3 ?al4 ?al5) (bh KX G ?al6 ?al7 ?al8 ?al9) (bh KX G ?al_ ?al' ?ama ?amb) (bh KX G ?amc ?amd ?ame ?amf) (bh KX G ?amg ?amh ?ami ?amj) (bh KX G ?amk ?aml ?amm ?amn) (bh KX G ?amo ?amq ?amr ?ams) (bh KX G ?amt ?amu ?amv ?amw) (bh KX G ?amx ?amy ?amA ?amB) (bh KX G ?amC ?amD ?amE ?amF) (bh KX G ?amG ?amH ?amI ?amJ) (dI KX G ?amK) (dI KX G ?amL) (dI KX G ?amM) (dI KX G ?amN) (dI KX G ?amO) (dI KX G ?amP) (dI KX G ?amQ) (dI KX G ?amR) (dI KX G ?amS) (dI KX G ?amT) (dI KX G ?amU) (dI KX G ?amV) (dI KX G ?amW) (dI KX G ?amX) (dI KX G ?amY) (dI KX G ?amZ) (dI KX G ?am0) (dI KX G ?am1) (dI KX G ?am2) (dI KX G ?am3) (dI KX G ?am4) (dI KX G ?am5) (dI KX G ?am6) (dI KX G ?am7) (dI KX G ?am8) (dI KX G ?am9) (dI KX G ?am_) (dI KX G ?am') (dI KX G ?ana) (dI KX G ?anb) (dI KX G ?anc) (dI KX G ?ane) (dI KX G ?anf) (dI KX G ?ang) (dI KX G ?anh) (dI KX G ?ani) (dI KX G ?anj) (mg_none_of KX G ?ank) (mg_none_of KX G ?anl) (mg_none_of KX G ?anm) (mg_none_of KX G ?ano) (mg_none_of KX G ?anp) (mg_none_of KX G ?anq) (mg_none_of KX G ?anr) (mg_none_of KX G ?ant) (mg_none_of KX G ?anu) (mg_none_of KX G ?anv) (mg_none_of KX G ?anw) (mg_none_of KX G ?anx) (mg_none_of KX G ?anz) (mg_none_of KX G ?anA)) ⟨?anB,?anC,?anD,?anE,?anF,?anG,?anH,?anI,?anJ,?anK⟩ (Zu KX G ?anL ?anM) (XM (vm ?anN) (vm ?anO) (vm ?anP) (vm ?anQ) (vm ?anR) (vm ?anS) (vm ?anT) (vm ?anU) (vm ?anV) (vm ?anW) (vm ?anY) (vm ?anZ) (vm ?an0) (vm ?an1) (vm ?an2) (vm ?an3) (vm ?an4) (vm ?an5) (vm ?an6) (vm ?an7) (vm ?an8) (vm ?an9) (vm ?an_) (vm ?an')) hmg KX ?aoa ?aob ?aoc (by kernel_rfl) TT
  case g1|g2|g3|g4|g5|g6|g7|g8|g9|g10|g11|g12=>k_is
  case g13|g14|g15=>show findIn _ _ _=_;k_is
  case g16|g17|g18|g19|g20|g21|g22|g23|g24|g25|g26|g27=>k_is
  case g28|g29|g30=>show findIn _ _ _=_;k_is
  case g31|g32|g33|g34|g35|g36|g37|g38|g39|g40|g41|g42=>k_is
  case g43|g44=>show findIn _ _ _=_;k_is
  case g45|g46|g47|g48|g49|g50|g51|g52|g53|g54|g55|g56=>k_is
  case g57|g58|g59|g60=>show findIn _ _ _=_;k_is
  case g61|g62|g63|g64|g65|g66|g67|g68|g69|g70|g71|g72=>k_is
  case g73|g74|g75|g76=>show findIn _ _ _=_;k_is
  case g77|g78|g79|g80|g81|g82|g83|g84|g85|g86|g87|g88=>k_is
  case g89|g90|g91=>show findIn _ _ _=_;k_is
  case g92|g93|g94=>k_is
  case g95|g96=>rfl
  case g97|g98|g99=>k_is
  case ag'|aha=>rfl
  case ahb|ahc|ahd=>k_is
  case ahe|ahf=>rfl
  case ahg|ahh|ahi=>k_is
  case ahj|ahk=>rfl
  case ahl|ahm|ahn|aho|ahp|ahq|ahr|ahs|aht|ahu|ahv|ahw|ahx|ahy|ahz|ahA|ahB|ahC|ahD|ahE|ahF|ahG|ahH|ahI|ahJ|ahK|ahL|ahM|ahN|ahO|ahP|ahQ|ahR|ahS|ahT|ahU|ahV|ahW|ahX|ahY|ahZ|ah0|ah1|ah2|ah3|ah4|ah5|ah6|ah7|ah8|ah9|ah_|ah'|aia|aib|aic|aid|aie|aif|aii|aij|aik|ail|aim|ain|aio|aip|aiq|air|ais|ait|aiu|aiv|aiw|aix|aiy|aiz|aiA|aiB|aiC|aiD|aiE|aiF|aiG|aiH|aiI|aiJ|aiK|aiL|aiM|aiN|aiO|aiP|aiQ|aiR|aiS|aiT|aiU|aiV|aiW|aiX|aiY|aiZ|ai0|ai1|ai2|ai3|ai4|ai5|ai6|ai7|ai8|ai9|ai_|ai'|aja|ajb|ajc|ajd|aje|ajf|ajg|ajh|aji|ajj|ajk|ajl|ajm|ajn|ajo|ajp|ajq|ajr|ajs|ajt|aju|ajv|ajw|ajx|ajy|ajz|ajA|ajB|ajC|ajD|ajE|ajF|ajG|ajH|ajI|ajJ|ajK|ajL|ajM|ajN|ajO|ajP|ajQ|ajR|ajS|ajT|ajU|ajV|ajW|ajX|ajY|ajZ|aj0|aj1|aj2|aj3|aj4|aj5|aj6|aj7|aj8|aj9|aj_|aj'|akb|akc|akd|ake|akf|akg|akh|aki|akj|akk|akl|akm|akn|ako|akp|akq|akr|aks|akt|aku|akv|akx|aky|akz|akA|akB|akC|akD|akE|akF|akG|akH|akI|akJ|akK|akL|akM|akN|akO|akP|akQ|akR|akS|akT|akU|akV|akW|akX|akY|akZ|ak0|ak1|ak2|ak3|ak4|ak5|ak6|ak7|ak8|ak9|ak_|ak'|ala|alb|alc|ald|ale|alf|alg|alh|ali|alj|alk|alm|aln|alo|alp|alq|alr|als|alu|alv|alw|alx|aly|alz|alA|alB|alC|alD|alE|alF|alG|alH|alI|alJ|alK|alL|alM|alN|alO|alP|alQ|alR|alS|alT|alU|alV|alW|alX|alY|alZ|al0|al1|al3|al4|al5|al6|al7|al8|al9|al_|al'|ama|amb|amc|amd|ame|amf|amg|amh|ami|amj|amk|aml|amm|amn|amo|amq|amr|ams|amt|amu|amv|amw|amx|amy|amA|amB|amC|amD|amE|amF|amG|amH|amI|amJ|amK|amL|amM|amN|amO|amP|amQ|amR|amS|amT|amU|amV|amW|amX|amY|amZ|am0|am1|am2|am3|am4|am5|am6|am7|am8|am9|am_|am'|ana|anb|anc|ane|anf|ang|anh|ani|anj|ank|anl|anm|ano|anp|anq|anr|ant|anu|anv|anw|anx|anz|anA|anL|anM|anN|anO|anP|anQ|anR|anS|anT|anU|anV|anW|anY|anZ|an0|an1|an2|an3|an4|an5|an6|an7|an8|an9|an_|an'|aoa|aob|aoc=>k_is
  case anB|anC|anD|anE|anF|anG|anH|anI|anJ|anK=>kernel_rfl
#print axioms PySem.Challenge.cw_keptversions_s01_answers_holds
